import Derived.Test.YtaemcekcancpdaaGreatDoorZEngM
import Derived.Test.YtaemcekcancpdaaGreatDoorZEngA
set_option linter.all false
set_option maxRecDepth 100000
set_option maxHeartbeats 8000000
open Go.Lib
namespace Go.Proofs.YtaemcekcancpdaaGreatDoor
open Go.RowKit
open M
theorem NQ(i t x y:Int)(A:Option Addr)(n c:Nat)(G:Option Addr)(m kk:Nat)(fp fq fs fz b:Int)(ws gs:List Bx)(k ax ay fx fy u:Int)(gn:Nat)(s p:Int)(z:Bool)(w:World)(I:Boxes w A n ws)(J:Boxes w G m gs)(hQ:Quarter w)(ok:Dh ws=true)(okg:Dh gs=true)(okf:Dd fp fq fs fz=true)(hn:n<=281474976710656)(hm:m<=281474976710656)(hB:StB m ⟨k,ax,ay,fx,fy,u,gn,false,false⟩)(hk9:k<1000000)(s1:-1<=s)(s2:s<=1)(hz:z=true->s=0) :
 Calls Tryz.prog 73 #[Cd k ax ay fx fy u gn false false,CX i t x y A n c G m kk fp fq fs fz b,ctl s p z] w fun e w'=>(∃ K X Y P Q U V D O,stS ws gs fp fq fs fz ⟨k,ax,ay,fx,fy,u,gn,false,false⟩ ⟨s,p,z⟩=⟨K,X,Y,P,Q,U,V,D,O⟩/\e=.returned (Cd K X Y P Q U V D O))/\Below w.heap.size w w':=by
 obtain⟨⟨⟨a1,a2⟩,a3,a4⟩,⟨⟨x1,x2⟩,y1,y2⟩,⟨u0,u1⟩,⟨g0,g1⟩,k0,_⟩:=hB;simp only at a1 a2 a3 a4 x1 x2 y1 y2 u0 u1 g0 g1 k0;replace g1:gn<=m:=by omega
 clear g0;have I:=hid I;have J:=hid J;have hQ:=hid hQ;have ok:=hid ok;have okg:=hid okg;have okf:=hid okf;have S:CellsAt (((w.alloc (.cells #[.int .i64 k,.int .i64 ax,.int .i64 ay,.int .i64 fx,.int .i64 fy,.int .i64 u,.int .i64 gn,.bool false,.bool false] 34)).alloc (.cells #[.int .i64 i,.int .i64 t,.int .i64 x,.int .i64 y,.slice A n c,.slice G m kk,.int .i64 fp,.int .i64 fq,.int .i64 fs,.int .i64 fz,.int .i64 b] 29)).alloc (.cells #[.int .i64 0,.int .i64 0,.int .i64 0,.int .i64 0,.int .i64 0,.int .i64 0,.int .i64 0,.bool false,.bool false] 34)) w.heap.size (AB k ax ay fx fy u gn false false):=((CellsAt.new w _ _ _ rfl).alloc _).alloc _
 have L:CellsAt (((w.alloc (.cells #[.int .i64 k,.int .i64 ax,.int .i64 ay,.int .i64 fx,.int .i64 fy,.int .i64 u,.int .i64 gn,.bool false,.bool false] 34)).alloc (.cells #[.int .i64 i,.int .i64 t,.int .i64 x,.int .i64 y,.slice A n c,.slice G m kk,.int .i64 fp,.int .i64 fq,.int .i64 fs,.int .i64 fz,.int .i64 b] 29)).alloc (.cells #[.int .i64 0,.int .i64 0,.int .i64 0,.int .i64 0,.int .i64 0,.int .i64 0,.int .i64 0,.bool false,.bool false] 34)) (w.heap.size+1) (AX i t x y A n c G m kk fp fq fs fz b):=(CellsAt.new _ _ _ _ (by simp)).alloc _
 have D:CellsAt (((w.alloc (.cells #[.int .i64 k,.int .i64 ax,.int .i64 ay,.int .i64 fx,.int .i64 fy,.int .i64 u,.int .i64 gn,.bool false,.bool false] 34)).alloc (.cells #[.int .i64 i,.int .i64 t,.int .i64 x,.int .i64 y,.slice A n c,.slice G m kk,.int .i64 fp,.int .i64 fq,.int .i64 fs,.int .i64 fz,.int .i64 b] 29)).alloc (.cells #[.int .i64 0,.int .i64 0,.int .i64 0,.int .i64 0,.int .i64 0,.int .i64 0,.int .i64 0,.bool false,.bool false] 34)) (w.heap.size+1+1) (AB 0 0 0 0 0 0 0 false false):=CellsAt.new _ _ _ _ (by simp)
 have H:=hid (Aa (Aa (Aa (Ac w) (.cells #[.int .i64 k,.int .i64 ax,.int .i64 ay,.int .i64 fx,.int .i64 fy,.int .i64 u,.int .i64 gn,.bool false,.bool false] 34)) (.cells #[.int .i64 i,.int .i64 t,.int .i64 x,.int .i64 y,.slice A n c,.slice G m kk,.int .i64 fp,.int .i64 fq,.int .i64 fs,.int .i64 fz,.int .i64 b] 29)) (.cells #[.int .i64 0,.int .i64 0,.int .i64 0,.int .i64 0,.int .i64 0,.int .i64 0,.int .i64 0,.bool false,.bool false] 34));cases z
 rotate_left
 . obtain rfl:=hz rfl;have hu:u % 16=u:=by omega
   have E:=hid (show stS ws gs fp fq fs fz ⟨k,ax,ay,fx,fy,u,gn,false,false⟩ ⟨0,p,true⟩=⟨k+1,ax,ay,fx,fy,u % 16,gn,false,false⟩ by rw[hu]; simp[stS]);have hc:ctl 0 p true=.iface 119 (.agg #[]):=rfl;rw[hc];clear hc hu hz;obtain⟨Sc0,Sc1,Sc2,Sc3,Sc4,Sc5,Sc6,Sc7,Sc8⟩:=Be S;have Sl:=S.lt;obtain⟨Lc0,Lc1,Lc2,Lc3,Lc4,Lc5,Lc6,Lc7,Lc8,Lc9,Lc10⟩:=AL L;have Ll:=L.lt;go_enter Tryz.func73,Tryz.ntmps73;go_upto_region 3 with fail
   refine AD (fun W'=>CellsAt W' w.heap.size (AB (k+1) ax ay fx fy u gn false false)/\CellsAt W' (w.heap.size+1) (AX i t x y A n c G m kk fp fq fs fz b)/\CellsAt W' (w.heap.size+1+1) (AB 0 0 0 0 0 0 0 false false)/\CellsAt W' (w.heap.size+1+1+1) (AB (k+1) ax ay fx fy u gn false false)/\Below w.heap.size w W') ⟨(((CellsAt.new w _ _ _ rfl).alloc _).alloc _).alloc _,((CellsAt.new _ _ _ _ (by simp)).alloc _).alloc _,(CellsAt.new _ _ _ _ (by simp)).alloc _,CellsAt.new _ _ _ _ (by simp),Aa (Aa (Aa (Aa (Ac w) _) _) _) _⟩ ?_;clear S L D H Sc0 Sc1 Sc2 Sc3 Sc4 Sc5 Sc6 Sc7 Sc8 Sl Lc0 Lc1 Lc2 Lc3 Lc4 Lc5 Lc6 Lc7 Lc8 Lc9 Lc10 Ll
   rintro w1 ⟨S,L,D,N,H⟩;replace H:=hid H;go_wp2_with fail;refine wp_region_held_drew (S:=fun w'=>CellsAt w' w.heap.size (AB (k+1) ax ay fx fy u gn false false)) (by kernel_rfl) S.drew (fun hHeld=>?_);replace S:=S.drew;replace L:=L.drew;replace D:=D.drew;replace N:=N.drew;replace H:=hid (AE H.out);refine tl 0 ?_ ?_ hHeld ?_;rotate_left
   . intro w hSw
     try dsimp only at hSw
     go_simp
     all_goals with_reducible rfl
   try simp only[Act.put,sx]
   refine tl 1 ?_ ?_ hHeld ?_;rotate_left
   . intro w hSw;have d5:=hSw.cell 5 _ rfl;go_simp
     all_goals with_reducible rfl
   try simp only[Act.put,sx]
   refine tl 2 ?_ ?_ hHeld ?_;rotate_left
   . intro w hSw
     try dsimp only at hSw
     go_simp
     all_goals with_reducible rfl
   try simp only[Act.put,sx]
   refine rd 3 fun K hK=>?_;refine CY ⟨_,Tryz.func126,by kernel_rfl,by rfl⟩ (.tmp 15) "loop.example/replayverifier/impl.steering" #[] _ rfl 119 (.agg #[]) rfl (.agg #[]) (by kernel_rfl) #[.agg #[]] (by simp only[List.map_toArray,List.map_nil]; rfl) (HI _) (AW fun w2 B=>?_);replace S:=S.step B;replace L:=L.step B;replace D:=D.step B;replace N:=N.step B;replace H:=hid (Ab H.out B);clear B hHeld;refine hK.out _ _ S (fun hHeld=>?_);clear hK K
   try simp only[Act.put,sx]
   refine rd 4 fun K hK=>?_;refine Ax ⟨_,Tryz.func83,by kernel_rfl,by rfl⟩ _ _ rfl #[.int .i64 u,.int .i64 0] (by simp only[List.map_toArray,List.map_cons,List.map_nil]; rfl) (C0 u 0 _ u0 u1 (by omega) (by omega)) (AW fun w3 B=>?_);replace S:=S.step B;replace L:=L.step B;replace D:=D.step B;replace N:=N.step B;replace H:=hid (Ab H.out B);clear B hHeld;refine hK.out _ _ S (fun hHeld=>?_);clear hK K
   try simp only[Act.put,sx]
   refine tl 5 ?_ ?_ hHeld ?_;rotate_left
   . intro w hSw
     try dsimp only at hSw
     go_simp
     all_goals with_reducible rfl
   try simp only[Act.put,sx]
   have n5:=N.cell 5 _ rfl;have m5:=N.fr 5;have nl:=N.lt;refine wpAnyH_ready (rs:=[6]) (by kernel_rfl) (by simp) ?_;apply AllReadyH.cons rfl ?_ AllReadyH.nil;intro K hK;go_simp;replace S:=S.far (show(w.heap.size+1+1+1)≠_ by omega) 5 (.int .i64 (u % 16));replace L:=L.far (show(w.heap.size+1+1+1)≠_ by omega) 5 (.int .i64 (u % 16));replace D:=D.far (show(w.heap.size+1+1+1)≠_ by omega) 5 (.int .i64 (u % 16));replace N:CellsAt _ (w.heap.size+1+1+1) (AB (k+1) ax ay fx fy (u % 16) gn false false):=N.set 5 (by simp) (.int .i64 (u % 16));replace H:=hid (Ap H.out (w.heap.size+1+1+1) 5 (.int .i64 (u % 16)) (by omega));clear n5 m5 nl
   refine hK.out _ _ S (fun hHeld=>?_);clear hK K
   try simp only[Act.put,sx]
   refine wpAnyH_done (by kernel_rfl) ?_ _;clear hHeld;have ta0:∀ W:World,(Instr.typeAssert (.iface 119 (.agg #[])) 109 119 true).run Tryz.prog W=.ok (.tuple #[.agg #[],.bool true]) W:=fun _=>by kernel_rfl
   go_upto_region 6 with fail;refine wp_region_lit ?_;refine Af rfl 34 (.tmp 7) rfl (w.heap.size+1+1+1) rfl (AB (k+1) ax ay fx fy (u % 16) gn false false) N Tryz.underlying34 rfl Ae ?_;refine Ai rfl 34 (.tmp 6) (.tmp 23) rfl (w.heap.size+1+1) rfl (AB (k+1) ax ay fx fy (u % 16) gn false false) rfl _ D (by simp) Ae rfl ?_;intro wa K N';clear S D L N;go_wp2;exact bodyPost_ret (v:=Cd (k+1) ax ay fx fy (u % 16) gn false false) (An rfl (w.heap.size+1+1) rfl (AB (k+1) ax ay fx fy (u % 16) gn false false) N' Tryz.underlying34 rfl Ae) rfl ⟨⟨_,_,_,_,_,_,_,_,_,E.out,rfl⟩,Ao H.out K (by omega)⟩
 clear hz;have uu:0<=((u+s) % 16)/\((u+s) % 16)<=15:=by omega
 by_cases h1:p=1
 . subst h1;have hc:ctl s 1 false=.iface 123 (.agg #[.int .i64 s]):=rfl;rw[hc];clear hc;obtain⟨Sc0,Sc1,Sc2,Sc3,Sc4,Sc5,Sc6,Sc7,Sc8⟩:=Be S;have Sl:=S.lt;obtain⟨Lc0,Lc1,Lc2,Lc3,Lc4,Lc5,Lc6,Lc7,Lc8,Lc9,Lc10⟩:=AL L;have Ll:=L.lt;go_enter Tryz.func73,Tryz.ntmps73;go_upto_region 3 with fail
   refine AD (fun W'=>CellsAt W' w.heap.size (AB (k+1) ax ay fx fy u gn false false)/\CellsAt W' (w.heap.size+1) (AX i t x y A n c G m kk fp fq fs fz b)/\CellsAt W' (w.heap.size+1+1) (AB 0 0 0 0 0 0 0 false false)/\CellsAt W' (w.heap.size+1+1+1) (AB (k+1) ax ay fx fy u gn false false)/\Below w.heap.size w W') ⟨(((CellsAt.new w _ _ _ rfl).alloc _).alloc _).alloc _,((CellsAt.new _ _ _ _ (by simp)).alloc _).alloc _,(CellsAt.new _ _ _ _ (by simp)).alloc _,CellsAt.new _ _ _ _ (by simp),Aa (Aa (Aa (Aa (Ac w) _) _) _) _⟩ ?_;clear S L D H Sc0 Sc1 Sc2 Sc3 Sc4 Sc5 Sc6 Sc7 Sc8 Sl Lc0 Lc1 Lc2 Lc3 Lc4 Lc5 Lc6 Lc7 Lc8 Lc9 Lc10 Ll
   rintro w1 ⟨S,L,D,N,H⟩;replace H:=hid H;go_wp2_with fail;refine wp_region_held_drew (S:=fun w'=>CellsAt w' w.heap.size (AB (k+1) ax ay fx fy u gn false false)) (by kernel_rfl) S.drew (fun hHeld=>?_);replace S:=S.drew;replace L:=L.drew;replace D:=D.drew;replace N:=N.drew;replace H:=hid (AE H.out);refine tl 0 ?_ ?_ hHeld ?_;rotate_left
   . intro w hSw
     try dsimp only at hSw
     go_simp
     all_goals with_reducible rfl
   try simp only[Act.put,sx]
   refine tl 1 ?_ ?_ hHeld ?_;rotate_left
   . intro w hSw;have d5:=hSw.cell 5 _ rfl;go_simp
     all_goals with_reducible rfl
   try simp only[Act.put,sx]
   refine tl 2 ?_ ?_ hHeld ?_;rotate_left
   . intro w hSw
     try dsimp only at hSw
     go_simp
     all_goals with_reducible rfl
   try simp only[Act.put,sx]
   refine rd 3 fun K hK=>?_;refine CY ⟨_,Tryz.func127,by kernel_rfl,by rfl⟩ (.tmp 15) "loop.example/replayverifier/impl.steering" #[] _ rfl 123 (.agg #[.int .i64 s]) rfl (.agg #[.int .i64 s]) (by kernel_rfl) #[.agg #[.int .i64 s]] (by simp only[List.map_toArray,List.map_nil]; rfl) (Gg s _) (AW fun w2 B=>?_);replace S:=S.step B;replace L:=L.step B;replace D:=D.step B;replace N:=N.step B;replace H:=hid (Ab H.out B);clear B hHeld;refine hK.out _ _ S (fun hHeld=>?_);clear hK K
   try simp only[Act.put,sx]
   refine rd 4 fun K hK=>?_;refine Ax ⟨_,Tryz.func83,by kernel_rfl,by rfl⟩ _ _ rfl #[.int .i64 u,.int .i64 s] (by simp only[List.map_toArray,List.map_cons,List.map_nil]; rfl) (C0 u s _ u0 u1 (by omega) (by omega)) (AW fun w3 B=>?_);replace S:=S.step B;replace L:=L.step B;replace D:=D.step B;replace N:=N.step B;replace H:=hid (Ab H.out B);clear B hHeld;refine hK.out _ _ S (fun hHeld=>?_);clear hK K
   try simp only[Act.put,sx]
   refine tl 5 ?_ ?_ hHeld ?_;rotate_left
   . intro w hSw
     try dsimp only at hSw
     go_simp
     all_goals with_reducible rfl
   try simp only[Act.put,sx]
   have n5:=N.cell 5 _ rfl;have m5:=N.fr 5;have nl:=N.lt;refine wpAnyH_ready (rs:=[6]) (by kernel_rfl) (by simp) ?_;apply AllReadyH.cons rfl ?_ AllReadyH.nil;intro K hK;go_simp;replace S:=S.far (show(w.heap.size+1+1+1)≠_ by omega) 5 (.int .i64 ((u+s) % 16));replace L:=L.far (show(w.heap.size+1+1+1)≠_ by omega) 5 (.int .i64 ((u+s) % 16));replace D:=D.far (show(w.heap.size+1+1+1)≠_ by omega) 5 (.int .i64 ((u+s) % 16));replace N:CellsAt _ (w.heap.size+1+1+1) (AB (k+1) ax ay fx fy ((u+s) % 16) gn false false):=N.set 5 (by simp) (.int .i64 ((u+s) % 16))
   replace H:=hid (Ap H.out (w.heap.size+1+1+1) 5 (.int .i64 ((u+s) % 16)) (by omega));clear n5 m5 nl;refine hK.out _ _ S (fun hHeld=>?_);clear hK K
   try simp only[Act.put,sx]
   refine wpAnyH_done (by kernel_rfl) ?_ _;clear hHeld;have ta0:∀ W:World,(Instr.typeAssert (.iface 123 (.agg #[.int .i64 s])) 109 119 true).run Tryz.prog W=.ok (.tuple #[.agg #[],.bool false]) W:=fun _=>by kernel_rfl
   have ta1:∀ W:World,(Instr.typeAssert (.iface 123 (.agg #[.int .i64 s])) 109 123 true).run Tryz.prog W=.ok (.tuple #[.agg #[.int .i64 s],.bool true]) W:=fun _=>by kernel_rfl
   have CP:=fun(W:World) (Z:Quarter W)=>LV fx fy ((u+s) % 16) W x1 x2 y1 y2 uu.1 uu.2 Z;have ff:=DO (p:=1) x1 x2 y1 y2 uu.1 uu.2;obtain⟨f1,hf1⟩:∃ f1,E6 fx fy ((u+s) % 16) 1=f1:=⟨_,rfl⟩;obtain⟨f2,hf2⟩:∃ f2,E7 fx fy ((u+s) % 16) 1=f2:=⟨_,rfl⟩;rw[hf1,hf2] at CP ff;have EF:=hid (And.intro hf1 hf2);obtain⟨⟨q1,q2⟩,q3,q4⟩:=ff;replace CP:=hid CP;clear hf1 hf2;obtain⟨Sc0,Sc1,Sc2,Sc3,Sc4,Sc5,Sc6,Sc7,Sc8⟩:=Be S;have Sl:=S.lt;obtain⟨Nc0,Nc1,Nc2,Nc3,Nc4,Nc5,Nc6,Nc7,Nc8⟩:=Be N;have Nl:=N.lt;go_wp2_with fail;refine(CP.out _ (hQ.out.step H.out)).mono ?_;rintro e w4 ⟨rfl,B⟩;replace S:=S.step B
   replace L:=L.step B;replace D:=D.step B;replace N:=N.step B;replace H:=hid (Ab H.out B);clear B CP Sc0 Sc1 Sc2 Sc3 Sc4 Sc5 Sc6 Sc7 Sc8 Sl Nc0 Nc1 Nc2 Nc3 Nc4 Nc5 Nc6 Nc7 Nc8 Nl;have Nc0:=N.cell 0 _ rfl;have Nf0:=N.fr 0;have Nc1:=N.cell 1 _ rfl;have Nf1:=N.fr 1;have Nc2:=N.cell 2 _ rfl;have Nf2:=N.fr 2;have Nc3:=N.cell 3 _ rfl;have Nf3:=N.fr 3;have Nc4:=N.cell 4 _ rfl;have Nf4:=N.fr 4;have Nc5:=N.cell 5 _ rfl;have Nf5:=N.fr 5;have Nc6:=N.cell 6 _ rfl;have Nf6:=N.fr 6;have Nc7:=N.cell 7 _ rfl;have Nf7:=N.fr 7;have Nc8:=N.cell 8 _ rfl;have Nf8:=N.fr 8;have Nl:=N.lt;go_upto_region 13 with fail
   refine AD (fun W'=>CellsAt W' w.heap.size (AB (k+1) ax ay fx fy u gn false false)/\CellsAt W' (w.heap.size+1) (AX i t x y A n c G m kk fp fq fs fz b)/\CellsAt W' (w.heap.size+1+1) (AB 0 0 0 0 0 0 0 false false)/\CellsAt W' (w.heap.size+1+1+1) (AB (k+1) ax ay f1 f2 ((u+s) % 16) gn false false)/\Below w.heap.size w W') ⟨(S.far (by omega) _ _).far (by omega) _ _,(L.far (by omega) _ _).far (by omega) _ _,(D.far (by omega) _ _).far (by omega) _ _,(N.set 3 (by simp) _).set 4 (by simp) _,Ap (Ap H.out _ _ _ (by omega)) _ _ _ (by omega)⟩ ?_;clear S L D N H Nc0 Nf0 Nc1 Nf1 Nc2 Nf2 Nc3 Nf3 Nc4 Nf4 Nc5 Nf5 Nc6 Nf6 Nc7 Nf7 Nc8 Nf8 Nl
   rintro w5 ⟨S,L,D,N,H⟩;replace H:=hid H
   go_cut [] (fun W'=>∃ X' Y' P' Q',Gp ws ⟨k+1,ax,ay,f1,f2,((u+s) % 16),gn,false,false⟩=⟨k+1,X',Y',P',Q',((u+s) % 16),gn,false,false⟩/\CellsAt W' w.heap.size (AB (k+1) ax ay fx fy u gn false false)/\CellsAt W' (w.heap.size+1) (AX i t x y A n c G m kk fp fq fs fz b)/\CellsAt W' (w.heap.size+1+1) (AB 0 0 0 0 0 0 0 false false)/\CellsAt W' (w.heap.size+1+1+1) (AB (k+1) X' Y' P' Q' ((u+s) % 16) gn false false)/\Below w.heap.size w W')
   case first =>
    go_wp2_with fail;refine wp_region_held_drew (S:=fun w'=>CellsAt w' (w.heap.size+1) (AX i t x y A n c G m kk fp fq fs fz b)) (by kernel_rfl) L.drew (fun hHeld=>?_);replace S:=S.drew;replace L:=L.drew;replace D:=D.drew;replace N:=N.drew;replace H:=hid (AE H.out);refine tl 1 ?_ ?_ hHeld ?_;rotate_left
    . intro w hSw
      try dsimp only at hSw
      go_simp
      all_goals with_reducible rfl
    try simp only[Act.put,sx]
    refine tl 2 ?_ ?_ hHeld ?_;rotate_left
    . intro w hSw;have d4:=hSw.cell 4 _ rfl;go_simp
      all_goals with_reducible rfl
    try simp only[Act.put,sx]
    refine wpAnyH_ready (rs:=[0,3]) (by kernel_rfl) (by simp) ?_;refine(AllReadyH.cons (o:=_) rfl (fun K hK=>?_) (AllReadyH.cons (o:=_) rfl (fun K hK=>?_) AllReadyH.nil))
    . skip
      rw[if_pos (by rfl)];refine wp_load_mid 34 (.tmp 7) rfl (w.heap.size+1+1+1) 0 rfl (AB (k+1) ax ay f1 f2 ((u+s) % 16) gn false false) _ N.range Tryz.underlying34 rfl Ae ?_;clear hHeld;refine hK.out _ _ L (fun hHeld=>?_);clear hK K
      try simp only[Act.put,sx]
      refine rd 3 fun K hK=>?_;refine Ax ⟨_,Tryz.func48,by kernel_rfl,by rfl⟩ _ _ rfl #[.slice A n c] (by simp only[List.map_toArray,List.map_cons,List.map_nil]; rfl) (Dg A n c ws _ (I.out.step H.out) hn) ?_;rintro e w5 ⟨pp,rfl,T,B⟩;refine⟨_,rfl,?_⟩;replace S:=S.step B;replace L:=L.step B;replace D:=D.step B;replace N:=N.step B;replace H:=hid (Ab H.out B);clear B hHeld;refine hK.out _ _ L (fun hHeld=>?_);clear hK K
      try simp only[Act.put,sx]
      refine rd 4 fun K hK=>?_;refine Ax ⟨_,Tryz.func86,by kernel_rfl,by rfl⟩ _ _ rfl #[Cd (k+1) ax ay f1 f2 ((u+s) % 16) gn false false,.pointer pp] (by simp only[List.map_toArray,List.map_cons,List.map_nil]; rfl) (Db ws pp _ (k+1) ax ay f1 f2 ((u+s) % 16) gn false false _ T ok.out a1 a2 a3 a4 q1 q2 q3 q4) ?_;rintro e w6 ⟨⟨X',Y',P',Q',eM,rfl⟩,B⟩;refine⟨_,rfl,?_⟩;replace S:=S.step B;replace L:=L.step B;replace D:=D.step B;replace N:=N.step B;replace H:=hid (Ab H.out B);clear B hHeld T;refine hK.out _ _ L (fun hHeld=>?_);clear hK K
      try simp only[Act.put,sx]
      refine rd 5 fun K hK=>?_;refine Au 34 (.tmp 7) (.tmp 51) rfl (w.heap.size+1+1+1) rfl (AB (k+1) X' Y' P' Q' ((u+s) % 16) gn false false) rfl _ N (by simp) Ae rfl ?_;intro w7 K N7;replace S:=S.kept K (by omega);replace L:=L.kept K (by omega);replace D:=D.kept K (by omega);replace N:=N7;replace H:=hid (Ao H.out K (by omega));clear K N7 hHeld;refine hK.out _ _ L (fun hHeld=>?_);clear hK K
      try simp only[Act.put,List.getElem_toArray,List.getElem_cons_succ,List.getElem_cons_zero]
      refine wpAnyH_done (by kernel_rfl) ?_ _;go_wp2_with fail
      go_meet
      case rel=>exact⟨_,_,_,_,eM,S,L,D,N,H.out⟩
    . skip
      rw[if_pos (by rfl)];refine Ax ⟨_,Tryz.func48,by kernel_rfl,by rfl⟩ _ _ rfl #[.slice A n c] (by simp only[List.map_toArray,List.map_cons,List.map_nil]; rfl) (Dg A n c ws _ (I.out.step H.out) hn) ?_;rintro e w5 ⟨pp,rfl,T,B⟩;refine⟨_,rfl,?_⟩;replace S:=S.step B;replace L:=L.step B;replace D:=D.step B;replace N:=N.step B;replace H:=hid (Ab H.out B);clear B hHeld;refine hK.out _ _ L (fun hHeld=>?_);clear hK K
      try simp only[Act.put,sx]
      refine rd 0 fun K hK=>?_;refine wp_load_mid 34 (.tmp 7) rfl (w.heap.size+1+1+1) 0 rfl (AB (k+1) ax ay f1 f2 ((u+s) % 16) gn false false) _ N.range Tryz.underlying34 rfl Ae ?_;clear hHeld;refine hK.out _ _ L (fun hHeld=>?_);clear hK K
      try simp only[Act.put,sx]
      refine rd 4 fun K hK=>?_;refine Ax ⟨_,Tryz.func86,by kernel_rfl,by rfl⟩ _ _ rfl #[Cd (k+1) ax ay f1 f2 ((u+s) % 16) gn false false,.pointer pp] (by simp only[List.map_toArray,List.map_cons,List.map_nil]; rfl) (Db ws pp _ (k+1) ax ay f1 f2 ((u+s) % 16) gn false false _ T ok.out a1 a2 a3 a4 q1 q2 q3 q4) ?_;rintro e w6 ⟨⟨X',Y',P',Q',eM,rfl⟩,B⟩;refine⟨_,rfl,?_⟩;replace S:=S.step B;replace L:=L.step B;replace D:=D.step B;replace N:=N.step B;replace H:=hid (Ab H.out B);clear B hHeld T;refine hK.out _ _ L (fun hHeld=>?_);clear hK K
      try simp only[Act.put,sx]
      refine rd 5 fun K hK=>?_;refine Au 34 (.tmp 7) (.tmp 51) rfl (w.heap.size+1+1+1) rfl (AB (k+1) X' Y' P' Q' ((u+s) % 16) gn false false) rfl _ N (by simp) Ae rfl ?_;intro w7 K N7;replace S:=S.kept K (by omega);replace L:=L.kept K (by omega);replace D:=D.kept K (by omega);replace N:=N7;replace H:=hid (Ao H.out K (by omega));clear K N7 hHeld;refine hK.out _ _ L (fun hHeld=>?_);clear hK K
      try simp only[Act.put,List.getElem_toArray,List.getElem_cons_succ,List.getElem_cons_zero]
      refine wpAnyH_done (by kernel_rfl) ?_ _;go_wp2_with fail
      go_meet
      case rel=>exact⟨_,_,_,_,eM,S,L,D,N,H.out⟩
   clear S L D N H;obtain⟨X',Y',P',Q',eM,S,L,D,N,H⟩:=hcut;replace H:=hid H;have EM:=hid (show Sw ws ⟨k+1,ax,ay,fx,fy,u,gn,false,false⟩ s 1=⟨k+1,X',Y',P',Q',((u+s) % 16),gn,false,false⟩ from by
    show Gp ws ⟨k+1,ax,ay,E6 fx fy ((u+s) % 16) 1,E7 fx fy ((u+s) % 16) 1,((u+s) % 16),gn,false,false⟩=_
    rw[EF.out.1,EF.out.2];exact eM)
   clear eM;have C3:=fun W=>A3 X' Y' W;obtain⟨Nc0,Nc1,Nc2,Nc3,Nc4,Nc5,Nc6,Nc7,Nc8⟩:=Be N;have Nl:=N.lt;go_wp2_with fail;refine(C3 _).mono ?_;rintro e w8 ⟨rfl,B⟩;replace S:=S.step B;replace L:=L.step B;replace D:=D.step B;replace N:=N.step B;replace H:=hid (Ab H.out B);clear B C3 Nc0 Nc1 Nc2 Nc3 Nc4 Nc5 Nc6 Nc7 Nc8 Nl;cases hv:Aw X' Y'
   . have E:=hid (show stS ws gs fp fq fs fz ⟨k,ax,ay,fx,fy,u,gn,false,false⟩ ⟨s,1,false⟩=⟨k+1,ax,ay,fx,fy,u,gn,false,true⟩ by
      show Hg ws gs fp fq fs fz ⟨k+1,ax,ay,fx,fy,u,gn,false,false⟩ s 1=_
      unfold Hg;rw[EM.out];simp[hv])
     clear hv EM;have Sc0:=S.cell 0 _ rfl;have Sf0:=S.fr 0;have Sc1:=S.cell 1 _ rfl;have Sf1:=S.fr 1;have Sc2:=S.cell 2 _ rfl;have Sf2:=S.fr 2;have Sc3:=S.cell 3 _ rfl;have Sf3:=S.fr 3;have Sc4:=S.cell 4 _ rfl;have Sf4:=S.fr 4;have Sc5:=S.cell 5 _ rfl;have Sf5:=S.fr 5;have Sc6:=S.cell 6 _ rfl;have Sf6:=S.fr 6;have Sc7:=S.cell 7 _ rfl;have Sf7:=S.fr 7;have Sc8:=S.cell 8 _ rfl;have Sf8:=S.fr 8;have Sl:=S.lt;go_upto_region 16 with fail
     refine AD (fun W'=>CellsAt W' w.heap.size (AB (k+1) ax ay fx fy u gn false true)/\CellsAt W' (w.heap.size+1+1) (AB 0 0 0 0 0 0 0 false false)/\Below w.heap.size w W') ⟨S.set 8 (by simp) _,D.far (by omega) _ _,Ap H.out _ _ _ (by omega)⟩ ?_;clear L S N D H Sc0 Sf0 Sc1 Sf1 Sc2 Sf2 Sc3 Sf3 Sc4 Sf4 Sc5 Sf5 Sc6 Sf6 Sc7 Sf7 Sc8 Sf8 Sl;rintro w9 ⟨S,D,H⟩;refine wp_region_lit ?_;refine Af rfl 34 (.tmp 3) rfl w.heap.size rfl (AB (k+1) ax ay fx fy u gn false true) S Tryz.underlying34 rfl Ae ?_;refine Ai rfl 34 (.tmp 6) (.tmp 57) rfl (w.heap.size+1+1) rfl (AB (k+1) ax ay fx fy u gn false true) rfl _ D (by simp) Ae rfl ?_
     intro wa K N;clear S D;go_wp2;exact bodyPost_ret (v:=Cd (k+1) ax ay fx fy u gn false true) (An rfl (w.heap.size+1+1) rfl (AB (k+1) ax ay fx fy u gn false true) N Tryz.underlying34 rfl Ae) rfl ⟨⟨_,_,_,_,_,_,_,_,_,E.out,rfl⟩,Ao H K (by omega)⟩
   have C6:=fun(W:World) (Z:Boxes W G m gs)=>Ep i t x y A n c G m kk fp fq fs fz b gs (k+1) X' Y' P' Q' ((u+s) % 16) gn false false W Z hm okg.out okf.out hv g1;have E:=hid (show stS ws gs fp fq fs fz ⟨k,ax,ay,fx,fy,u,gn,false,false⟩ ⟨s,1,false⟩=⟨k+1,X',Y',P',Q',((u+s) % 16),EY gs gn X' Y',decide (EY gs gn X' Y'=gs.length)&&Du fp fq fs fz X' Y',false⟩ by
    show Hg ws gs fp fq fs fz ⟨k+1,ax,ay,fx,fy,u,gn,false,false⟩ s 1=_
    unfold Hg;rw[EM.out];simp[hv])
   generalize EY gs gn X' Y'=vv at *;generalize (decide (vv=(gs.length:Int))&&Du fp fq fs fz X' Y')=dd at *;replace C6:=hid C6;clear hv EM S;obtain⟨Lc0,Lc1,Lc2,Lc3,Lc4,Lc5,Lc6,Lc7,Lc8,Lc9,Lc10⟩:=AL L;have Ll:=L.lt;obtain⟨Nc0,Nc1,Nc2,Nc3,Nc4,Nc5,Nc6,Nc7,Nc8⟩:=Be N;have Nl:=N.lt;go_wp2_with fail;refine(C6.out _ (J.out.step H.out)).mono ?_;rintro e w9 ⟨rfl,B⟩;replace D:=D.step B;replace H:=hid (Ab H.out B);clear B C6 Lc0 Lc1 Lc2 Lc3 Lc4 Lc5 Lc6 Lc7 Lc8 Lc9 Lc10 Ll Nc0 Nc1 Nc2 Nc3 Nc4 Nc5 Nc6 Nc7 Nc8 Nl L N
   go_wp2_with (refine Ai rfl 34 (.tmp 6) (.tmp 60) rfl (w.heap.size+1+1) rfl (AB (k+1) X' Y' P' Q' ((u+s) % 16) vv dd false) rfl _ D (by simp) Ae rfl ?_);intro wa K N;clear D;go_wp2;exact bodyPost_ret (v:=Cd (k+1) X' Y' P' Q' ((u+s) % 16) vv dd false) (An rfl (w.heap.size+1+1) rfl (AB (k+1) X' Y' P' Q' ((u+s) % 16) vv dd false) N Tryz.underlying34 rfl Ae) rfl ⟨⟨_,_,_,_,_,_,_,_,_,E.out,rfl⟩,Ao H.out K (by omega)⟩
 by_cases h2:p=2
 . subst h2;have hc:ctl s 2 false=.iface 125 (.agg #[.int .i64 s]):=rfl;rw[hc];clear hc;obtain⟨Sc0,Sc1,Sc2,Sc3,Sc4,Sc5,Sc6,Sc7,Sc8⟩:=Be S;have Sl:=S.lt;obtain⟨Lc0,Lc1,Lc2,Lc3,Lc4,Lc5,Lc6,Lc7,Lc8,Lc9,Lc10⟩:=AL L;have Ll:=L.lt;go_enter Tryz.func73,Tryz.ntmps73;go_upto_region 3 with fail
   refine AD (fun W'=>CellsAt W' w.heap.size (AB (k+1) ax ay fx fy u gn false false)/\CellsAt W' (w.heap.size+1) (AX i t x y A n c G m kk fp fq fs fz b)/\CellsAt W' (w.heap.size+1+1) (AB 0 0 0 0 0 0 0 false false)/\CellsAt W' (w.heap.size+1+1+1) (AB (k+1) ax ay fx fy u gn false false)/\Below w.heap.size w W') ⟨(((CellsAt.new w _ _ _ rfl).alloc _).alloc _).alloc _,((CellsAt.new _ _ _ _ (by simp)).alloc _).alloc _,(CellsAt.new _ _ _ _ (by simp)).alloc _,CellsAt.new _ _ _ _ (by simp),Aa (Aa (Aa (Aa (Ac w) _) _) _) _⟩ ?_;clear S L D H Sc0 Sc1 Sc2 Sc3 Sc4 Sc5 Sc6 Sc7 Sc8 Sl Lc0 Lc1 Lc2 Lc3 Lc4 Lc5 Lc6 Lc7 Lc8 Lc9 Lc10 Ll
   rintro w1 ⟨S,L,D,N,H⟩;replace H:=hid H;go_wp2_with fail;refine wp_region_held_drew (S:=fun w'=>CellsAt w' w.heap.size (AB (k+1) ax ay fx fy u gn false false)) (by kernel_rfl) S.drew (fun hHeld=>?_);replace S:=S.drew;replace L:=L.drew;replace D:=D.drew;replace N:=N.drew;replace H:=hid (AE H.out);refine tl 0 ?_ ?_ hHeld ?_;rotate_left
   . intro w hSw
     try dsimp only at hSw
     go_simp
     all_goals with_reducible rfl
   try simp only[Act.put,sx]
   refine tl 1 ?_ ?_ hHeld ?_;rotate_left
   . intro w hSw;have d5:=hSw.cell 5 _ rfl;go_simp
     all_goals with_reducible rfl
   try simp only[Act.put,sx]
   refine tl 2 ?_ ?_ hHeld ?_;rotate_left
   . intro w hSw
     try dsimp only at hSw
     go_simp
     all_goals with_reducible rfl
   try simp only[Act.put,sx]
   refine rd 3 fun K hK=>?_;refine CY ⟨_,Tryz.func127,by kernel_rfl,by rfl⟩ (.tmp 15) "loop.example/replayverifier/impl.steering" #[] _ rfl 125 (.agg #[.int .i64 s]) rfl (.agg #[.int .i64 s]) (by kernel_rfl) #[.agg #[.int .i64 s]] (by simp only[List.map_toArray,List.map_nil]; rfl) (Gg s _) (AW fun w2 B=>?_);replace S:=S.step B;replace L:=L.step B;replace D:=D.step B;replace N:=N.step B;replace H:=hid (Ab H.out B);clear B hHeld;refine hK.out _ _ S (fun hHeld=>?_);clear hK K
   try simp only[Act.put,sx]
   refine rd 4 fun K hK=>?_;refine Ax ⟨_,Tryz.func83,by kernel_rfl,by rfl⟩ _ _ rfl #[.int .i64 u,.int .i64 s] (by simp only[List.map_toArray,List.map_cons,List.map_nil]; rfl) (C0 u s _ u0 u1 (by omega) (by omega)) (AW fun w3 B=>?_);replace S:=S.step B;replace L:=L.step B;replace D:=D.step B;replace N:=N.step B;replace H:=hid (Ab H.out B);clear B hHeld;refine hK.out _ _ S (fun hHeld=>?_);clear hK K
   try simp only[Act.put,sx]
   refine tl 5 ?_ ?_ hHeld ?_;rotate_left
   . intro w hSw
     try dsimp only at hSw
     go_simp
     all_goals with_reducible rfl
   try simp only[Act.put,sx]
   have n5:=N.cell 5 _ rfl;have m5:=N.fr 5;have nl:=N.lt;refine wpAnyH_ready (rs:=[6]) (by kernel_rfl) (by simp) ?_;apply AllReadyH.cons rfl ?_ AllReadyH.nil;intro K hK;go_simp;replace S:=S.far (show(w.heap.size+1+1+1)≠_ by omega) 5 (.int .i64 ((u+s) % 16));replace L:=L.far (show(w.heap.size+1+1+1)≠_ by omega) 5 (.int .i64 ((u+s) % 16));replace D:=D.far (show(w.heap.size+1+1+1)≠_ by omega) 5 (.int .i64 ((u+s) % 16));replace N:CellsAt _ (w.heap.size+1+1+1) (AB (k+1) ax ay fx fy ((u+s) % 16) gn false false):=N.set 5 (by simp) (.int .i64 ((u+s) % 16))
   replace H:=hid (Ap H.out (w.heap.size+1+1+1) 5 (.int .i64 ((u+s) % 16)) (by omega));clear n5 m5 nl;refine hK.out _ _ S (fun hHeld=>?_);clear hK K
   try simp only[Act.put,sx]
   refine wpAnyH_done (by kernel_rfl) ?_ _;clear hHeld;have ta0:∀ W:World,(Instr.typeAssert (.iface 125 (.agg #[.int .i64 s])) 109 119 true).run Tryz.prog W=.ok (.tuple #[.agg #[],.bool false]) W:=fun _=>by kernel_rfl
   have ta1:∀ W:World,(Instr.typeAssert (.iface 125 (.agg #[.int .i64 s])) 109 123 true).run Tryz.prog W=.ok (.tuple #[.agg #[.int .i64 0],.bool false]) W:=fun _=>by kernel_rfl
   have ta2:∀ W:World,(Instr.typeAssert (.iface 125 (.agg #[.int .i64 s])) 109 125 true).run Tryz.prog W=.ok (.tuple #[.agg #[.int .i64 s],.bool true]) W:=fun _=>by kernel_rfl
   have CP:=fun(W:World)=>HH fx fy 700 W x1 x2 y1 y2 (by omega) (by omega);have ff:=DO (p:=2) x1 x2 y1 y2 uu.1 uu.2;obtain⟨f1,hf1⟩:∃ f1,E6 fx fy ((u+s) % 16) 2=f1:=⟨_,rfl⟩;obtain⟨f2,hf2⟩:∃ f2,E7 fx fy ((u+s) % 16) 2=f2:=⟨_,rfl⟩;rw[show mu fx 700=f1 by rw[<- hf1]; simp[E6],show mu fy 700=f2 by rw[<- hf2]; simp[E7]] at CP;rw[hf1,hf2] at ff;have EF:=hid (And.intro hf1 hf2);obtain⟨⟨q1,q2⟩,q3,q4⟩:=ff;replace CP:=hid CP;clear hf1 hf2;obtain⟨Sc0,Sc1,Sc2,Sc3,Sc4,Sc5,Sc6,Sc7,Sc8⟩:=Be S;have Sl:=S.lt;obtain⟨Nc0,Nc1,Nc2,Nc3,Nc4,Nc5,Nc6,Nc7,Nc8⟩:=Be N;have Nl:=N.lt;go_wp2_with fail
   refine(CP.out _).mono ?_;rintro e w4 ⟨rfl,B⟩;replace S:=S.step B;replace L:=L.step B;replace D:=D.step B;replace N:=N.step B;replace H:=hid (Ab H.out B);clear B CP Sc0 Sc1 Sc2 Sc3 Sc4 Sc5 Sc6 Sc7 Sc8 Sl Nc0 Nc1 Nc2 Nc3 Nc4 Nc5 Nc6 Nc7 Nc8 Nl;have Nc0:=N.cell 0 _ rfl;have Nf0:=N.fr 0;have Nc1:=N.cell 1 _ rfl;have Nf1:=N.fr 1;have Nc2:=N.cell 2 _ rfl;have Nf2:=N.fr 2;have Nc3:=N.cell 3 _ rfl;have Nf3:=N.fr 3;have Nc4:=N.cell 4 _ rfl;have Nf4:=N.fr 4;have Nc5:=N.cell 5 _ rfl;have Nf5:=N.fr 5;have Nc6:=N.cell 6 _ rfl;have Nf6:=N.fr 6;have Nc7:=N.cell 7 _ rfl;have Nf7:=N.fr 7;have Nc8:=N.cell 8 _ rfl;have Nf8:=N.fr 8;have Nl:=N.lt
   go_upto_region 13 with fail;refine AD (fun W'=>CellsAt W' w.heap.size (AB (k+1) ax ay fx fy u gn false false)/\CellsAt W' (w.heap.size+1) (AX i t x y A n c G m kk fp fq fs fz b)/\CellsAt W' (w.heap.size+1+1) (AB 0 0 0 0 0 0 0 false false)/\CellsAt W' (w.heap.size+1+1+1) (AB (k+1) ax ay f1 f2 ((u+s) % 16) gn false false)/\Below w.heap.size w W') ⟨(S.far (by omega) _ _).far (by omega) _ _,(L.far (by omega) _ _).far (by omega) _ _,(D.far (by omega) _ _).far (by omega) _ _,(N.set 3 (by simp) _).set 4 (by simp) _,Ap (Ap H.out _ _ _ (by omega)) _ _ _ (by omega)⟩ ?_
   clear S L D N H Nc0 Nf0 Nc1 Nf1 Nc2 Nf2 Nc3 Nf3 Nc4 Nf4 Nc5 Nf5 Nc6 Nf6 Nc7 Nf7 Nc8 Nf8 Nl;rintro w5 ⟨S,L,D,N,H⟩;replace H:=hid H
   go_cut [] (fun W'=>∃ X' Y' P' Q',Gp ws ⟨k+1,ax,ay,f1,f2,((u+s) % 16),gn,false,false⟩=⟨k+1,X',Y',P',Q',((u+s) % 16),gn,false,false⟩/\CellsAt W' w.heap.size (AB (k+1) ax ay fx fy u gn false false)/\CellsAt W' (w.heap.size+1) (AX i t x y A n c G m kk fp fq fs fz b)/\CellsAt W' (w.heap.size+1+1) (AB 0 0 0 0 0 0 0 false false)/\CellsAt W' (w.heap.size+1+1+1) (AB (k+1) X' Y' P' Q' ((u+s) % 16) gn false false)/\Below w.heap.size w W')
   case first =>
    go_wp2_with fail;refine wp_region_held_drew (S:=fun w'=>CellsAt w' (w.heap.size+1) (AX i t x y A n c G m kk fp fq fs fz b)) (by kernel_rfl) L.drew (fun hHeld=>?_);replace S:=S.drew;replace L:=L.drew;replace D:=D.drew;replace N:=N.drew;replace H:=hid (AE H.out);refine tl 1 ?_ ?_ hHeld ?_;rotate_left
    . intro w hSw
      try dsimp only at hSw
      go_simp
      all_goals with_reducible rfl
    try simp only[Act.put,sx]
    refine tl 2 ?_ ?_ hHeld ?_;rotate_left
    . intro w hSw;have d4:=hSw.cell 4 _ rfl;go_simp
      all_goals with_reducible rfl
    try simp only[Act.put,sx]
    refine wpAnyH_ready (rs:=[0,3]) (by kernel_rfl) (by simp) ?_;refine(AllReadyH.cons (o:=_) rfl (fun K hK=>?_) (AllReadyH.cons (o:=_) rfl (fun K hK=>?_) AllReadyH.nil))
    . skip
      rw[if_pos (by rfl)];refine wp_load_mid 34 (.tmp 7) rfl (w.heap.size+1+1+1) 0 rfl (AB (k+1) ax ay f1 f2 ((u+s) % 16) gn false false) _ N.range Tryz.underlying34 rfl Ae ?_;clear hHeld;refine hK.out _ _ L (fun hHeld=>?_);clear hK K
      try simp only[Act.put,sx]
      refine rd 3 fun K hK=>?_;refine Ax ⟨_,Tryz.func48,by kernel_rfl,by rfl⟩ _ _ rfl #[.slice A n c] (by simp only[List.map_toArray,List.map_cons,List.map_nil]; rfl) (Dg A n c ws _ (I.out.step H.out) hn) ?_;rintro e w5 ⟨pp,rfl,T,B⟩;refine⟨_,rfl,?_⟩;replace S:=S.step B;replace L:=L.step B;replace D:=D.step B;replace N:=N.step B;replace H:=hid (Ab H.out B);clear B hHeld;refine hK.out _ _ L (fun hHeld=>?_);clear hK K
      try simp only[Act.put,sx]
      refine rd 4 fun K hK=>?_;refine Ax ⟨_,Tryz.func86,by kernel_rfl,by rfl⟩ _ _ rfl #[Cd (k+1) ax ay f1 f2 ((u+s) % 16) gn false false,.pointer pp] (by simp only[List.map_toArray,List.map_cons,List.map_nil]; rfl) (Db ws pp _ (k+1) ax ay f1 f2 ((u+s) % 16) gn false false _ T ok.out a1 a2 a3 a4 q1 q2 q3 q4) ?_;rintro e w6 ⟨⟨X',Y',P',Q',eM,rfl⟩,B⟩;refine⟨_,rfl,?_⟩;replace S:=S.step B;replace L:=L.step B;replace D:=D.step B;replace N:=N.step B;replace H:=hid (Ab H.out B);clear B hHeld T;refine hK.out _ _ L (fun hHeld=>?_);clear hK K
      try simp only[Act.put,sx]
      refine rd 5 fun K hK=>?_;refine Au 34 (.tmp 7) (.tmp 51) rfl (w.heap.size+1+1+1) rfl (AB (k+1) X' Y' P' Q' ((u+s) % 16) gn false false) rfl _ N (by simp) Ae rfl ?_;intro w7 K N7;replace S:=S.kept K (by omega);replace L:=L.kept K (by omega);replace D:=D.kept K (by omega);replace N:=N7;replace H:=hid (Ao H.out K (by omega));clear K N7 hHeld;refine hK.out _ _ L (fun hHeld=>?_);clear hK K
      try simp only[Act.put,List.getElem_toArray,List.getElem_cons_succ,List.getElem_cons_zero]
      refine wpAnyH_done (by kernel_rfl) ?_ _;go_wp2_with fail
      go_meet
      case rel=>exact⟨_,_,_,_,eM,S,L,D,N,H.out⟩
    . skip
      rw[if_pos (by rfl)];refine Ax ⟨_,Tryz.func48,by kernel_rfl,by rfl⟩ _ _ rfl #[.slice A n c] (by simp only[List.map_toArray,List.map_cons,List.map_nil]; rfl) (Dg A n c ws _ (I.out.step H.out) hn) ?_;rintro e w5 ⟨pp,rfl,T,B⟩;refine⟨_,rfl,?_⟩;replace S:=S.step B;replace L:=L.step B;replace D:=D.step B;replace N:=N.step B;replace H:=hid (Ab H.out B);clear B hHeld;refine hK.out _ _ L (fun hHeld=>?_);clear hK K
      try simp only[Act.put,sx]
      refine rd 0 fun K hK=>?_;refine wp_load_mid 34 (.tmp 7) rfl (w.heap.size+1+1+1) 0 rfl (AB (k+1) ax ay f1 f2 ((u+s) % 16) gn false false) _ N.range Tryz.underlying34 rfl Ae ?_;clear hHeld;refine hK.out _ _ L (fun hHeld=>?_);clear hK K
      try simp only[Act.put,sx]
      refine rd 4 fun K hK=>?_;refine Ax ⟨_,Tryz.func86,by kernel_rfl,by rfl⟩ _ _ rfl #[Cd (k+1) ax ay f1 f2 ((u+s) % 16) gn false false,.pointer pp] (by simp only[List.map_toArray,List.map_cons,List.map_nil]; rfl) (Db ws pp _ (k+1) ax ay f1 f2 ((u+s) % 16) gn false false _ T ok.out a1 a2 a3 a4 q1 q2 q3 q4) ?_;rintro e w6 ⟨⟨X',Y',P',Q',eM,rfl⟩,B⟩;refine⟨_,rfl,?_⟩;replace S:=S.step B;replace L:=L.step B;replace D:=D.step B;replace N:=N.step B;replace H:=hid (Ab H.out B);clear B hHeld T;refine hK.out _ _ L (fun hHeld=>?_);clear hK K
      try simp only[Act.put,sx]
      refine rd 5 fun K hK=>?_;refine Au 34 (.tmp 7) (.tmp 51) rfl (w.heap.size+1+1+1) rfl (AB (k+1) X' Y' P' Q' ((u+s) % 16) gn false false) rfl _ N (by simp) Ae rfl ?_;intro w7 K N7;replace S:=S.kept K (by omega);replace L:=L.kept K (by omega);replace D:=D.kept K (by omega);replace N:=N7;replace H:=hid (Ao H.out K (by omega));clear K N7 hHeld;refine hK.out _ _ L (fun hHeld=>?_);clear hK K
      try simp only[Act.put,List.getElem_toArray,List.getElem_cons_succ,List.getElem_cons_zero]
      refine wpAnyH_done (by kernel_rfl) ?_ _;go_wp2_with fail
      go_meet
      case rel=>exact⟨_,_,_,_,eM,S,L,D,N,H.out⟩
   clear S L D N H;obtain⟨X',Y',P',Q',eM,S,L,D,N,H⟩:=hcut;replace H:=hid H;have EM:=hid (show Sw ws ⟨k+1,ax,ay,fx,fy,u,gn,false,false⟩ s 2=⟨k+1,X',Y',P',Q',((u+s) % 16),gn,false,false⟩ from by
    show Gp ws ⟨k+1,ax,ay,E6 fx fy ((u+s) % 16) 2,E7 fx fy ((u+s) % 16) 2,((u+s) % 16),gn,false,false⟩=_
    rw[EF.out.1,EF.out.2];exact eM)
   clear eM;have C3:=fun W=>A3 X' Y' W;obtain⟨Nc0,Nc1,Nc2,Nc3,Nc4,Nc5,Nc6,Nc7,Nc8⟩:=Be N;have Nl:=N.lt;go_wp2_with fail;refine(C3 _).mono ?_;rintro e w8 ⟨rfl,B⟩;replace S:=S.step B;replace L:=L.step B;replace D:=D.step B;replace N:=N.step B;replace H:=hid (Ab H.out B);clear B C3 Nc0 Nc1 Nc2 Nc3 Nc4 Nc5 Nc6 Nc7 Nc8 Nl;cases hv:Aw X' Y'
   . have E:=hid (show stS ws gs fp fq fs fz ⟨k,ax,ay,fx,fy,u,gn,false,false⟩ ⟨s,2,false⟩=⟨k+1,ax,ay,fx,fy,u,gn,false,true⟩ by
      show Hg ws gs fp fq fs fz ⟨k+1,ax,ay,fx,fy,u,gn,false,false⟩ s 2=_
      unfold Hg;rw[EM.out];simp[hv])
     clear hv EM;have Sc0:=S.cell 0 _ rfl;have Sf0:=S.fr 0;have Sc1:=S.cell 1 _ rfl;have Sf1:=S.fr 1;have Sc2:=S.cell 2 _ rfl;have Sf2:=S.fr 2;have Sc3:=S.cell 3 _ rfl;have Sf3:=S.fr 3;have Sc4:=S.cell 4 _ rfl;have Sf4:=S.fr 4;have Sc5:=S.cell 5 _ rfl;have Sf5:=S.fr 5;have Sc6:=S.cell 6 _ rfl;have Sf6:=S.fr 6;have Sc7:=S.cell 7 _ rfl;have Sf7:=S.fr 7;have Sc8:=S.cell 8 _ rfl;have Sf8:=S.fr 8;have Sl:=S.lt;go_upto_region 16 with fail
     refine AD (fun W'=>CellsAt W' w.heap.size (AB (k+1) ax ay fx fy u gn false true)/\CellsAt W' (w.heap.size+1+1) (AB 0 0 0 0 0 0 0 false false)/\Below w.heap.size w W') ⟨S.set 8 (by simp) _,D.far (by omega) _ _,Ap H.out _ _ _ (by omega)⟩ ?_;clear L S N D H Sc0 Sf0 Sc1 Sf1 Sc2 Sf2 Sc3 Sf3 Sc4 Sf4 Sc5 Sf5 Sc6 Sf6 Sc7 Sf7 Sc8 Sf8 Sl;rintro w9 ⟨S,D,H⟩;refine wp_region_lit ?_;refine Af rfl 34 (.tmp 3) rfl w.heap.size rfl (AB (k+1) ax ay fx fy u gn false true) S Tryz.underlying34 rfl Ae ?_;refine Ai rfl 34 (.tmp 6) (.tmp 57) rfl (w.heap.size+1+1) rfl (AB (k+1) ax ay fx fy u gn false true) rfl _ D (by simp) Ae rfl ?_
     intro wa K N;clear S D;go_wp2;exact bodyPost_ret (v:=Cd (k+1) ax ay fx fy u gn false true) (An rfl (w.heap.size+1+1) rfl (AB (k+1) ax ay fx fy u gn false true) N Tryz.underlying34 rfl Ae) rfl ⟨⟨_,_,_,_,_,_,_,_,_,E.out,rfl⟩,Ao H K (by omega)⟩
   have C6:=fun(W:World) (Z:Boxes W G m gs)=>Ep i t x y A n c G m kk fp fq fs fz b gs (k+1) X' Y' P' Q' ((u+s) % 16) gn false false W Z hm okg.out okf.out hv g1;have E:=hid (show stS ws gs fp fq fs fz ⟨k,ax,ay,fx,fy,u,gn,false,false⟩ ⟨s,2,false⟩=⟨k+1,X',Y',P',Q',((u+s) % 16),EY gs gn X' Y',decide (EY gs gn X' Y'=gs.length)&&Du fp fq fs fz X' Y',false⟩ by
    show Hg ws gs fp fq fs fz ⟨k+1,ax,ay,fx,fy,u,gn,false,false⟩ s 2=_
    unfold Hg;rw[EM.out];simp[hv])
   generalize EY gs gn X' Y'=vv at *;generalize (decide (vv=(gs.length:Int))&&Du fp fq fs fz X' Y')=dd at *;replace C6:=hid C6;clear hv EM S;obtain⟨Lc0,Lc1,Lc2,Lc3,Lc4,Lc5,Lc6,Lc7,Lc8,Lc9,Lc10⟩:=AL L;have Ll:=L.lt;obtain⟨Nc0,Nc1,Nc2,Nc3,Nc4,Nc5,Nc6,Nc7,Nc8⟩:=Be N;have Nl:=N.lt;go_wp2_with fail;refine(C6.out _ (J.out.step H.out)).mono ?_;rintro e w9 ⟨rfl,B⟩;replace D:=D.step B;replace H:=hid (Ab H.out B);clear B C6 Lc0 Lc1 Lc2 Lc3 Lc4 Lc5 Lc6 Lc7 Lc8 Lc9 Lc10 Ll Nc0 Nc1 Nc2 Nc3 Nc4 Nc5 Nc6 Nc7 Nc8 Nl L N
   go_wp2_with (refine Ai rfl 34 (.tmp 6) (.tmp 60) rfl (w.heap.size+1+1) rfl (AB (k+1) X' Y' P' Q' ((u+s) % 16) vv dd false) rfl _ D (by simp) Ae rfl ?_);intro wa K N;clear D;go_wp2;exact bodyPost_ret (v:=Cd (k+1) X' Y' P' Q' ((u+s) % 16) vv dd false) (An rfl (w.heap.size+1+1) rfl (AB (k+1) X' Y' P' Q' ((u+s) % 16) vv dd false) N Tryz.underlying34 rfl Ae) rfl ⟨⟨_,_,_,_,_,_,_,_,_,E.out,rfl⟩,Ao H.out K (by omega)⟩
 have hc:ctl s p false=.iface 126 (.agg #[.int .i64 s]):=by simp[ctl,h1,h2]
 rw[hc];clear hc;obtain⟨Sc0,Sc1,Sc2,Sc3,Sc4,Sc5,Sc6,Sc7,Sc8⟩:=Be S;have Sl:=S.lt;obtain⟨Lc0,Lc1,Lc2,Lc3,Lc4,Lc5,Lc6,Lc7,Lc8,Lc9,Lc10⟩:=AL L;have Ll:=L.lt;go_enter Tryz.func73,Tryz.ntmps73;go_upto_region 3 with fail
 refine AD (fun W'=>CellsAt W' w.heap.size (AB (k+1) ax ay fx fy u gn false false)/\CellsAt W' (w.heap.size+1) (AX i t x y A n c G m kk fp fq fs fz b)/\CellsAt W' (w.heap.size+1+1) (AB 0 0 0 0 0 0 0 false false)/\CellsAt W' (w.heap.size+1+1+1) (AB (k+1) ax ay fx fy u gn false false)/\Below w.heap.size w W') ⟨(((CellsAt.new w _ _ _ rfl).alloc _).alloc _).alloc _,((CellsAt.new _ _ _ _ (by simp)).alloc _).alloc _,(CellsAt.new _ _ _ _ (by simp)).alloc _,CellsAt.new _ _ _ _ (by simp),Aa (Aa (Aa (Aa (Ac w) _) _) _) _⟩ ?_;clear S L D H Sc0 Sc1 Sc2 Sc3 Sc4 Sc5 Sc6 Sc7 Sc8 Sl Lc0 Lc1 Lc2 Lc3 Lc4 Lc5 Lc6 Lc7 Lc8 Lc9 Lc10 Ll
 rintro w1 ⟨S,L,D,N,H⟩;replace H:=hid H;go_wp2_with fail;refine wp_region_held_drew (S:=fun w'=>CellsAt w' w.heap.size (AB (k+1) ax ay fx fy u gn false false)) (by kernel_rfl) S.drew (fun hHeld=>?_);replace S:=S.drew;replace L:=L.drew;replace D:=D.drew;replace N:=N.drew;replace H:=hid (AE H.out);refine tl 0 ?_ ?_ hHeld ?_;rotate_left
 . intro w hSw
   try dsimp only at hSw
   go_simp
   all_goals with_reducible rfl
 try simp only[Act.put,sx]
 refine tl 1 ?_ ?_ hHeld ?_;rotate_left
 . intro w hSw;have d5:=hSw.cell 5 _ rfl;go_simp
   all_goals with_reducible rfl
 try simp only[Act.put,sx]
 refine tl 2 ?_ ?_ hHeld ?_;rotate_left
 . intro w hSw
   try dsimp only at hSw
   go_simp
   all_goals with_reducible rfl
 try simp only[Act.put,sx]
 refine rd 3 fun K hK=>?_;refine CY ⟨_,Tryz.func127,by kernel_rfl,by rfl⟩ (.tmp 15) "loop.example/replayverifier/impl.steering" #[] _ rfl 126 (.agg #[.int .i64 s]) rfl (.agg #[.int .i64 s]) (by kernel_rfl) #[.agg #[.int .i64 s]] (by simp only[List.map_toArray,List.map_nil]; rfl) (Gg s _) (AW fun w2 B=>?_);replace S:=S.step B;replace L:=L.step B;replace D:=D.step B;replace N:=N.step B;replace H:=hid (Ab H.out B);clear B hHeld;refine hK.out _ _ S (fun hHeld=>?_);clear hK K
 try simp only[Act.put,sx]
 refine rd 4 fun K hK=>?_;refine Ax ⟨_,Tryz.func83,by kernel_rfl,by rfl⟩ _ _ rfl #[.int .i64 u,.int .i64 s] (by simp only[List.map_toArray,List.map_cons,List.map_nil]; rfl) (C0 u s _ u0 u1 (by omega) (by omega)) (AW fun w3 B=>?_);replace S:=S.step B;replace L:=L.step B;replace D:=D.step B;replace N:=N.step B;replace H:=hid (Ab H.out B);clear B hHeld;refine hK.out _ _ S (fun hHeld=>?_);clear hK K
 try simp only[Act.put,sx]
 refine tl 5 ?_ ?_ hHeld ?_;rotate_left
 . intro w hSw
   try dsimp only at hSw
   go_simp
   all_goals with_reducible rfl
 try simp only[Act.put,sx]
 have n5:=N.cell 5 _ rfl;have m5:=N.fr 5;have nl:=N.lt;refine wpAnyH_ready (rs:=[6]) (by kernel_rfl) (by simp) ?_;apply AllReadyH.cons rfl ?_ AllReadyH.nil;intro K hK;go_simp;replace S:=S.far (show(w.heap.size+1+1+1)≠_ by omega) 5 (.int .i64 ((u+s) % 16));replace L:=L.far (show(w.heap.size+1+1+1)≠_ by omega) 5 (.int .i64 ((u+s) % 16));replace D:=D.far (show(w.heap.size+1+1+1)≠_ by omega) 5 (.int .i64 ((u+s) % 16));replace N:CellsAt _ (w.heap.size+1+1+1) (AB (k+1) ax ay fx fy ((u+s) % 16) gn false false):=N.set 5 (by simp) (.int .i64 ((u+s) % 16))
 replace H:=hid (Ap H.out (w.heap.size+1+1+1) 5 (.int .i64 ((u+s) % 16)) (by omega));clear n5 m5 nl;refine hK.out _ _ S (fun hHeld=>?_);clear hK K
 try simp only[Act.put,sx]
 refine wpAnyH_done (by kernel_rfl) ?_ _;clear hHeld;have ta0:∀ W:World,(Instr.typeAssert (.iface 126 (.agg #[.int .i64 s])) 109 119 true).run Tryz.prog W=.ok (.tuple #[.agg #[],.bool false]) W:=fun _=>by kernel_rfl
 have ta1:∀ W:World,(Instr.typeAssert (.iface 126 (.agg #[.int .i64 s])) 109 123 true).run Tryz.prog W=.ok (.tuple #[.agg #[.int .i64 0],.bool false]) W:=fun _=>by kernel_rfl
 have ta2:∀ W:World,(Instr.typeAssert (.iface 126 (.agg #[.int .i64 s])) 109 125 true).run Tryz.prog W=.ok (.tuple #[.agg #[.int .i64 0],.bool false]) W:=fun _=>by kernel_rfl
 have ta3:∀ W:World,(Instr.typeAssert (.iface 126 (.agg #[.int .i64 s])) 109 126 true).run Tryz.prog W=.ok (.tuple #[.agg #[.int .i64 s],.bool true]) W:=fun _=>by kernel_rfl
 have CP:=fun(W:World)=>HH fx fy 950 W x1 x2 y1 y2 (by omega) (by omega);have ff:=DO (p:=p) x1 x2 y1 y2 uu.1 uu.2;obtain⟨f1,hf1⟩:∃ f1,E6 fx fy ((u+s) % 16) p=f1:=⟨_,rfl⟩;obtain⟨f2,hf2⟩:∃ f2,E7 fx fy ((u+s) % 16) p=f2:=⟨_,rfl⟩;rw[show mu fx 950=f1 by rw[<- hf1]; simp[E6,h1,h2],show mu fy 950=f2 by rw[<- hf2]; simp[E7,h1,h2]] at CP;rw[hf1,hf2] at ff;have EF:=hid (And.intro hf1 hf2);obtain⟨⟨q1,q2⟩,q3,q4⟩:=ff;replace CP:=hid CP;clear hf1 hf2 h1 h2;obtain⟨Sc0,Sc1,Sc2,Sc3,Sc4,Sc5,Sc6,Sc7,Sc8⟩:=Be S;have Sl:=S.lt;obtain⟨Nc0,Nc1,Nc2,Nc3,Nc4,Nc5,Nc6,Nc7,Nc8⟩:=Be N;have Nl:=N.lt;go_wp2_with fail
 refine(CP.out _).mono ?_;rintro e w4 ⟨rfl,B⟩;replace S:=S.step B;replace L:=L.step B;replace D:=D.step B;replace N:=N.step B;replace H:=hid (Ab H.out B);clear B CP Sc0 Sc1 Sc2 Sc3 Sc4 Sc5 Sc6 Sc7 Sc8 Sl Nc0 Nc1 Nc2 Nc3 Nc4 Nc5 Nc6 Nc7 Nc8 Nl;have Nc0:=N.cell 0 _ rfl;have Nf0:=N.fr 0;have Nc1:=N.cell 1 _ rfl;have Nf1:=N.fr 1;have Nc2:=N.cell 2 _ rfl;have Nf2:=N.fr 2;have Nc3:=N.cell 3 _ rfl;have Nf3:=N.fr 3;have Nc4:=N.cell 4 _ rfl;have Nf4:=N.fr 4;have Nc5:=N.cell 5 _ rfl;have Nf5:=N.fr 5;have Nc6:=N.cell 6 _ rfl;have Nf6:=N.fr 6;have Nc7:=N.cell 7 _ rfl;have Nf7:=N.fr 7;have Nc8:=N.cell 8 _ rfl;have Nf8:=N.fr 8;have Nl:=N.lt
 go_upto_region 13 with fail;refine AD (fun W'=>CellsAt W' w.heap.size (AB (k+1) ax ay fx fy u gn false false)/\CellsAt W' (w.heap.size+1) (AX i t x y A n c G m kk fp fq fs fz b)/\CellsAt W' (w.heap.size+1+1) (AB 0 0 0 0 0 0 0 false false)/\CellsAt W' (w.heap.size+1+1+1) (AB (k+1) ax ay f1 f2 ((u+s) % 16) gn false false)/\Below w.heap.size w W') ⟨(S.far (by omega) _ _).far (by omega) _ _,(L.far (by omega) _ _).far (by omega) _ _,(D.far (by omega) _ _).far (by omega) _ _,(N.set 3 (by simp) _).set 4 (by simp) _,Ap (Ap H.out _ _ _ (by omega)) _ _ _ (by omega)⟩ ?_
 clear S L D N H Nc0 Nf0 Nc1 Nf1 Nc2 Nf2 Nc3 Nf3 Nc4 Nf4 Nc5 Nf5 Nc6 Nf6 Nc7 Nf7 Nc8 Nf8 Nl;rintro w5 ⟨S,L,D,N,H⟩;replace H:=hid H
 go_cut [] (fun W'=>∃ X' Y' P' Q',Gp ws ⟨k+1,ax,ay,f1,f2,((u+s) % 16),gn,false,false⟩=⟨k+1,X',Y',P',Q',((u+s) % 16),gn,false,false⟩/\CellsAt W' w.heap.size (AB (k+1) ax ay fx fy u gn false false)/\CellsAt W' (w.heap.size+1) (AX i t x y A n c G m kk fp fq fs fz b)/\CellsAt W' (w.heap.size+1+1) (AB 0 0 0 0 0 0 0 false false)/\CellsAt W' (w.heap.size+1+1+1) (AB (k+1) X' Y' P' Q' ((u+s) % 16) gn false false)/\Below w.heap.size w W')
 case first =>
  go_wp2_with fail;refine wp_region_held_drew (S:=fun w'=>CellsAt w' (w.heap.size+1) (AX i t x y A n c G m kk fp fq fs fz b)) (by kernel_rfl) L.drew (fun hHeld=>?_);replace S:=S.drew;replace L:=L.drew;replace D:=D.drew;replace N:=N.drew;replace H:=hid (AE H.out);refine tl 1 ?_ ?_ hHeld ?_;rotate_left
  . intro w hSw
    try dsimp only at hSw
    go_simp
    all_goals with_reducible rfl
  try simp only[Act.put,sx]
  refine tl 2 ?_ ?_ hHeld ?_;rotate_left
  . intro w hSw;have d4:=hSw.cell 4 _ rfl;go_simp
    all_goals with_reducible rfl
  try simp only[Act.put,sx]
  refine wpAnyH_ready (rs:=[0,3]) (by kernel_rfl) (by simp) ?_;refine(AllReadyH.cons (o:=_) rfl (fun K hK=>?_) (AllReadyH.cons (o:=_) rfl (fun K hK=>?_) AllReadyH.nil))
  . skip
    rw[if_pos (by rfl)];refine wp_load_mid 34 (.tmp 7) rfl (w.heap.size+1+1+1) 0 rfl (AB (k+1) ax ay f1 f2 ((u+s) % 16) gn false false) _ N.range Tryz.underlying34 rfl Ae ?_;clear hHeld;refine hK.out _ _ L (fun hHeld=>?_);clear hK K
    try simp only[Act.put,sx]
    refine rd 3 fun K hK=>?_;refine Ax ⟨_,Tryz.func48,by kernel_rfl,by rfl⟩ _ _ rfl #[.slice A n c] (by simp only[List.map_toArray,List.map_cons,List.map_nil]; rfl) (Dg A n c ws _ (I.out.step H.out) hn) ?_;rintro e w5 ⟨pp,rfl,T,B⟩;refine⟨_,rfl,?_⟩;replace S:=S.step B;replace L:=L.step B;replace D:=D.step B;replace N:=N.step B;replace H:=hid (Ab H.out B);clear B hHeld;refine hK.out _ _ L (fun hHeld=>?_);clear hK K
    try simp only[Act.put,sx]
    refine rd 4 fun K hK=>?_;refine Ax ⟨_,Tryz.func86,by kernel_rfl,by rfl⟩ _ _ rfl #[Cd (k+1) ax ay f1 f2 ((u+s) % 16) gn false false,.pointer pp] (by simp only[List.map_toArray,List.map_cons,List.map_nil]; rfl) (Db ws pp _ (k+1) ax ay f1 f2 ((u+s) % 16) gn false false _ T ok.out a1 a2 a3 a4 q1 q2 q3 q4) ?_;rintro e w6 ⟨⟨X',Y',P',Q',eM,rfl⟩,B⟩;refine⟨_,rfl,?_⟩;replace S:=S.step B;replace L:=L.step B;replace D:=D.step B;replace N:=N.step B;replace H:=hid (Ab H.out B);clear B hHeld T;refine hK.out _ _ L (fun hHeld=>?_);clear hK K
    try simp only[Act.put,sx]
    refine rd 5 fun K hK=>?_;refine Au 34 (.tmp 7) (.tmp 51) rfl (w.heap.size+1+1+1) rfl (AB (k+1) X' Y' P' Q' ((u+s) % 16) gn false false) rfl _ N (by simp) Ae rfl ?_;intro w7 K N7;replace S:=S.kept K (by omega);replace L:=L.kept K (by omega);replace D:=D.kept K (by omega);replace N:=N7;replace H:=hid (Ao H.out K (by omega));clear K N7 hHeld;refine hK.out _ _ L (fun hHeld=>?_);clear hK K
    try simp only[Act.put,List.getElem_toArray,List.getElem_cons_succ,List.getElem_cons_zero]
    refine wpAnyH_done (by kernel_rfl) ?_ _;go_wp2_with fail
    go_meet
    case rel=>exact⟨_,_,_,_,eM,S,L,D,N,H.out⟩
  . skip
    rw[if_pos (by rfl)];refine Ax ⟨_,Tryz.func48,by kernel_rfl,by rfl⟩ _ _ rfl #[.slice A n c] (by simp only[List.map_toArray,List.map_cons,List.map_nil]; rfl) (Dg A n c ws _ (I.out.step H.out) hn) ?_;rintro e w5 ⟨pp,rfl,T,B⟩;refine⟨_,rfl,?_⟩;replace S:=S.step B;replace L:=L.step B;replace D:=D.step B;replace N:=N.step B;replace H:=hid (Ab H.out B);clear B hHeld;refine hK.out _ _ L (fun hHeld=>?_);clear hK K
    try simp only[Act.put,sx]
    refine rd 0 fun K hK=>?_;refine wp_load_mid 34 (.tmp 7) rfl (w.heap.size+1+1+1) 0 rfl (AB (k+1) ax ay f1 f2 ((u+s) % 16) gn false false) _ N.range Tryz.underlying34 rfl Ae ?_;clear hHeld;refine hK.out _ _ L (fun hHeld=>?_);clear hK K
    try simp only[Act.put,sx]
    refine rd 4 fun K hK=>?_;refine Ax ⟨_,Tryz.func86,by kernel_rfl,by rfl⟩ _ _ rfl #[Cd (k+1) ax ay f1 f2 ((u+s) % 16) gn false false,.pointer pp] (by simp only[List.map_toArray,List.map_cons,List.map_nil]; rfl) (Db ws pp _ (k+1) ax ay f1 f2 ((u+s) % 16) gn false false _ T ok.out a1 a2 a3 a4 q1 q2 q3 q4) ?_;rintro e w6 ⟨⟨X',Y',P',Q',eM,rfl⟩,B⟩;refine⟨_,rfl,?_⟩;replace S:=S.step B;replace L:=L.step B;replace D:=D.step B;replace N:=N.step B;replace H:=hid (Ab H.out B);clear B hHeld T;refine hK.out _ _ L (fun hHeld=>?_);clear hK K
    try simp only[Act.put,sx]
    refine rd 5 fun K hK=>?_;refine Au 34 (.tmp 7) (.tmp 51) rfl (w.heap.size+1+1+1) rfl (AB (k+1) X' Y' P' Q' ((u+s) % 16) gn false false) rfl _ N (by simp) Ae rfl ?_;intro w7 K N7;replace S:=S.kept K (by omega);replace L:=L.kept K (by omega);replace D:=D.kept K (by omega);replace N:=N7;replace H:=hid (Ao H.out K (by omega));clear K N7 hHeld;refine hK.out _ _ L (fun hHeld=>?_);clear hK K
    try simp only[Act.put,List.getElem_toArray,List.getElem_cons_succ,List.getElem_cons_zero]
    refine wpAnyH_done (by kernel_rfl) ?_ _;go_wp2_with fail
    go_meet
    case rel=>exact⟨_,_,_,_,eM,S,L,D,N,H.out⟩
 clear S L D N H;obtain⟨X',Y',P',Q',eM,S,L,D,N,H⟩:=hcut;replace H:=hid H;have EM:=hid (show Sw ws ⟨k+1,ax,ay,fx,fy,u,gn,false,false⟩ s p=⟨k+1,X',Y',P',Q',((u+s) % 16),gn,false,false⟩ from by
  show Gp ws ⟨k+1,ax,ay,E6 fx fy ((u+s) % 16) p,E7 fx fy ((u+s) % 16) p,((u+s) % 16),gn,false,false⟩=_
  rw[EF.out.1,EF.out.2];exact eM)
 clear eM;have C3:=fun W=>A3 X' Y' W;obtain⟨Nc0,Nc1,Nc2,Nc3,Nc4,Nc5,Nc6,Nc7,Nc8⟩:=Be N;have Nl:=N.lt;go_wp2_with fail;refine(C3 _).mono ?_;rintro e w8 ⟨rfl,B⟩;replace S:=S.step B;replace L:=L.step B;replace D:=D.step B;replace N:=N.step B;replace H:=hid (Ab H.out B);clear B C3 Nc0 Nc1 Nc2 Nc3 Nc4 Nc5 Nc6 Nc7 Nc8 Nl;cases hv:Aw X' Y'
 . have E:=hid (show stS ws gs fp fq fs fz ⟨k,ax,ay,fx,fy,u,gn,false,false⟩ ⟨s,p,false⟩=⟨k+1,ax,ay,fx,fy,u,gn,false,true⟩ by
    show Hg ws gs fp fq fs fz ⟨k+1,ax,ay,fx,fy,u,gn,false,false⟩ s p=_
    unfold Hg;rw[EM.out];simp[hv])
   clear hv EM;have Sc0:=S.cell 0 _ rfl;have Sf0:=S.fr 0;have Sc1:=S.cell 1 _ rfl;have Sf1:=S.fr 1;have Sc2:=S.cell 2 _ rfl;have Sf2:=S.fr 2;have Sc3:=S.cell 3 _ rfl;have Sf3:=S.fr 3;have Sc4:=S.cell 4 _ rfl;have Sf4:=S.fr 4;have Sc5:=S.cell 5 _ rfl;have Sf5:=S.fr 5;have Sc6:=S.cell 6 _ rfl;have Sf6:=S.fr 6;have Sc7:=S.cell 7 _ rfl;have Sf7:=S.fr 7;have Sc8:=S.cell 8 _ rfl;have Sf8:=S.fr 8;have Sl:=S.lt;go_upto_region 16 with fail
   refine AD (fun W'=>CellsAt W' w.heap.size (AB (k+1) ax ay fx fy u gn false true)/\CellsAt W' (w.heap.size+1+1) (AB 0 0 0 0 0 0 0 false false)/\Below w.heap.size w W') ⟨S.set 8 (by simp) _,D.far (by omega) _ _,Ap H.out _ _ _ (by omega)⟩ ?_;clear L S N D H Sc0 Sf0 Sc1 Sf1 Sc2 Sf2 Sc3 Sf3 Sc4 Sf4 Sc5 Sf5 Sc6 Sf6 Sc7 Sf7 Sc8 Sf8 Sl;rintro w9 ⟨S,D,H⟩;refine wp_region_lit ?_;refine Af rfl 34 (.tmp 3) rfl w.heap.size rfl (AB (k+1) ax ay fx fy u gn false true) S Tryz.underlying34 rfl Ae ?_;refine Ai rfl 34 (.tmp 6) (.tmp 57) rfl (w.heap.size+1+1) rfl (AB (k+1) ax ay fx fy u gn false true) rfl _ D (by simp) Ae rfl ?_;intro wa K N
   clear S D;go_wp2;exact bodyPost_ret (v:=Cd (k+1) ax ay fx fy u gn false true) (An rfl (w.heap.size+1+1) rfl (AB (k+1) ax ay fx fy u gn false true) N Tryz.underlying34 rfl Ae) rfl ⟨⟨_,_,_,_,_,_,_,_,_,E.out,rfl⟩,Ao H K (by omega)⟩
 have C6:=fun(W:World) (Z:Boxes W G m gs)=>Ep i t x y A n c G m kk fp fq fs fz b gs (k+1) X' Y' P' Q' ((u+s) % 16) gn false false W Z hm okg.out okf.out hv g1;have E:=hid (show stS ws gs fp fq fs fz ⟨k,ax,ay,fx,fy,u,gn,false,false⟩ ⟨s,p,false⟩=⟨k+1,X',Y',P',Q',((u+s) % 16),EY gs gn X' Y',decide (EY gs gn X' Y'=gs.length)&&Du fp fq fs fz X' Y',false⟩ by
  show Hg ws gs fp fq fs fz ⟨k+1,ax,ay,fx,fy,u,gn,false,false⟩ s p=_
  unfold Hg;rw[EM.out];simp[hv])
 generalize EY gs gn X' Y'=vv at *;generalize (decide (vv=(gs.length:Int))&&Du fp fq fs fz X' Y')=dd at *;replace C6:=hid C6;clear hv EM S;obtain⟨Lc0,Lc1,Lc2,Lc3,Lc4,Lc5,Lc6,Lc7,Lc8,Lc9,Lc10⟩:=AL L;have Ll:=L.lt;obtain⟨Nc0,Nc1,Nc2,Nc3,Nc4,Nc5,Nc6,Nc7,Nc8⟩:=Be N;have Nl:=N.lt;go_wp2_with fail;refine(C6.out _ (J.out.step H.out)).mono ?_;rintro e w9 ⟨rfl,B⟩;replace D:=D.step B;replace H:=hid (Ab H.out B);clear B C6 Lc0 Lc1 Lc2 Lc3 Lc4 Lc5 Lc6 Lc7 Lc8 Lc9 Lc10 Ll Nc0 Nc1 Nc2 Nc3 Nc4 Nc5 Nc6 Nc7 Nc8 Nl L N
 go_wp2_with (refine Ai rfl 34 (.tmp 6) (.tmp 60) rfl (w.heap.size+1+1) rfl (AB (k+1) X' Y' P' Q' ((u+s) % 16) vv dd false) rfl _ D (by simp) Ae rfl ?_);intro wa K N;clear D;go_wp2;exact bodyPost_ret (v:=Cd (k+1) X' Y' P' Q' ((u+s) % 16) vv dd false) (An rfl (w.heap.size+1+1) rfl (AB (k+1) X' Y' P' Q' ((u+s) % 16) vv dd false) N Tryz.underlying34 rfl Ae) rfl ⟨⟨_,_,_,_,_,_,_,_,_,E.out,rfl⟩,Ao H.out K (by omega)⟩
end Go.Proofs.YtaemcekcancpdaaGreatDoor
