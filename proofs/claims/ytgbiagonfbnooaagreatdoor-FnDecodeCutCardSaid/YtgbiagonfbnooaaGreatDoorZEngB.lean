import Derived.Test.YtgbiagonfbnooaaGreatDoorZEng
import Derived.Test.YtgbiagonfbnooaaGreatDoorZInRow
import Derived.Test.YtgbiagonfbnooaaGreatDoorZ0
set_option linter.all false
set_option maxRecDepth 100000
set_option maxHeartbeats 8000000
open Go.Lib
namespace Go.Proofs.YtgbiagonfbnooaaGreatDoor
open Go.RowKit
open M
theorem JD{w:World}{A:Option Addr}{n:Nat}{bs:List Bx}(h:Boxes w A n bs){j:Nat}(hj:j<n):∃ b off,A=some ⟨b,off,none⟩/\BoxIn w b (off+j*4) (bs.getD j bz).a (bs.getD j bz).b (bs.getD j bz).c (bs.getD j bz).d:=by
 obtain⟨b,off,e,hb,hc⟩:=h.2 (by omega);exact⟨b,off,e,(hc j hj).lie hb⟩
theorem IG(i t x y:Int)(A:Option Addr)(n c:Nat)(G:Option Addr)(m kk:Nat)(fp fq fs fz b:Int)(ws gs:List Bx)(k ax ay fx fy u:Int)(gn:Nat)(d o:Bool)(s p:Int)(z:Bool)(w:World)(I:Boxes w A n ws)(J:Boxes w G m gs)(ok:C8 ws=true)(hn:n<=281474976710656)(hm:m<=281474976710656)(hB:StB m ⟨k,ax,ay,fx,fy,u,gn,d,o⟩)(s1:-1<=s)(s2:s<=1) :
 Calls Tryz.prog 107 #[Fq i t x y A n c G m kk fp fq fs fz b,Dw k ax ay fx fy u gn d o,BK s p z] w fun e w'=>(∃ K X Y P Q U V D O,IJ ws gs fp fq fs fz ⟨k,ax,ay,fx,fy,u,gn,d,o⟩ s p=⟨K,X,Y,P,Q,U,V,D,O⟩/\e=.returned (Dw K X Y P Q U V D O))/\Below w.heap.size w w':=by
 obtain⟨⟨⟨a1,a2⟩,a3,a4⟩,⟨⟨x1,x2⟩,y1,y2⟩,⟨u0,u1⟩,⟨g0,g1⟩,hk⟩:=hB;simp only at a1 a2 a3 a4 x1 x2 y1 y2 u0 u1 g0 g1;clear hk;clear g0;have gl:gs.length=m:=J.1;have I:=hid I;have J:=hid J;have ok:=hid ok
 have L:CellsAt ((((w.alloc (.cells #[.int .i64 i,.int .i64 t,.int .i64 x,.int .i64 y,.slice A n c,.slice G m kk,.int .i64 fp,.int .i64 fq,.int .i64 fs,.int .i64 fz,.int .i64 b] 62)).alloc (.cells #[.int .i64 k,.int .i64 ax,.int .i64 ay,.int .i64 fx,.int .i64 fy,.int .i64 u,.int .i64 gn,.bool d,.bool o] 132)).alloc (.cells #[.int .i64 s,.int .i64 p,.bool z] 89)).alloc (.cells #[.int .i64 0,.int .i64 0,.int .i64 0,.int .i64 0,.int .i64 0,.int .i64 0,.int .i64 0,.bool false,.bool false] 132)) w.heap.size (AW i t x y A n c G m kk fp fq fs fz b):=(((CellsAt.new w _ _ _ rfl).alloc _).alloc _).alloc _
 have S:CellsAt ((((w.alloc (.cells #[.int .i64 i,.int .i64 t,.int .i64 x,.int .i64 y,.slice A n c,.slice G m kk,.int .i64 fp,.int .i64 fq,.int .i64 fs,.int .i64 fz,.int .i64 b] 62)).alloc (.cells #[.int .i64 k,.int .i64 ax,.int .i64 ay,.int .i64 fx,.int .i64 fy,.int .i64 u,.int .i64 gn,.bool d,.bool o] 132)).alloc (.cells #[.int .i64 s,.int .i64 p,.bool z] 89)).alloc (.cells #[.int .i64 0,.int .i64 0,.int .i64 0,.int .i64 0,.int .i64 0,.int .i64 0,.int .i64 0,.bool false,.bool false] 132)) (w.heap.size+1) (AE k ax ay fx fy u gn d o):=((CellsAt.new _ _ _ _ (by simp)).alloc _).alloc _
 have X:CellsAt ((((w.alloc (.cells #[.int .i64 i,.int .i64 t,.int .i64 x,.int .i64 y,.slice A n c,.slice G m kk,.int .i64 fp,.int .i64 fq,.int .i64 fs,.int .i64 fz,.int .i64 b] 62)).alloc (.cells #[.int .i64 k,.int .i64 ax,.int .i64 ay,.int .i64 fx,.int .i64 fy,.int .i64 u,.int .i64 gn,.bool d,.bool o] 132)).alloc (.cells #[.int .i64 s,.int .i64 p,.bool z] 89)).alloc (.cells #[.int .i64 0,.int .i64 0,.int .i64 0,.int .i64 0,.int .i64 0,.int .i64 0,.int .i64 0,.bool false,.bool false] 132)) (w.heap.size+1+1) (AF s p z):=(CellsAt.new _ _ _ _ (by simp)).alloc _
 have D:CellsAt ((((w.alloc (.cells #[.int .i64 i,.int .i64 t,.int .i64 x,.int .i64 y,.slice A n c,.slice G m kk,.int .i64 fp,.int .i64 fq,.int .i64 fs,.int .i64 fz,.int .i64 b] 62)).alloc (.cells #[.int .i64 k,.int .i64 ax,.int .i64 ay,.int .i64 fx,.int .i64 fy,.int .i64 u,.int .i64 gn,.bool d,.bool o] 132)).alloc (.cells #[.int .i64 s,.int .i64 p,.bool z] 89)).alloc (.cells #[.int .i64 0,.int .i64 0,.int .i64 0,.int .i64 0,.int .i64 0,.int .i64 0,.int .i64 0,.bool false,.bool false] 132)) (w.heap.size+1+1+1) (AE 0 0 0 0 0 0 0 false false):=CellsAt.new _ _ _ _ (by simp)
 have H:=hid (Ab (Ab (Ab (Ab (Ac w) (.cells #[.int .i64 i,.int .i64 t,.int .i64 x,.int .i64 y,.slice A n c,.slice G m kk,.int .i64 fp,.int .i64 fq,.int .i64 fs,.int .i64 fz,.int .i64 b] 62)) (.cells #[.int .i64 k,.int .i64 ax,.int .i64 ay,.int .i64 fx,.int .i64 fy,.int .i64 u,.int .i64 gn,.bool d,.bool o] 132)) (.cells #[.int .i64 s,.int .i64 p,.bool z] 89)) (.cells #[.int .i64 0,.int .i64 0,.int .i64 0,.int .i64 0,.int .i64 0,.int .i64 0,.int .i64 0,.bool false,.bool false] 132));have v0:0<=((u+s) % 16):=by omega
 have v1:((u+s) % 16)<=15:=by omega
 obtain⟨Sc0,Sc1,Sc2,Sc3,Sc4,Sc5,Sc6,Sc7,Sc8⟩:=CG S;have Sl:=S.lt;obtain⟨Xc0,Xc1,Xc2⟩:=BL X;have Xl:=X.lt;go_enter Tryz.func107,Tryz.ntmps107;go_upto_region 3 with fail
 refine Aw (fun W'=>CellsAt W' w.heap.size (AW i t x y A n c G m kk fp fq fs fz b)/\CellsAt W' (w.heap.size+1) (AE k ax ay fx fy u gn d o)/\CellsAt W' (w.heap.size+1+1) (AF s p z)/\CellsAt W' (w.heap.size+1+1+1) (AE 0 0 0 0 0 0 0 false false)/\CellsAt W' (w.heap.size+1+1+1+1) (AE k ax ay fx fy ((u+s) % 16) gn d o)/\Below w.heap.size w W') ⟨by first | exact(L.alloc _) | exact((L.alloc _).far (by omega) _ _),by first | exact(S.alloc _) | exact((S.alloc _).far (by omega) _ _),by first | exact(X.alloc _) | exact((X.alloc _).far (by omega) _ _),by first | exact(D.alloc _) | exact((D.alloc _).far (by omega) _ _),by first | exact CellsAt.new _ _ _ _ (by simp) | exact(CellsAt.new _ _ (AE k ax ay fx fy u gn d o) _ (by simp)).set 5 (by simp) _,by first | exact Ab H.out _ | exact Ar (Ab H.out _) _ _ _ (by omega)⟩ ?_
 clear L S X D H Sc0 Sc1 Sc2 Sc3 Sc4 Sc5 Sc6 Sc7 Sc8 Sl Xc0 Xc1 Xc2 Xl ;rintro w1 ⟨L,S,X,D,O,H⟩;replace H:=hid H;have C1:=hid (fun W=>JB k ax ay fx fy u gn d o ((u+s) % 16) p W x1 x2 y1 y2 v0 v1);have ff:=Ep (p:=p) x1 x2 y1 y2 v0 v1;have EM:=hid (show Nu ws ⟨k,ax,ay,fx,fy,u,gn,d,o⟩ s p=GV ws ⟨k,ax,ay,E8 fx fy ((u+s) % 16) p,E9 fx fy ((u+s) % 16) p,((u+s) % 16),gn,d,o⟩ from rfl);generalize E8 fx fy ((u+s) % 16) p=f1 at *;generalize E9 fx fy ((u+s) % 16) p=f2 at *;obtain⟨⟨q1,q2⟩,q3,q4⟩:=ff;obtain⟨Sc0,Sc1,Sc2,Sc3,Sc4,Sc5,Sc6,Sc7,Sc8⟩:=CG S;have Sl:=S.lt;obtain⟨Xc0,Xc1,Xc2⟩:=BL X;have Xl:=X.lt
 obtain⟨Oc0,Oc1,Oc2,Oc3,Oc4,Oc5,Oc6,Oc7,Oc8⟩:=CG O;have Ol:=O.lt;go_wp2_with fail;refine(C1.out _).mono ?_;rintro e w2 ⟨rfl,B⟩;replace L:=L.step B;replace S:=S.step B;replace X:=X.step B;replace D:=D.step B;replace O:=O.step B;replace H:=hid (Aa H.out B);clear B;clear C1 Sc0 Sc1 Sc2 Sc3 Sc4 Sc5 Sc6 Sc7 Sc8 Sl Xc0 Xc1 Xc2 Xl Oc0 Oc1 Oc2 Oc3 Oc4 Oc5 Oc6 Oc7 Oc8 Ol ;obtain⟨Oc0,Oc1,Oc2,Oc3,Oc4,Oc5,Oc6,Oc7,Oc8⟩:=CG O;have Ol:=O.lt;have Of0:=O.fr 0;have Of1:=O.fr 1;have Of2:=O.fr 2;have Of3:=O.fr 3;have Of4:=O.fr 4;have Of5:=O.fr 5;have Of6:=O.fr 6;have Of7:=O.fr 7;have Of8:=O.fr 8;go_upto_region 4 with fail
 refine Aw (fun W'=>CellsAt W' w.heap.size (AW i t x y A n c G m kk fp fq fs fz b)/\CellsAt W' (w.heap.size+1) (AE k ax ay fx fy u gn d o)/\CellsAt W' (w.heap.size+1+1) (AF s p z)/\CellsAt W' (w.heap.size+1+1+1) (AE 0 0 0 0 0 0 0 false false)/\CellsAt W' (w.heap.size+1+1+1+1) (AE k ax ay f1 f2 ((u+s) % 16) gn d o)/\Below w.heap.size w W') ⟨(L.far (by omega) _ _).far (by omega) _ _,(S.far (by omega) _ _).far (by omega) _ _,(X.far (by omega) _ _).far (by omega) _ _,(D.far (by omega) _ _).far (by omega) _ _,(O.set 3 (by simp) _).set 4 (by simp) _,Ar (Ar H.out _ _ _ (by omega)) _ _ _ (by omega)⟩ ?_
 clear L S X D O H Oc0 Oc1 Oc2 Oc3 Oc4 Oc5 Oc6 Oc7 Oc8 Ol Of0 Of1 Of2 Of3 Of4 Of5 Of6 Of7 Of8;rintro w3 ⟨L,S,X,D,O,H⟩;replace H:=hid H;have C2:=hid (fun(W:World) (Z:Boxes W A n ws)=>JC i t x y A n c G m kk fp fq fs fz b ws k ax ay f1 f2 ((u+s) % 16) gn d o W Z ok.out hn a1 a2 a3 a4 q1 q2 q3 q4);obtain⟨Lc0,Lc1,Lc2,Lc3,Lc4,Lc5,Lc6,Lc7,Lc8,Lc9,Lc10⟩:=Bb L;have Ll:=L.lt;obtain⟨Oc0,Oc1,Oc2,Oc3,Oc4,Oc5,Oc6,Oc7,Oc8⟩:=CG O;have Ol:=O.lt;go_wp2_with fail;refine(C2.out _ (I.out.step H.out)).mono ?_;rintro e w4 ⟨⟨X',Y',P',Q',eM,rfl⟩,B⟩;replace L:=L.step B;replace S:=S.step B;replace X:=X.step B;replace D:=D.step B
 replace O:=O.step B;replace H:=hid (Aa H.out B);clear B;clear C2 Lc0 Lc1 Lc2 Lc3 Lc4 Lc5 Lc6 Lc7 Lc8 Lc9 Lc10 Ll Oc0 Oc1 Oc2 Oc3 Oc4 Oc5 Oc6 Oc7 Oc8 Ol ;replace EM:=hid (EM.out.trans eM);clear eM;go_wp2_with (refine Ah rfl 132 (.tmp 7) (.tmp 26) rfl (w.heap.size+1+1+1+1) rfl (AE k X' Y' P' Q' ((u+s) % 16) gn d o) rfl _ O (by simp) Ad rfl ?_);intro w5 K N;replace O:=N;replace L:=L.kept K (by omega);replace S:=S.kept K (by omega);replace X:=X.kept K (by omega);replace D:=D.kept K (by omega);replace H:=hid (Au H.out K (by omega));clear K N;have C3:=fun W=>AB X' Y' W;obtain⟨Oc0,Oc1,Oc2,Oc3,Oc4,Oc5,Oc6,Oc7,Oc8⟩:=CG O
 have Ol:=O.lt;go_wp2_with fail;refine(C3 _).mono ?_;rintro e w6 ⟨rfl,B⟩;replace L:=L.step B;replace S:=S.step B;replace X:=X.step B;replace D:=D.step B;replace O:=O.step B;replace H:=hid (Aa H.out B);clear B;clear C3 Oc0 Oc1 Oc2 Oc3 Oc4 Oc5 Oc6 Oc7 Oc8 Ol ;cases hv:AD X' Y'
 . have E:=hid (show IJ ws gs fp fq fs fz ⟨k,ax,ay,fx,fy,u,gn,d,o⟩ s p=⟨k,ax,ay,fx,fy,u,gn,d,true⟩ by unfold IJ; rw[EM.out]; simp[hv]);clear hv EM;obtain⟨Sc0,Sc1,Sc2,Sc3,Sc4,Sc5,Sc6,Sc7,Sc8⟩:=CG S;have Sl:=S.lt;have Sf0:=S.fr 0;have Sf1:=S.fr 1;have Sf2:=S.fr 2;have Sf3:=S.fr 3;have Sf4:=S.fr 4;have Sf5:=S.fr 5;have Sf6:=S.fr 6;have Sf7:=S.fr 7;have Sf8:=S.fr 8;go_upto_region 7 with fail
   refine Aw (fun W'=>CellsAt W' (w.heap.size+1) (AE k ax ay fx fy u gn d true)/\CellsAt W' (w.heap.size+1+1+1) (AE 0 0 0 0 0 0 0 false false)/\Below w.heap.size w W') ⟨S.set 8 (by simp) _,D.far (by omega) _ _,Ar H.out _ _ _ (by omega)⟩ ?_;clear L S X D O H Sc0 Sc1 Sc2 Sc3 Sc4 Sc5 Sc6 Sc7 Sc8 Sl Sf0 Sf1 Sf2 Sf3 Sf4 Sf5 Sf6 Sf7 Sf8;rintro w7 ⟨S,D,H⟩;refine wp_region_lit ?_;refine Ag rfl 132 (.tmp 4) rfl (w.heap.size+1) rfl (AE k ax ay fx fy u gn d true) S Tryz.underlying132 rfl Ad ?_;refine Ah rfl 132 (.tmp 6) (.tmp 32) rfl (w.heap.size+1+1+1) rfl (AE k ax ay fx fy u gn d true) rfl _ D (by simp) Ad rfl ?_;intro w8 K N
   clear S D;replace H:=hid (Au H K (by omega));go_wp2;exact bodyPost_ret (v:=Dw k ax ay fx fy u gn d true) (Ai rfl (w.heap.size+1+1+1) rfl (AE k ax ay fx fy u gn d true) N Tryz.underlying132 rfl Ad) rfl ⟨⟨_,_,_,_,_,_,_,_,_,E.out,rfl⟩,H.out⟩
 have ED:∀(q:Int) (r:Bool),G3 gs gn X' Y'=q->(decide (q=(m:Int))&&F4 fp fq fs fz X' Y')=r->IJ ws gs fp fq fs fz ⟨k,ax,ay,fx,fy,u,gn,d,o⟩ s p=⟨k,X',Y',P',Q',((u+s) % 16),q,r,o⟩:=fun q r e1 e2=>by
  unfold IJ;rw[EM.out];simp only[hv,if_true,e1,gl,e2]
 replace ED:=hid ED;clear hv EM;clear S X;by_cases hg:gn<m
 . obtain⟨bb,off,rfl,Z⟩:=JD (J.out.step H.out) hg;have hg':(gn:Int)<(m:Int):=by omega
   have C4:=fun W=>Du (gs.getD gn bz).a (gs.getD gn bz).b (gs.getD gn bz).c (gs.getD gn bz).d X' Y' W;have EG:MN gs gn X' Y'=F4 (gs.getD gn bz).a (gs.getD gn bz).b (gs.getD gn bz).c (gs.getD gn bz).d X' Y':=by simp[MN,gl,hg]
   generalize (gs.getD gn bz).a=ga at *;generalize (gs.getD gn bz).b=gb at *;generalize (gs.getD gn bz).c=gc at *;generalize (gs.getD gn bz).d=gd at *;cases hh:F4 ga gb gc gd X' Y'
   . have nd:decide ((gn:Int)=(m:Int))=false:=decide_eq_false (by omega);have E:=hid (ED.out gn false (by unfold G3; rw[EG,hh]; rfl) (by rw[nd]; rfl));have nb:((gn:Int)==(m:Int))=false:=beq_eq_false_iff_ne.2 (by omega);rw[hh] at C4;replace C4:=hid C4;clear hh EG ED nd;go_wp2_with fail
     refine wp_region_held_drew (S:=fun w'=>CellsAt w' w.heap.size (AW i t x y A n c (some ⟨bb,off,none⟩) m kk fp fq fs fz b)/\CellsAt w' (w.heap.size+1+1+1+1) (AE k X' Y' P' Q' ((u+s) % 16) gn d o)/\(w'.cell? ⟨bb,off+gn*4,none⟩=some (.int .i64 ga)/\w'.cell? ⟨bb,off+gn*4+1,none⟩=some (.int .i64 gb)/\w'.cell? ⟨bb,off+gn*4+2,none⟩=some (.int .i64 gc)/\w'.cell? ⟨bb,off+gn*4+3,none⟩=some (.int .i64 gd))) (by kernel_rfl) ⟨L.drew,O.drew,Bu Z.drew⟩ (fun hHeld=>?_);replace L:=L.drew;replace O:=O.drew;replace D:=D.drew;replace Z:=Z.drew;replace H:=hid (Az H.out);refine tl 0 ?_ ?_ hHeld ?_;rotate_left
     . intro w hSw
       try dsimp only at hSw
       go_simp
       all_goals with_reducible rfl
     try simp only[Act.put,sx]
     refine tl 1 ?_ ?_ hHeld ?_;rotate_left
     . intro w hSw;have d6:=hSw.2.1.cell 6 _ rfl;go_simp
       all_goals with_reducible rfl
     try simp only[Act.put,sx]
     refine tl 2 ?_ ?_ hHeld ?_;rotate_left
     . intro w hSw
       try dsimp only at hSw
       go_simp
       all_goals with_reducible rfl
     try simp only[Act.put,sx]
     refine tl 3 ?_ ?_ hHeld ?_;rotate_left
     . intro w hSw;have d5:=hSw.1.cell 5 _ rfl;go_simp
       all_goals with_reducible rfl
     try simp only[Act.put,sx]
     refine tl 4 ?_ ?_ hHeld ?_;rotate_left
     . intro w hSw
       try dsimp only at hSw
       go_simp
       all_goals with_reducible rfl
     try simp only[Act.put,sx]
     refine tl 5 ?_ ?_ hHeld ?_;rotate_left
     . intro w hSw
       try dsimp only at hSw
       go_simp
       all_goals with_reducible rfl
     try simp only[Act.put,sx]
     refine tl 6 ?_ ?_ hHeld ?_;rotate_left
     . intro w hSw
       try dsimp only at hSw
       go_simp
       all_goals with_reducible rfl
     try simp only[Act.put,sx]
     refine tl 7 ?_ ?_ hHeld ?_;rotate_left
     . intro w hSw
       try dsimp only at hSw
       go_simp
       all_goals with_reducible rfl
     try simp only[Act.put,sx]
     refine tl 8 ?_ ?_ hHeld ?_;rotate_left
     . intro w hSw;have d5:=hSw.1.cell 5 _ rfl;go_simp
       all_goals with_reducible rfl
     try simp only[Act.put,sx]
     refine tl 9 ?_ ?_ hHeld ?_;rotate_left
     . intro w hSw
       try dsimp only at hSw
       go_simp
       all_goals with_reducible rfl
     try simp only[Act.put,sx]
     refine tl 10 ?_ ?_ hHeld ?_;rotate_left
     . intro w hSw;have d6:=hSw.2.1.cell 6 _ rfl;go_simp
       all_goals with_reducible rfl
     try simp only[Act.put,sx]
     refine tl 11 ?_ ?_ hHeld ?_;rotate_left
     . intro w hSw
       try dsimp only at hSw
       go_simp
       all_goals with_reducible rfl
     try simp only[Act.put,sx]
     refine tl 12 ?_ ?_ hHeld ?_;rotate_left
     . intro w hSw;obtain⟨_,_,e0,e1,e2,e3⟩:=hSw;go_simp
       all_goals with_reducible rfl
     try simp only[Act.put,sx]
     refine tl 13 ?_ ?_ hHeld ?_;rotate_left
     . intro w hSw
       try dsimp only at hSw
       go_simp
       all_goals with_reducible rfl
     try simp only[Act.put,sx]
     refine tl 14 ?_ ?_ hHeld ?_;rotate_left
     . intro w hSw;have d1:=hSw.2.1.cell 1 _ rfl;have d2:=hSw.2.1.cell 2 _ rfl;go_simp
       all_goals with_reducible rfl
     try simp only[Act.put,sx]
     refine wpAnyH_ready (rs:=[15]) (by kernel_rfl) (by simp) ?_;apply AllReadyH.cons rfl ?_ AllReadyH.nil;intro K hK;go_simp
     go_at_call 123
     refine(C4.out _).mono ?_;rintro e wn ⟨rfl,B⟩;replace L:=L.step B;replace O:=O.step B;replace D:=D.step B;replace Z:=Z.step B;replace H:=hid (Aa H.out B);clear B C4;clear hHeld;go_wp2_with fail;refine hK.out _ _ ⟨L,O,Bu Z⟩ (fun hHeld=>?_);clear hK K
     try simp only[Act.put,sx]
     refine tl 16 ?_ ?_ hHeld ?_;rotate_left
     . intro w hSw
       try dsimp only at hSw
       go_simp
       all_goals with_reducible rfl
     try simp only[Act.put,sx]
     refine wpAnyH_done (by kernel_rfl) ?_ _;obtain⟨Lc0,Lc1,Lc2,Lc3,Lc4,Lc5,Lc6,Lc7,Lc8,Lc9,Lc10⟩:=Bb L;have Ll:=L.lt;obtain⟨Oc0,Oc1,Oc2,Oc3,Oc4,Oc5,Oc6,Oc7,Oc8⟩:=CG O;have Ol:=O.lt;have Of0:=O.fr 0;have Of1:=O.fr 1;have Of2:=O.fr 2;have Of3:=O.fr 3;have Of4:=O.fr 4;have Of5:=O.fr 5;have Of6:=O.fr 6;have Of7:=O.fr 7;have Of8:=O.fr 8;go_upto_region 11 with fail
     refine Aw (fun W'=>CellsAt W' (w.heap.size+1+1+1+1) (AE k X' Y' P' Q' ((u+s) % 16) gn false o)/\CellsAt W' (w.heap.size+1+1+1) (AE 0 0 0 0 0 0 0 false false)/\Below w.heap.size w W') ⟨O.set 7 (by simp) _,D.far (by omega) _ _,Ar H.out _ _ _ (by omega)⟩ ?_;clear O D H Lc0 Lc1 Lc2 Lc3 Lc4 Lc5 Lc6 Lc7 Lc8 Lc9 Lc10 Ll Oc0 Oc1 Oc2 Oc3 Oc4 Oc5 Oc6 Oc7 Oc8 Ol Of0 Of1 Of2 Of3 Of4 Of5 Of6 Of7 Of8 L;rintro wa ⟨O,D,H⟩;refine wp_region_lit ?_;refine Ag rfl 132 (.tmp 7) rfl (w.heap.size+1+1+1+1) rfl (AE k X' Y' P' Q' ((u+s) % 16) gn false o) O Tryz.underlying132 rfl Ad ?_
     refine Ah rfl 132 (.tmp 6) (.tmp 68) rfl (w.heap.size+1+1+1) rfl (AE k X' Y' P' Q' ((u+s) % 16) gn false o) rfl _ D (by simp) Ad rfl ?_;intro wb K N;clear O D;replace H:=hid (Au H K (by omega));go_wp2;exact bodyPost_ret (v:=Dw k X' Y' P' Q' ((u+s) % 16) gn false o) (Ai rfl (w.heap.size+1+1+1) rfl (AE k X' Y' P' Q' ((u+s) % 16) gn false o) N Tryz.underlying132 rfl Ad) rfl ⟨⟨_,_,_,_,_,_,_,_,_,E.out,rfl⟩,H.out⟩
   . rw[hh] at C4;replace C4:=hid C4;by_cases he:gn+1=m
     . have nb:((gn:Int)+1==(m:Int))=true:=beq_iff_eq.2 (by omega);have E:=hid (ED.out (gn+1) (F4 fp fq fs fz X' Y') (by unfold G3; rw[EG,hh]; rfl) (by rw[decide_eq_true (show(gn:Int)+1=(m:Int) by omega)]; rfl));clear hh EG ED he;go_wp2_with fail
       refine wp_region_held_drew (S:=fun w'=>CellsAt w' w.heap.size (AW i t x y A n c (some ⟨bb,off,none⟩) m kk fp fq fs fz b)/\CellsAt w' (w.heap.size+1+1+1+1) (AE k X' Y' P' Q' ((u+s) % 16) gn d o)/\(w'.cell? ⟨bb,off+gn*4,none⟩=some (.int .i64 ga)/\w'.cell? ⟨bb,off+gn*4+1,none⟩=some (.int .i64 gb)/\w'.cell? ⟨bb,off+gn*4+2,none⟩=some (.int .i64 gc)/\w'.cell? ⟨bb,off+gn*4+3,none⟩=some (.int .i64 gd))) (by kernel_rfl) ⟨L.drew,O.drew,Bu Z.drew⟩ (fun hHeld=>?_);replace L:=L.drew;replace O:=O.drew;replace D:=D.drew;replace Z:=Z.drew;replace H:=hid (Az H.out);refine tl 0 ?_ ?_ hHeld ?_;rotate_left
       . intro w hSw
         try dsimp only at hSw
         go_simp
         all_goals with_reducible rfl
       try simp only[Act.put,sx]
       refine tl 1 ?_ ?_ hHeld ?_;rotate_left
       . intro w hSw;have d6:=hSw.2.1.cell 6 _ rfl;go_simp
         all_goals with_reducible rfl
       try simp only[Act.put,sx]
       refine tl 2 ?_ ?_ hHeld ?_;rotate_left
       . intro w hSw
         try dsimp only at hSw
         go_simp
         all_goals with_reducible rfl
       try simp only[Act.put,sx]
       refine tl 3 ?_ ?_ hHeld ?_;rotate_left
       . intro w hSw;have d5:=hSw.1.cell 5 _ rfl;go_simp
         all_goals with_reducible rfl
       try simp only[Act.put,sx]
       refine tl 4 ?_ ?_ hHeld ?_;rotate_left
       . intro w hSw
         try dsimp only at hSw
         go_simp
         all_goals with_reducible rfl
       try simp only[Act.put,sx]
       refine tl 5 ?_ ?_ hHeld ?_;rotate_left
       . intro w hSw
         try dsimp only at hSw
         go_simp
         all_goals with_reducible rfl
       try simp only[Act.put,sx]
       refine tl 6 ?_ ?_ hHeld ?_;rotate_left
       . intro w hSw
         try dsimp only at hSw
         go_simp
         all_goals with_reducible rfl
       try simp only[Act.put,sx]
       refine tl 7 ?_ ?_ hHeld ?_;rotate_left
       . intro w hSw
         try dsimp only at hSw
         go_simp
         all_goals with_reducible rfl
       try simp only[Act.put,sx]
       refine tl 8 ?_ ?_ hHeld ?_;rotate_left
       . intro w hSw;have d5:=hSw.1.cell 5 _ rfl;go_simp
         all_goals with_reducible rfl
       try simp only[Act.put,sx]
       refine tl 9 ?_ ?_ hHeld ?_;rotate_left
       . intro w hSw
         try dsimp only at hSw
         go_simp
         all_goals with_reducible rfl
       try simp only[Act.put,sx]
       refine tl 10 ?_ ?_ hHeld ?_;rotate_left
       . intro w hSw;have d6:=hSw.2.1.cell 6 _ rfl;go_simp
         all_goals with_reducible rfl
       try simp only[Act.put,sx]
       refine tl 11 ?_ ?_ hHeld ?_;rotate_left
       . intro w hSw
         try dsimp only at hSw
         go_simp
         all_goals with_reducible rfl
       try simp only[Act.put,sx]
       refine tl 12 ?_ ?_ hHeld ?_;rotate_left
       . intro w hSw;obtain⟨_,_,e0,e1,e2,e3⟩:=hSw;go_simp
         all_goals with_reducible rfl
       try simp only[Act.put,sx]
       refine tl 13 ?_ ?_ hHeld ?_;rotate_left
       . intro w hSw
         try dsimp only at hSw
         go_simp
         all_goals with_reducible rfl
       try simp only[Act.put,sx]
       refine tl 14 ?_ ?_ hHeld ?_;rotate_left
       . intro w hSw;have d1:=hSw.2.1.cell 1 _ rfl;have d2:=hSw.2.1.cell 2 _ rfl;go_simp
         all_goals with_reducible rfl
       try simp only[Act.put,sx]
       refine wpAnyH_ready (rs:=[15]) (by kernel_rfl) (by simp) ?_;apply AllReadyH.cons rfl ?_ AllReadyH.nil;intro K hK;go_simp
       go_at_call 123
       refine(C4.out _).mono ?_;rintro e wn ⟨rfl,B⟩;replace L:=L.step B;replace O:=O.step B;replace D:=D.step B;replace Z:=Z.step B;replace H:=hid (Aa H.out B);clear B C4;clear hHeld;go_wp2_with fail;refine hK.out _ _ ⟨L,O,Bu Z⟩ (fun hHeld=>?_);clear hK K
       try simp only[Act.put,sx]
       refine tl 16 ?_ ?_ hHeld ?_;rotate_left
       . intro w hSw
         try dsimp only at hSw
         go_simp
         all_goals with_reducible rfl
       try simp only[Act.put,sx]
       refine wpAnyH_done (by kernel_rfl) ?_ _;have O6:=O.cell 6 _ rfl;have f6:=O.fr 6;have Ol:=O.lt;go_upto_region 10 with fail;refine Aw (fun W'=>CellsAt W' w.heap.size (AW i t x y A n c (some ⟨bb,off,none⟩) m kk fp fq fs fz b)/\CellsAt W' (w.heap.size+1+1+1+1) (AE k X' Y' P' Q' ((u+s) % 16) (gn+1) d o)/\CellsAt W' (w.heap.size+1+1+1) (AE 0 0 0 0 0 0 0 false false)/\Below w.heap.size w W') ⟨L.far (by omega) _ _,O.set 6 (by simp) _,D.far (by omega) _ _,Ar H.out _ _ _ (by omega)⟩ ?_;clear L O D H O6 f6 Ol Z;rintro wm ⟨L,O,D,H⟩;replace H:=hid H;have C5:=hid (fun W=>Du fp fq fs fz X' Y' W)
       generalize F4 fp fq fs fz X' Y'=rr at *;obtain⟨Lc0,Lc1,Lc2,Lc3,Lc4,Lc5,Lc6,Lc7,Lc8,Lc9,Lc10⟩:=Bb L;have Ll:=L.lt;obtain⟨Oc0,Oc1,Oc2,Oc3,Oc4,Oc5,Oc6,Oc7,Oc8⟩:=CG O;have Ol:=O.lt;go_wp2_with fail;refine(C5.out _).mono ?_;rintro e w9 ⟨rfl,B⟩;replace O:=O.step B;replace D:=D.step B;replace H:=hid (Aa H.out B);clear B C5 L Lc0 Lc1 Lc2 Lc3 Lc4 Lc5 Lc6 Lc7 Lc8 Lc9 Lc10 Ll Oc0 Oc1 Oc2 Oc3 Oc4 Oc5 Oc6 Oc7 Oc8 Ol ;obtain⟨Oc0,Oc1,Oc2,Oc3,Oc4,Oc5,Oc6,Oc7,Oc8⟩:=CG O;have Ol:=O.lt;have Of0:=O.fr 0;have Of1:=O.fr 1;have Of2:=O.fr 2;have Of3:=O.fr 3;have Of4:=O.fr 4;have Of5:=O.fr 5;have Of6:=O.fr 6;have Of7:=O.fr 7
       have Of8:=O.fr 8;go_upto_region 11 with fail;refine Aw (fun W'=>CellsAt W' (w.heap.size+1+1+1+1) (AE k X' Y' P' Q' ((u+s) % 16) (gn+1) rr o)/\CellsAt W' (w.heap.size+1+1+1) (AE 0 0 0 0 0 0 0 false false)/\Below w.heap.size w W') ⟨O.set 7 (by simp) _,D.far (by omega) _ _,Ar H.out _ _ _ (by omega)⟩ ?_;clear O D H Oc0 Oc1 Oc2 Oc3 Oc4 Oc5 Oc6 Oc7 Oc8 Ol Of0 Of1 Of2 Of3 Of4 Of5 Of6 Of7 Of8;rintro wa ⟨O,D,H⟩;refine wp_region_lit ?_;refine Ag rfl 132 (.tmp 7) rfl (w.heap.size+1+1+1+1) rfl (AE k X' Y' P' Q' ((u+s) % 16) (gn+1) rr o) O Tryz.underlying132 rfl Ad ?_
       refine Ah rfl 132 (.tmp 6) (.tmp 68) rfl (w.heap.size+1+1+1) rfl (AE k X' Y' P' Q' ((u+s) % 16) (gn+1) rr o) rfl _ D (by simp) Ad rfl ?_;intro wb K N;clear O D;replace H:=hid (Au H K (by omega));go_wp2;exact bodyPost_ret (v:=Dw k X' Y' P' Q' ((u+s) % 16) (gn+1) rr o) (Ai rfl (w.heap.size+1+1+1) rfl (AE k X' Y' P' Q' ((u+s) % 16) (gn+1) rr o) N Tryz.underlying132 rfl Ad) rfl ⟨⟨_,_,_,_,_,_,_,_,_,E.out,rfl⟩,H.out⟩
     . have nb:((gn:Int)+1==(m:Int))=false:=beq_eq_false_iff_ne.2 (by omega);have E:=hid (ED.out (gn+1) false (by unfold G3; rw[EG,hh]; rfl) (by rw[decide_eq_false (show ¬ (gn:Int)+1=(m:Int) by omega)]; rfl));clear hh EG ED he;go_wp2_with fail
       refine wp_region_held_drew (S:=fun w'=>CellsAt w' w.heap.size (AW i t x y A n c (some ⟨bb,off,none⟩) m kk fp fq fs fz b)/\CellsAt w' (w.heap.size+1+1+1+1) (AE k X' Y' P' Q' ((u+s) % 16) gn d o)/\(w'.cell? ⟨bb,off+gn*4,none⟩=some (.int .i64 ga)/\w'.cell? ⟨bb,off+gn*4+1,none⟩=some (.int .i64 gb)/\w'.cell? ⟨bb,off+gn*4+2,none⟩=some (.int .i64 gc)/\w'.cell? ⟨bb,off+gn*4+3,none⟩=some (.int .i64 gd))) (by kernel_rfl) ⟨L.drew,O.drew,Bu Z.drew⟩ (fun hHeld=>?_);replace L:=L.drew;replace O:=O.drew;replace D:=D.drew;replace Z:=Z.drew;replace H:=hid (Az H.out);refine tl 0 ?_ ?_ hHeld ?_;rotate_left
       . intro w hSw
         try dsimp only at hSw
         go_simp
         all_goals with_reducible rfl
       try simp only[Act.put,sx]
       refine tl 1 ?_ ?_ hHeld ?_;rotate_left
       . intro w hSw;have d6:=hSw.2.1.cell 6 _ rfl;go_simp
         all_goals with_reducible rfl
       try simp only[Act.put,sx]
       refine tl 2 ?_ ?_ hHeld ?_;rotate_left
       . intro w hSw
         try dsimp only at hSw
         go_simp
         all_goals with_reducible rfl
       try simp only[Act.put,sx]
       refine tl 3 ?_ ?_ hHeld ?_;rotate_left
       . intro w hSw;have d5:=hSw.1.cell 5 _ rfl;go_simp
         all_goals with_reducible rfl
       try simp only[Act.put,sx]
       refine tl 4 ?_ ?_ hHeld ?_;rotate_left
       . intro w hSw
         try dsimp only at hSw
         go_simp
         all_goals with_reducible rfl
       try simp only[Act.put,sx]
       refine tl 5 ?_ ?_ hHeld ?_;rotate_left
       . intro w hSw
         try dsimp only at hSw
         go_simp
         all_goals with_reducible rfl
       try simp only[Act.put,sx]
       refine tl 6 ?_ ?_ hHeld ?_;rotate_left
       . intro w hSw
         try dsimp only at hSw
         go_simp
         all_goals with_reducible rfl
       try simp only[Act.put,sx]
       refine tl 7 ?_ ?_ hHeld ?_;rotate_left
       . intro w hSw
         try dsimp only at hSw
         go_simp
         all_goals with_reducible rfl
       try simp only[Act.put,sx]
       refine tl 8 ?_ ?_ hHeld ?_;rotate_left
       . intro w hSw;have d5:=hSw.1.cell 5 _ rfl;go_simp
         all_goals with_reducible rfl
       try simp only[Act.put,sx]
       refine tl 9 ?_ ?_ hHeld ?_;rotate_left
       . intro w hSw
         try dsimp only at hSw
         go_simp
         all_goals with_reducible rfl
       try simp only[Act.put,sx]
       refine tl 10 ?_ ?_ hHeld ?_;rotate_left
       . intro w hSw;have d6:=hSw.2.1.cell 6 _ rfl;go_simp
         all_goals with_reducible rfl
       try simp only[Act.put,sx]
       refine tl 11 ?_ ?_ hHeld ?_;rotate_left
       . intro w hSw
         try dsimp only at hSw
         go_simp
         all_goals with_reducible rfl
       try simp only[Act.put,sx]
       refine tl 12 ?_ ?_ hHeld ?_;rotate_left
       . intro w hSw;obtain⟨_,_,e0,e1,e2,e3⟩:=hSw;go_simp
         all_goals with_reducible rfl
       try simp only[Act.put,sx]
       refine tl 13 ?_ ?_ hHeld ?_;rotate_left
       . intro w hSw
         try dsimp only at hSw
         go_simp
         all_goals with_reducible rfl
       try simp only[Act.put,sx]
       refine tl 14 ?_ ?_ hHeld ?_;rotate_left
       . intro w hSw;have d1:=hSw.2.1.cell 1 _ rfl;have d2:=hSw.2.1.cell 2 _ rfl;go_simp
         all_goals with_reducible rfl
       try simp only[Act.put,sx]
       refine wpAnyH_ready (rs:=[15]) (by kernel_rfl) (by simp) ?_;apply AllReadyH.cons rfl ?_ AllReadyH.nil;intro K hK;go_simp
       go_at_call 123
       refine(C4.out _).mono ?_;rintro e wn ⟨rfl,B⟩;replace L:=L.step B;replace O:=O.step B;replace D:=D.step B;replace Z:=Z.step B;replace H:=hid (Aa H.out B);clear B C4;clear hHeld;go_wp2_with fail;refine hK.out _ _ ⟨L,O,Bu Z⟩ (fun hHeld=>?_);clear hK K
       try simp only[Act.put,sx]
       refine tl 16 ?_ ?_ hHeld ?_;rotate_left
       . intro w hSw
         try dsimp only at hSw
         go_simp
         all_goals with_reducible rfl
       try simp only[Act.put,sx]
       refine wpAnyH_done (by kernel_rfl) ?_ _;have O6:=O.cell 6 _ rfl;have f6:=O.fr 6;have Ol:=O.lt;go_upto_region 10 with fail;refine Aw (fun W'=>CellsAt W' w.heap.size (AW i t x y A n c (some ⟨bb,off,none⟩) m kk fp fq fs fz b)/\CellsAt W' (w.heap.size+1+1+1+1) (AE k X' Y' P' Q' ((u+s) % 16) (gn+1) d o)/\CellsAt W' (w.heap.size+1+1+1) (AE 0 0 0 0 0 0 0 false false)/\Below w.heap.size w W') ⟨L.far (by omega) _ _,O.set 6 (by simp) _,D.far (by omega) _ _,Ar H.out _ _ _ (by omega)⟩ ?_;clear L O D H O6 f6 Ol Z;rintro wm ⟨L,O,D,H⟩;replace H:=hid H;obtain⟨Lc0,Lc1,Lc2,Lc3,Lc4,Lc5,Lc6,Lc7,Lc8,Lc9,Lc10⟩:=Bb L;have Ll:=L.lt
       obtain⟨Oc0,Oc1,Oc2,Oc3,Oc4,Oc5,Oc6,Oc7,Oc8⟩:=CG O;have Ol:=O.lt;have Of0:=O.fr 0;have Of1:=O.fr 1;have Of2:=O.fr 2;have Of3:=O.fr 3;have Of4:=O.fr 4;have Of5:=O.fr 5;have Of6:=O.fr 6;have Of7:=O.fr 7;have Of8:=O.fr 8;go_upto_region 11 with fail;refine Aw (fun W'=>CellsAt W' (w.heap.size+1+1+1+1) (AE k X' Y' P' Q' ((u+s) % 16) (gn+1) false o)/\CellsAt W' (w.heap.size+1+1+1) (AE 0 0 0 0 0 0 0 false false)/\Below w.heap.size w W') ⟨O.set 7 (by simp) _,D.far (by omega) _ _,Ar H.out _ _ _ (by omega)⟩ ?_
       clear O D H Lc0 Lc1 Lc2 Lc3 Lc4 Lc5 Lc6 Lc7 Lc8 Lc9 Lc10 Ll Oc0 Oc1 Oc2 Oc3 Oc4 Oc5 Oc6 Oc7 Oc8 Ol Of0 Of1 Of2 Of3 Of4 Of5 Of6 Of7 Of8 L;rintro wa ⟨O,D,H⟩;refine wp_region_lit ?_;refine Ag rfl 132 (.tmp 7) rfl (w.heap.size+1+1+1+1) rfl (AE k X' Y' P' Q' ((u+s) % 16) (gn+1) false o) O Tryz.underlying132 rfl Ad ?_;refine Ah rfl 132 (.tmp 6) (.tmp 68) rfl (w.heap.size+1+1+1) rfl (AE k X' Y' P' Q' ((u+s) % 16) (gn+1) false o) rfl _ D (by simp) Ad rfl ?_;intro wb K N;clear O D;replace H:=hid (Au H K (by omega));go_wp2
       exact bodyPost_ret (v:=Dw k X' Y' P' Q' ((u+s) % 16) (gn+1) false o) (Ai rfl (w.heap.size+1+1+1) rfl (AE k X' Y' P' Q' ((u+s) % 16) (gn+1) false o) N Tryz.underlying132 rfl Ad) rfl ⟨⟨_,_,_,_,_,_,_,_,_,E.out,rfl⟩,H.out⟩
 . have hg':decide ((gn:Int)<(m:Int))=false:=decide_eq_false (by omega);have nb:((gn:Int)==(m:Int))=true:=beq_iff_eq.2 (by omega);have E:=hid (ED.out gn (F4 fp fq fs fz X' Y') (by unfold G3 MN; rw[gl,hg']; rfl) (by rw[decide_eq_true (show(gn:Int)=(m:Int) by omega)]; rfl));have hg2:decide (gn<m)=false:=decide_eq_false hg;have nb2:(gn==m)=true:=beq_iff_eq.2 (by omega);clear ED hg;go_wp2_with fail;refine wp_region_held_drew (S:=fun w'=>CellsAt w' w.heap.size (AW i t x y A n c G m kk fp fq fs fz b)/\CellsAt w' (w.heap.size+1+1+1+1) (AE k X' Y' P' Q' ((u+s) % 16) gn d o)) (by kernel_rfl) ⟨L.drew,O.drew⟩ (fun hHeld=>?_)
   replace L:=L.drew;replace O:=O.drew;replace D:=D.drew;replace H:=hid (Az H.out);refine tl 0 ?_ ?_ hHeld ?_;rotate_left
   . intro w hSw
     try dsimp only at hSw
     go_simp
     all_goals with_reducible rfl
   try simp only[Act.put,sx]
   refine tl 1 ?_ ?_ hHeld ?_;rotate_left
   . intro w hSw;have d6:=hSw.2.cell 6 _ rfl;go_simp
     all_goals with_reducible rfl
   try simp only[Act.put,sx]
   refine tl 2 ?_ ?_ hHeld ?_;rotate_left
   . intro w hSw
     try dsimp only at hSw
     go_simp
     all_goals with_reducible rfl
   try simp only[Act.put,sx]
   refine tl 3 ?_ ?_ hHeld ?_;rotate_left
   . intro w hSw;have d5:=hSw.1.cell 5 _ rfl;go_simp
     all_goals with_reducible rfl
   try simp only[Act.put,sx]
   refine tl 4 ?_ ?_ hHeld ?_;rotate_left
   . intro w hSw
     try dsimp only at hSw
     go_simp
     all_goals with_reducible rfl
   try simp only[Act.put,sx]
   refine tl 5 ?_ ?_ hHeld ?_;rotate_left
   . intro w hSw
     try dsimp only at hSw
     go_simp
     all_goals with_reducible rfl
   try simp only[Act.put,sx]
   refine tl 6 ?_ ?_ hHeld ?_;rotate_left
   . intro w hSw
     try dsimp only at hSw
     go_simp
     all_goals with_reducible rfl
   try simp only[Act.put,sx]
   refine wpAnyH_take (i:=7) (oi:=_) (v:=undef) rfl (by kernel_rfl) (by kernel_rfl) (by kernel_rfl) (fun _ _ _ h=>h) (Or.inr ⟨by rfl,rfl⟩) hHeld ?_
   try simp only[Act.put,sx]
   refine wpAnyH_take (i:=8) (oi:=_) (v:=undef) rfl (by kernel_rfl) (by kernel_rfl) (by kernel_rfl) (fun _ _ _ h=>h) (Or.inr ⟨by rfl,rfl⟩) hHeld ?_
   try simp only[Act.put,sx]
   refine wpAnyH_take (i:=9) (oi:=_) (v:=undef) rfl (by kernel_rfl) (by kernel_rfl) (by kernel_rfl) (fun _ _ _ h=>h) (Or.inr ⟨by rfl,rfl⟩) hHeld ?_
   try simp only[Act.put,sx]
   refine wpAnyH_take (i:=10) (oi:=_) (v:=undef) rfl (by kernel_rfl) (by kernel_rfl) (by kernel_rfl) (fun _ _ _ h=>h) (Or.inr ⟨by rfl,rfl⟩) hHeld ?_
   try simp only[Act.put,sx]
   refine wpAnyH_take (i:=11) (oi:=_) (v:=undef) rfl (by kernel_rfl) (by kernel_rfl) (by kernel_rfl) (fun _ _ _ h=>h) (Or.inr ⟨by rfl,rfl⟩) hHeld ?_
   try simp only[Act.put,sx]
   refine wpAnyH_take (i:=12) (oi:=_) (v:=undef) rfl (by kernel_rfl) (by kernel_rfl) (by kernel_rfl) (fun _ _ _ h=>h) (Or.inr ⟨by rfl,rfl⟩) hHeld ?_
   try simp only[Act.put,sx]
   refine wpAnyH_take (i:=13) (oi:=_) (v:=undef) rfl (by kernel_rfl) (by kernel_rfl) (by kernel_rfl) (fun _ _ _ h=>h) (Or.inr ⟨by rfl,rfl⟩) hHeld ?_
   try simp only[Act.put,sx]
   refine wpAnyH_take (i:=14) (oi:=_) (v:=undef) rfl (by kernel_rfl) (by kernel_rfl) (by kernel_rfl) (fun _ _ _ h=>h) (Or.inr ⟨by rfl,rfl⟩) hHeld ?_
   try simp only[Act.put,sx]
   refine wpAnyH_take (i:=15) (oi:=_) (v:=undef) rfl (by kernel_rfl) (by kernel_rfl) (by kernel_rfl) (fun _ _ _ h=>h) (Or.inr ⟨by rfl,rfl⟩) hHeld ?_
   try simp only[Act.put,sx]
   refine tl 16 ?_ ?_ hHeld ?_;rotate_left
   . intro w hSw
     try dsimp only at hSw
     go_simp
     all_goals with_reducible rfl
   try simp only[Act.put,sx]
   refine wpAnyH_done (by kernel_rfl) ?_ _;have C5:=hid (fun W=>Du fp fq fs fz X' Y' W);generalize F4 fp fq fs fz X' Y'=rr at *;obtain⟨Lc0,Lc1,Lc2,Lc3,Lc4,Lc5,Lc6,Lc7,Lc8,Lc9,Lc10⟩:=Bb L;have Ll:=L.lt;obtain⟨Oc0,Oc1,Oc2,Oc3,Oc4,Oc5,Oc6,Oc7,Oc8⟩:=CG O;have Ol:=O.lt;go_wp2_with fail;refine(C5.out _).mono ?_;rintro e w9 ⟨rfl,B⟩;replace O:=O.step B;replace D:=D.step B;replace H:=hid (Aa H.out B);clear B C5 L Lc0 Lc1 Lc2 Lc3 Lc4 Lc5 Lc6 Lc7 Lc8 Lc9 Lc10 Ll Oc0 Oc1 Oc2 Oc3 Oc4 Oc5 Oc6 Oc7 Oc8 Ol ;obtain⟨Oc0,Oc1,Oc2,Oc3,Oc4,Oc5,Oc6,Oc7,Oc8⟩:=CG O;have Ol:=O.lt;have Of0:=O.fr 0;have Of1:=O.fr 1;have Of2:=O.fr 2
   have Of3:=O.fr 3;have Of4:=O.fr 4;have Of5:=O.fr 5;have Of6:=O.fr 6;have Of7:=O.fr 7;have Of8:=O.fr 8;go_upto_region 11 with fail;refine Aw (fun W'=>CellsAt W' (w.heap.size+1+1+1+1) (AE k X' Y' P' Q' ((u+s) % 16) gn rr o)/\CellsAt W' (w.heap.size+1+1+1) (AE 0 0 0 0 0 0 0 false false)/\Below w.heap.size w W') ⟨O.set 7 (by simp) _,D.far (by omega) _ _,Ar H.out _ _ _ (by omega)⟩ ?_;clear O D H Oc0 Oc1 Oc2 Oc3 Oc4 Oc5 Oc6 Oc7 Oc8 Ol Of0 Of1 Of2 Of3 Of4 Of5 Of6 Of7 Of8;rintro wa ⟨O,D,H⟩;refine wp_region_lit ?_
   refine Ag rfl 132 (.tmp 7) rfl (w.heap.size+1+1+1+1) rfl (AE k X' Y' P' Q' ((u+s) % 16) gn rr o) O Tryz.underlying132 rfl Ad ?_;refine Ah rfl 132 (.tmp 6) (.tmp 68) rfl (w.heap.size+1+1+1) rfl (AE k X' Y' P' Q' ((u+s) % 16) gn rr o) rfl _ D (by simp) Ad rfl ?_;intro wb K N;clear O D;replace H:=hid (Au H K (by omega));go_wp2;exact bodyPost_ret (v:=Dw k X' Y' P' Q' ((u+s) % 16) gn rr o) (Ai rfl (w.heap.size+1+1+1) rfl (AE k X' Y' P' Q' ((u+s) % 16) gn rr o) N Tryz.underlying132 rfl Ad) rfl ⟨⟨_,_,_,_,_,_,_,_,_,E.out,rfl⟩,H.out⟩
end Go.Proofs.YtgbiagonfbnooaaGreatDoor
