import Derived.Test.YtaemcekcancpdaaGreatDoorZEngB
import Derived.Test.YtaemcekcancpdaaGreatDoorZBoxP
set_option linter.all false
set_option maxRecDepth 100000
set_option maxHeartbeats 8000000
open Go.Lib
namespace Go.Proofs.YtaemcekcancpdaaGreatDoor
open Go.RowKit
open M
theorem Rh{gs:List Bx}(h:Dh gs=true){j:Nat}(hj:j<gs.length):Dd (gs.getD j bz).a (gs.getD j bz).b (gs.getD j bz).c (gs.getD j bz).d=true:=Hr (f:=Bx.ok) h hj
theorem Ep(i t x y:Int)(A:Option Addr)(n c:Nat)(G:Option Addr)(m kk:Nat)(fp fq fs fz b:Int)(gs:List Bx)(k ax ay fx fy u:Int)(gn:Nat)(d o:Bool)(w:World)(J:Boxes w G m gs)(hm:m<=281474976710656)(okg:Dh gs=true)(okf:Dd fp fq fs fz=true)(hv:Aw ax ay=true)(g1:gn<=m) :
 Calls Tryz.prog 87 #[Cd k ax ay fx fy u gn d o,CX i t x y A n c G m kk fp fq fs fz b] w fun e w'=>e=.returned (Cd k ax ay fx fy u (EY gs gn ax ay) (decide (EY gs gn ax ay=gs.length)&&Du fp fq fs fz ax ay) o)/\Below w.heap.size w w':=by
 have gl:gs.length=m:=J.1;have ED:∀(q:Int) (r:Bool),EY gs gn ax ay=q->(decide (q=(m:Int))&&Du fp fq fs fz ax ay)=r->(Cd k ax ay fx fy u (EY gs gn ax ay) (decide (EY gs gn ax ay=gs.length)&&Du fp fq fs fz ax ay) o)=Cd k ax ay fx fy u q r o:=fun q r e1 e2=>by
  rw[e1,gl,e2]
 replace ED:=hid ED;have C5:=fun W=>FB fp fq fs fz ax ay W;rw[GP okf hv] at C5;have J:=hid J;have S:CellsAt (((w.alloc (.cells #[.int .i64 k,.int .i64 ax,.int .i64 ay,.int .i64 fx,.int .i64 fy,.int .i64 u,.int .i64 gn,.bool d,.bool o] 34)).alloc (.cells #[.int .i64 i,.int .i64 t,.int .i64 x,.int .i64 y,.slice A n c,.slice G m kk,.int .i64 fp,.int .i64 fq,.int .i64 fs,.int .i64 fz,.int .i64 b] 29)).alloc (.cells #[.int .i64 0,.int .i64 0,.int .i64 0,.int .i64 0,.int .i64 0,.int .i64 0,.int .i64 0,.bool false,.bool false] 34)) w.heap.size (AB k ax ay fx fy u gn d o):=((CellsAt.new w _ _ _ rfl).alloc _).alloc _
 have L:CellsAt (((w.alloc (.cells #[.int .i64 k,.int .i64 ax,.int .i64 ay,.int .i64 fx,.int .i64 fy,.int .i64 u,.int .i64 gn,.bool d,.bool o] 34)).alloc (.cells #[.int .i64 i,.int .i64 t,.int .i64 x,.int .i64 y,.slice A n c,.slice G m kk,.int .i64 fp,.int .i64 fq,.int .i64 fs,.int .i64 fz,.int .i64 b] 29)).alloc (.cells #[.int .i64 0,.int .i64 0,.int .i64 0,.int .i64 0,.int .i64 0,.int .i64 0,.int .i64 0,.bool false,.bool false] 34)) (w.heap.size+1) (AX i t x y A n c G m kk fp fq fs fz b):=(CellsAt.new _ _ _ _ (by simp)).alloc _
 have D:CellsAt (((w.alloc (.cells #[.int .i64 k,.int .i64 ax,.int .i64 ay,.int .i64 fx,.int .i64 fy,.int .i64 u,.int .i64 gn,.bool d,.bool o] 34)).alloc (.cells #[.int .i64 i,.int .i64 t,.int .i64 x,.int .i64 y,.slice A n c,.slice G m kk,.int .i64 fp,.int .i64 fq,.int .i64 fs,.int .i64 fz,.int .i64 b] 29)).alloc (.cells #[.int .i64 0,.int .i64 0,.int .i64 0,.int .i64 0,.int .i64 0,.int .i64 0,.int .i64 0,.bool false,.bool false] 34)) (w.heap.size+1+1) (AB 0 0 0 0 0 0 0 false false):=CellsAt.new _ _ _ _ (by simp)
 have H:=hid (Aa (Aa (Aa (Ac w) (.cells #[.int .i64 k,.int .i64 ax,.int .i64 ay,.int .i64 fx,.int .i64 fy,.int .i64 u,.int .i64 gn,.bool d,.bool o] 34)) (.cells #[.int .i64 i,.int .i64 t,.int .i64 x,.int .i64 y,.slice A n c,.slice G m kk,.int .i64 fp,.int .i64 fq,.int .i64 fs,.int .i64 fz,.int .i64 b] 29)) (.cells #[.int .i64 0,.int .i64 0,.int .i64 0,.int .i64 0,.int .i64 0,.int .i64 0,.int .i64 0,.bool false,.bool false] 34));by_cases hg:gn<m
 . obtain⟨bb,off,rfl,Z⟩:=KC (J.out.step H.out) hg;have hg':(gn:Int)<(m:Int):=by omega
   have C4:=fun W=>FB (gs.getD gn bz).a (gs.getD gn bz).b (gs.getD gn bz).c (gs.getD gn bz).d ax ay W;rw[GP (Rh okg (by omega)) hv] at C4;have EG:QW gs gn ax ay=Du (gs.getD gn bz).a (gs.getD gn bz).b (gs.getD gn bz).c (gs.getD gn bz).d ax ay:=by simp[QW,gl,hg]
   clear okg okf hv J;generalize (gs.getD gn bz).a=ga at *;generalize (gs.getD gn bz).b=gb at *;generalize (gs.getD gn bz).c=gc at *;generalize (gs.getD gn bz).d=gd at *;cases hh:Du ga gb gc gd ax ay
   . have nd:decide ((gn:Int)=(m:Int))=false:=decide_eq_false (by omega);have E:=hid (ED.out gn false (by unfold EY; rw[EG,hh]; rfl) (by rw[nd]; rfl));have nb:((gn:Int)==(m:Int))=false:=beq_eq_false_iff_ne.2 (by omega);rw[hh] at C4;replace C4:=hid C4;clear hh EG ED nd C5;obtain⟨Sc0,Sc1,Sc2,Sc3,Sc4,Sc5,Sc6,Sc7,Sc8⟩:=Be S;have Sl:=S.lt;obtain⟨Lc0,Lc1,Lc2,Lc3,Lc4,Lc5,Lc6,Lc7,Lc8,Lc9,Lc10⟩:=AL L;have Ll:=L.lt;go_enter Tryz.func87,Tryz.ntmps87;go_upto_region 1 with fail;clear Sc0 Sc1 Sc2 Sc3 Sc4 Sc5 Sc6 Sc7 Sc8 Sl Lc0 Lc1 Lc2 Lc3 Lc4 Lc5 Lc6 Lc7 Lc8 Lc9 Lc10 Ll
     refine wp_region_held_drew (S:=fun w'=>CellsAt w' w.heap.size (AB k ax ay fx fy u gn d o)/\CellsAt w' (w.heap.size+1) (AX i t x y A n c (some ⟨bb,off,none⟩) m kk fp fq fs fz b)/\(w'.cell? ⟨bb,off+gn*4,none⟩=some (.int .i64 ga)/\w'.cell? ⟨bb,off+gn*4+1,none⟩=some (.int .i64 gb)/\w'.cell? ⟨bb,off+gn*4+2,none⟩=some (.int .i64 gc)/\w'.cell? ⟨bb,off+gn*4+3,none⟩=some (.int .i64 gd))) (by kernel_rfl) ⟨S.drew,L.drew,BX Z.drew⟩ (fun hHeld=>?_);replace S:=S.drew;replace L:=L.drew;replace D:=D.drew;replace Z:=Z.drew;replace H:=hid (AE H.out);refine tl 0 ?_ ?_ hHeld ?_;rotate_left
     . intro w hSw
       try dsimp only at hSw
       go_simp
       all_goals with_reducible rfl
     try simp only[Act.put,sx]
     refine tl 1 ?_ ?_ hHeld ?_;rotate_left
     . intro w hSw;have d6:=hSw.1.cell 6 _ rfl;go_simp
       all_goals with_reducible rfl
     try simp only[Act.put,sx]
     refine tl 2 ?_ ?_ hHeld ?_;rotate_left
     . intro w hSw
       try dsimp only at hSw
       go_simp
       all_goals with_reducible rfl
     try simp only[Act.put,sx]
     refine tl 3 ?_ ?_ hHeld ?_;rotate_left
     . intro w hSw;have d5:=hSw.2.1.cell 5 _ rfl;go_simp
       all_goals with_reducible rfl
     try simp only[Act.put,sx]
     refine tl 4 ?_ ?_ hHeld ?_;rotate_left
     . intro w hSw
       try dsimp only at hSw
       go_simp
       all_goals with_reducible rfl
     try simp only[Act.put,sx]
     refine tl 5 ?_ ?_ hHeld ?_;rotate_left
     . intro w hSw
       try dsimp only at hSw
       go_simp
       all_goals with_reducible rfl
     try simp only[Act.put,sx]
     refine tl 6 ?_ ?_ hHeld ?_;rotate_left
     . intro w hSw
       try dsimp only at hSw
       go_simp
       all_goals with_reducible rfl
     try simp only[Act.put,sx]
     refine tl 7 ?_ ?_ hHeld ?_;rotate_left
     . intro w hSw
       try dsimp only at hSw
       go_simp
       all_goals with_reducible rfl
     try simp only[Act.put,sx]
     refine tl 8 ?_ ?_ hHeld ?_;rotate_left
     . intro w hSw;have d5:=hSw.2.1.cell 5 _ rfl;go_simp
       all_goals with_reducible rfl
     try simp only[Act.put,sx]
     refine tl 9 ?_ ?_ hHeld ?_;rotate_left
     . intro w hSw
       try dsimp only at hSw
       go_simp
       all_goals with_reducible rfl
     try simp only[Act.put,sx]
     refine tl 10 ?_ ?_ hHeld ?_;rotate_left
     . intro w hSw;have d6:=hSw.1.cell 6 _ rfl;go_simp
       all_goals with_reducible rfl
     try simp only[Act.put,sx]
     refine tl 11 ?_ ?_ hHeld ?_;rotate_left
     . intro w hSw
       try dsimp only at hSw
       go_simp
       all_goals with_reducible rfl
     try simp only[Act.put,sx]
     refine tl 12 ?_ ?_ hHeld ?_;rotate_left
     . intro w hSw;obtain⟨_,_,e0,e1,e2,e3⟩:=hSw;go_simp
       all_goals with_reducible rfl
     try simp only[Act.put,sx]
     refine tl 13 ?_ ?_ hHeld ?_;rotate_left
     . intro w hSw
       try dsimp only at hSw
       go_simp
       all_goals with_reducible rfl
     try simp only[Act.put,sx]
     refine tl 14 ?_ ?_ hHeld ?_;rotate_left
     . intro w hSw;have d1:=hSw.1.cell 1 _ rfl;have d2:=hSw.1.cell 2 _ rfl;go_simp
       all_goals with_reducible rfl
     try simp only[Act.put,sx]
     refine wpAnyH_ready (rs:=[15]) (by kernel_rfl) (by simp) ?_;apply AllReadyH.cons rfl ?_ AllReadyH.nil;intro K hK;go_simp
     go_at_call 18
     refine(C4.out _).mono ?_;rintro e wn ⟨rfl,B⟩;replace L:=L.step B;replace S:=S.step B;replace D:=D.step B;replace Z:=Z.step B;replace H:=hid (Ab H.out B);clear B C4;clear hHeld;go_wp2_with fail;refine hK.out _ _ ⟨S,L,BX Z⟩ (fun hHeld=>?_);clear hK K
     try simp only[Act.put,sx]
     refine tl 16 ?_ ?_ hHeld ?_;rotate_left
     . intro w hSw
       try dsimp only at hSw
       go_simp
       all_goals with_reducible rfl
     try simp only[Act.put,sx]
     refine wpAnyH_done (by kernel_rfl) ?_ _;have Sc0:=S.cell 0 _ rfl;have Sf0:=S.fr 0;have Sc1:=S.cell 1 _ rfl;have Sf1:=S.fr 1;have Sc2:=S.cell 2 _ rfl;have Sf2:=S.fr 2;have Sc3:=S.cell 3 _ rfl;have Sf3:=S.fr 3;have Sc4:=S.cell 4 _ rfl;have Sf4:=S.fr 4;have Sc5:=S.cell 5 _ rfl;have Sf5:=S.fr 5;have Sc6:=S.cell 6 _ rfl;have Sf6:=S.fr 6;have Sc7:=S.cell 7 _ rfl;have Sf7:=S.fr 7;have Sc8:=S.cell 8 _ rfl;have Sf8:=S.fr 8;have Sl:=S.lt;obtain⟨Lc0,Lc1,Lc2,Lc3,Lc4,Lc5,Lc6,Lc7,Lc8,Lc9,Lc10⟩:=AL L;have Ll:=L.lt;go_upto_region 4 with fail
     refine AD (fun W'=>CellsAt W' w.heap.size (AB k ax ay fx fy u gn false o)/\CellsAt W' (w.heap.size+1+1) (AB 0 0 0 0 0 0 0 false false)/\Below w.heap.size w W') ⟨S.set 7 (by simp) _,D.far (by omega) _ _,Ap H.out _ _ _ (by omega)⟩ ?_;clear S D H Sc0 Sf0 Sc1 Sf1 Sc2 Sf2 Sc3 Sf3 Sc4 Sf4 Sc5 Sf5 Sc6 Sf6 Sc7 Sf7 Sc8 Sf8 Sl Lc0 Lc1 Lc2 Lc3 Lc4 Lc5 Lc6 Lc7 Lc8 Lc9 Lc10 Ll L;rintro wa ⟨S,D,H⟩;refine wp_region_lit ?_;refine Af rfl 34 (.tmp 2) rfl w.heap.size rfl (AB k ax ay fx fy u gn false o) S Tryz.underlying34 rfl Ae ?_
     refine Ai rfl 34 (.tmp 4) (.tmp 40) rfl (w.heap.size+1+1) rfl (AB k ax ay fx fy u gn false o) rfl _ D (by simp) Ae rfl ?_;intro wb K N;clear S D;go_wp2;exact bodyPost_ret (v:=Cd k ax ay fx fy u gn false o) (An rfl (w.heap.size+1+1) rfl (AB k ax ay fx fy u gn false o) N Tryz.underlying34 rfl Ae) rfl ⟨by rw[E.out],Ao H K (by omega)⟩
   . rw[hh] at C4;replace C4:=hid C4;by_cases he:gn+1=m
     . have nb:((gn:Int)+1==(m:Int))=true:=beq_iff_eq.2 (by omega);have E:=hid (ED.out (gn+1) (Du fp fq fs fz ax ay) (by unfold EY; rw[EG,hh]; rfl) (by rw[decide_eq_true (show(gn:Int)+1=(m:Int) by omega)]; rfl));clear hh EG ED he;replace C5:=hid C5;obtain⟨Sc0,Sc1,Sc2,Sc3,Sc4,Sc5,Sc6,Sc7,Sc8⟩:=Be S;have Sl:=S.lt;obtain⟨Lc0,Lc1,Lc2,Lc3,Lc4,Lc5,Lc6,Lc7,Lc8,Lc9,Lc10⟩:=AL L;have Ll:=L.lt;go_enter Tryz.func87,Tryz.ntmps87;go_upto_region 1 with fail;clear Sc0 Sc1 Sc2 Sc3 Sc4 Sc5 Sc6 Sc7 Sc8 Sl Lc0 Lc1 Lc2 Lc3 Lc4 Lc5 Lc6 Lc7 Lc8 Lc9 Lc10 Ll
       refine wp_region_held_drew (S:=fun w'=>CellsAt w' w.heap.size (AB k ax ay fx fy u gn d o)/\CellsAt w' (w.heap.size+1) (AX i t x y A n c (some ⟨bb,off,none⟩) m kk fp fq fs fz b)/\(w'.cell? ⟨bb,off+gn*4,none⟩=some (.int .i64 ga)/\w'.cell? ⟨bb,off+gn*4+1,none⟩=some (.int .i64 gb)/\w'.cell? ⟨bb,off+gn*4+2,none⟩=some (.int .i64 gc)/\w'.cell? ⟨bb,off+gn*4+3,none⟩=some (.int .i64 gd))) (by kernel_rfl) ⟨S.drew,L.drew,BX Z.drew⟩ (fun hHeld=>?_);replace S:=S.drew;replace L:=L.drew;replace D:=D.drew;replace Z:=Z.drew;replace H:=hid (AE H.out);refine tl 0 ?_ ?_ hHeld ?_;rotate_left
       . intro w hSw
         try dsimp only at hSw
         go_simp
         all_goals with_reducible rfl
       try simp only[Act.put,sx]
       refine tl 1 ?_ ?_ hHeld ?_;rotate_left
       . intro w hSw;have d6:=hSw.1.cell 6 _ rfl;go_simp
         all_goals with_reducible rfl
       try simp only[Act.put,sx]
       refine tl 2 ?_ ?_ hHeld ?_;rotate_left
       . intro w hSw
         try dsimp only at hSw
         go_simp
         all_goals with_reducible rfl
       try simp only[Act.put,sx]
       refine tl 3 ?_ ?_ hHeld ?_;rotate_left
       . intro w hSw;have d5:=hSw.2.1.cell 5 _ rfl;go_simp
         all_goals with_reducible rfl
       try simp only[Act.put,sx]
       refine tl 4 ?_ ?_ hHeld ?_;rotate_left
       . intro w hSw
         try dsimp only at hSw
         go_simp
         all_goals with_reducible rfl
       try simp only[Act.put,sx]
       refine tl 5 ?_ ?_ hHeld ?_;rotate_left
       . intro w hSw
         try dsimp only at hSw
         go_simp
         all_goals with_reducible rfl
       try simp only[Act.put,sx]
       refine tl 6 ?_ ?_ hHeld ?_;rotate_left
       . intro w hSw
         try dsimp only at hSw
         go_simp
         all_goals with_reducible rfl
       try simp only[Act.put,sx]
       refine tl 7 ?_ ?_ hHeld ?_;rotate_left
       . intro w hSw
         try dsimp only at hSw
         go_simp
         all_goals with_reducible rfl
       try simp only[Act.put,sx]
       refine tl 8 ?_ ?_ hHeld ?_;rotate_left
       . intro w hSw;have d5:=hSw.2.1.cell 5 _ rfl;go_simp
         all_goals with_reducible rfl
       try simp only[Act.put,sx]
       refine tl 9 ?_ ?_ hHeld ?_;rotate_left
       . intro w hSw
         try dsimp only at hSw
         go_simp
         all_goals with_reducible rfl
       try simp only[Act.put,sx]
       refine tl 10 ?_ ?_ hHeld ?_;rotate_left
       . intro w hSw;have d6:=hSw.1.cell 6 _ rfl;go_simp
         all_goals with_reducible rfl
       try simp only[Act.put,sx]
       refine tl 11 ?_ ?_ hHeld ?_;rotate_left
       . intro w hSw
         try dsimp only at hSw
         go_simp
         all_goals with_reducible rfl
       try simp only[Act.put,sx]
       refine tl 12 ?_ ?_ hHeld ?_;rotate_left
       . intro w hSw;obtain⟨_,_,e0,e1,e2,e3⟩:=hSw;go_simp
         all_goals with_reducible rfl
       try simp only[Act.put,sx]
       refine tl 13 ?_ ?_ hHeld ?_;rotate_left
       . intro w hSw
         try dsimp only at hSw
         go_simp
         all_goals with_reducible rfl
       try simp only[Act.put,sx]
       refine tl 14 ?_ ?_ hHeld ?_;rotate_left
       . intro w hSw;have d1:=hSw.1.cell 1 _ rfl;have d2:=hSw.1.cell 2 _ rfl;go_simp
         all_goals with_reducible rfl
       try simp only[Act.put,sx]
       refine wpAnyH_ready (rs:=[15]) (by kernel_rfl) (by simp) ?_;apply AllReadyH.cons rfl ?_ AllReadyH.nil;intro K hK;go_simp
       go_at_call 18
       refine(C4.out _).mono ?_;rintro e wn ⟨rfl,B⟩;replace L:=L.step B;replace S:=S.step B;replace D:=D.step B;replace Z:=Z.step B;replace H:=hid (Ab H.out B);clear B C4;clear hHeld;go_wp2_with fail;refine hK.out _ _ ⟨S,L,BX Z⟩ (fun hHeld=>?_);clear hK K
       try simp only[Act.put,sx]
       refine tl 16 ?_ ?_ hHeld ?_;rotate_left
       . intro w hSw
         try dsimp only at hSw
         go_simp
         all_goals with_reducible rfl
       try simp only[Act.put,sx]
       refine wpAnyH_done (by kernel_rfl) ?_ _;have O6:=S.cell 6 _ rfl;have f6:=S.fr 6;have Ol:=S.lt;go_upto_region 3 with fail;refine AD (fun W'=>CellsAt W' w.heap.size (AB k ax ay fx fy u (gn+1) d o)/\CellsAt W' (w.heap.size+1) (AX i t x y A n c (some ⟨bb,off,none⟩) m kk fp fq fs fz b)/\CellsAt W' (w.heap.size+1+1) (AB 0 0 0 0 0 0 0 false false)/\Below w.heap.size w W') ⟨S.set 6 (by simp) _,L.far (by omega) _ _,D.far (by omega) _ _,Ap H.out _ _ _ (by omega)⟩ ?_;clear S L D H O6 f6 Ol Z;rintro wm ⟨S,L,D,H⟩;replace H:=hid H;replace C5:=C5.out;replace C5:=hid C5;obtain⟨Sc0,Sc1,Sc2,Sc3,Sc4,Sc5,Sc6,Sc7,Sc8⟩:=Be S;have Sl:=S.lt
       obtain⟨Lc0,Lc1,Lc2,Lc3,Lc4,Lc5,Lc6,Lc7,Lc8,Lc9,Lc10⟩:=AL L;have Ll:=L.lt;go_wp2_with fail;refine(C5.out _).mono ?_;rintro e w9 ⟨rfl,B⟩;replace S:=S.step B;replace D:=D.step B;replace H:=hid (Ab H.out B);clear B C5 L Sc0 Sc1 Sc2 Sc3 Sc4 Sc5 Sc6 Sc7 Sc8 Sl Lc0 Lc1 Lc2 Lc3 Lc4 Lc5 Lc6 Lc7 Lc8 Lc9 Lc10 Ll;have Sc0:=S.cell 0 _ rfl;have Sf0:=S.fr 0;have Sc1:=S.cell 1 _ rfl;have Sf1:=S.fr 1;have Sc2:=S.cell 2 _ rfl;have Sf2:=S.fr 2;have Sc3:=S.cell 3 _ rfl;have Sf3:=S.fr 3;have Sc4:=S.cell 4 _ rfl;have Sf4:=S.fr 4;have Sc5:=S.cell 5 _ rfl;have Sf5:=S.fr 5;have Sc6:=S.cell 6 _ rfl;have Sf6:=S.fr 6;have Sc7:=S.cell 7 _ rfl
       have Sf7:=S.fr 7;have Sc8:=S.cell 8 _ rfl;have Sf8:=S.fr 8;have Sl:=S.lt;go_upto_region 4 with fail;refine AD (fun W'=>CellsAt W' w.heap.size (AB k ax ay fx fy u (gn+1) (Du fp fq fs fz ax ay) o)/\CellsAt W' (w.heap.size+1+1) (AB 0 0 0 0 0 0 0 false false)/\Below w.heap.size w W') ⟨S.set 7 (by simp) _,D.far (by omega) _ _,Ap H.out _ _ _ (by omega)⟩ ?_;clear S D H Sc0 Sf0 Sc1 Sf1 Sc2 Sf2 Sc3 Sf3 Sc4 Sf4 Sc5 Sf5 Sc6 Sf6 Sc7 Sf7 Sc8 Sf8 Sl;rintro wa ⟨S,D,H⟩;refine wp_region_lit ?_;refine Af rfl 34 (.tmp 2) rfl w.heap.size rfl (AB k ax ay fx fy u (gn+1) (Du fp fq fs fz ax ay) o) S Tryz.underlying34 rfl Ae ?_
       refine Ai rfl 34 (.tmp 4) (.tmp 40) rfl (w.heap.size+1+1) rfl (AB k ax ay fx fy u (gn+1) (Du fp fq fs fz ax ay) o) rfl _ D (by simp) Ae rfl ?_;intro wb K N;clear S D;go_wp2;exact bodyPost_ret (v:=Cd k ax ay fx fy u (gn+1) (Du fp fq fs fz ax ay) o) (An rfl (w.heap.size+1+1) rfl (AB k ax ay fx fy u (gn+1) (Du fp fq fs fz ax ay) o) N Tryz.underlying34 rfl Ae) rfl ⟨by rw[E.out],Ao H K (by omega)⟩
     . have nb:((gn:Int)+1==(m:Int))=false:=beq_eq_false_iff_ne.2 (by omega);have E:=hid (ED.out (gn+1) false (by unfold EY; rw[EG,hh]; rfl) (by rw[decide_eq_false (show ¬ (gn:Int)+1=(m:Int) by omega)]; rfl));clear hh EG ED he C5;obtain⟨Sc0,Sc1,Sc2,Sc3,Sc4,Sc5,Sc6,Sc7,Sc8⟩:=Be S;have Sl:=S.lt;obtain⟨Lc0,Lc1,Lc2,Lc3,Lc4,Lc5,Lc6,Lc7,Lc8,Lc9,Lc10⟩:=AL L;have Ll:=L.lt;go_enter Tryz.func87,Tryz.ntmps87;go_upto_region 1 with fail;clear Sc0 Sc1 Sc2 Sc3 Sc4 Sc5 Sc6 Sc7 Sc8 Sl Lc0 Lc1 Lc2 Lc3 Lc4 Lc5 Lc6 Lc7 Lc8 Lc9 Lc10 Ll
       refine wp_region_held_drew (S:=fun w'=>CellsAt w' w.heap.size (AB k ax ay fx fy u gn d o)/\CellsAt w' (w.heap.size+1) (AX i t x y A n c (some ⟨bb,off,none⟩) m kk fp fq fs fz b)/\(w'.cell? ⟨bb,off+gn*4,none⟩=some (.int .i64 ga)/\w'.cell? ⟨bb,off+gn*4+1,none⟩=some (.int .i64 gb)/\w'.cell? ⟨bb,off+gn*4+2,none⟩=some (.int .i64 gc)/\w'.cell? ⟨bb,off+gn*4+3,none⟩=some (.int .i64 gd))) (by kernel_rfl) ⟨S.drew,L.drew,BX Z.drew⟩ (fun hHeld=>?_);replace S:=S.drew;replace L:=L.drew;replace D:=D.drew;replace Z:=Z.drew;replace H:=hid (AE H.out);refine tl 0 ?_ ?_ hHeld ?_;rotate_left
       . intro w hSw
         try dsimp only at hSw
         go_simp
         all_goals with_reducible rfl
       try simp only[Act.put,sx]
       refine tl 1 ?_ ?_ hHeld ?_;rotate_left
       . intro w hSw;have d6:=hSw.1.cell 6 _ rfl;go_simp
         all_goals with_reducible rfl
       try simp only[Act.put,sx]
       refine tl 2 ?_ ?_ hHeld ?_;rotate_left
       . intro w hSw
         try dsimp only at hSw
         go_simp
         all_goals with_reducible rfl
       try simp only[Act.put,sx]
       refine tl 3 ?_ ?_ hHeld ?_;rotate_left
       . intro w hSw;have d5:=hSw.2.1.cell 5 _ rfl;go_simp
         all_goals with_reducible rfl
       try simp only[Act.put,sx]
       refine tl 4 ?_ ?_ hHeld ?_;rotate_left
       . intro w hSw
         try dsimp only at hSw
         go_simp
         all_goals with_reducible rfl
       try simp only[Act.put,sx]
       refine tl 5 ?_ ?_ hHeld ?_;rotate_left
       . intro w hSw
         try dsimp only at hSw
         go_simp
         all_goals with_reducible rfl
       try simp only[Act.put,sx]
       refine tl 6 ?_ ?_ hHeld ?_;rotate_left
       . intro w hSw
         try dsimp only at hSw
         go_simp
         all_goals with_reducible rfl
       try simp only[Act.put,sx]
       refine tl 7 ?_ ?_ hHeld ?_;rotate_left
       . intro w hSw
         try dsimp only at hSw
         go_simp
         all_goals with_reducible rfl
       try simp only[Act.put,sx]
       refine tl 8 ?_ ?_ hHeld ?_;rotate_left
       . intro w hSw;have d5:=hSw.2.1.cell 5 _ rfl;go_simp
         all_goals with_reducible rfl
       try simp only[Act.put,sx]
       refine tl 9 ?_ ?_ hHeld ?_;rotate_left
       . intro w hSw
         try dsimp only at hSw
         go_simp
         all_goals with_reducible rfl
       try simp only[Act.put,sx]
       refine tl 10 ?_ ?_ hHeld ?_;rotate_left
       . intro w hSw;have d6:=hSw.1.cell 6 _ rfl;go_simp
         all_goals with_reducible rfl
       try simp only[Act.put,sx]
       refine tl 11 ?_ ?_ hHeld ?_;rotate_left
       . intro w hSw
         try dsimp only at hSw
         go_simp
         all_goals with_reducible rfl
       try simp only[Act.put,sx]
       refine tl 12 ?_ ?_ hHeld ?_;rotate_left
       . intro w hSw;obtain⟨_,_,e0,e1,e2,e3⟩:=hSw;go_simp
         all_goals with_reducible rfl
       try simp only[Act.put,sx]
       refine tl 13 ?_ ?_ hHeld ?_;rotate_left
       . intro w hSw
         try dsimp only at hSw
         go_simp
         all_goals with_reducible rfl
       try simp only[Act.put,sx]
       refine tl 14 ?_ ?_ hHeld ?_;rotate_left
       . intro w hSw;have d1:=hSw.1.cell 1 _ rfl;have d2:=hSw.1.cell 2 _ rfl;go_simp
         all_goals with_reducible rfl
       try simp only[Act.put,sx]
       refine wpAnyH_ready (rs:=[15]) (by kernel_rfl) (by simp) ?_;apply AllReadyH.cons rfl ?_ AllReadyH.nil;intro K hK;go_simp
       go_at_call 18
       refine(C4.out _).mono ?_;rintro e wn ⟨rfl,B⟩;replace L:=L.step B;replace S:=S.step B;replace D:=D.step B;replace Z:=Z.step B;replace H:=hid (Ab H.out B);clear B C4;clear hHeld;go_wp2_with fail;refine hK.out _ _ ⟨S,L,BX Z⟩ (fun hHeld=>?_);clear hK K
       try simp only[Act.put,sx]
       refine tl 16 ?_ ?_ hHeld ?_;rotate_left
       . intro w hSw
         try dsimp only at hSw
         go_simp
         all_goals with_reducible rfl
       try simp only[Act.put,sx]
       refine wpAnyH_done (by kernel_rfl) ?_ _;have O6:=S.cell 6 _ rfl;have f6:=S.fr 6;have Ol:=S.lt;go_upto_region 3 with fail;refine AD (fun W'=>CellsAt W' w.heap.size (AB k ax ay fx fy u (gn+1) d o)/\CellsAt W' (w.heap.size+1) (AX i t x y A n c (some ⟨bb,off,none⟩) m kk fp fq fs fz b)/\CellsAt W' (w.heap.size+1+1) (AB 0 0 0 0 0 0 0 false false)/\Below w.heap.size w W') ⟨S.set 6 (by simp) _,L.far (by omega) _ _,D.far (by omega) _ _,Ap H.out _ _ _ (by omega)⟩ ?_;clear S L D H O6 f6 Ol Z;rintro wm ⟨S,L,D,H⟩;replace H:=hid H;have Sc0:=S.cell 0 _ rfl;have Sf0:=S.fr 0;have Sc1:=S.cell 1 _ rfl;have Sf1:=S.fr 1;have Sc2:=S.cell 2 _ rfl
       have Sf2:=S.fr 2;have Sc3:=S.cell 3 _ rfl;have Sf3:=S.fr 3;have Sc4:=S.cell 4 _ rfl;have Sf4:=S.fr 4;have Sc5:=S.cell 5 _ rfl;have Sf5:=S.fr 5;have Sc6:=S.cell 6 _ rfl;have Sf6:=S.fr 6;have Sc7:=S.cell 7 _ rfl;have Sf7:=S.fr 7;have Sc8:=S.cell 8 _ rfl;have Sf8:=S.fr 8;have Sl:=S.lt;obtain⟨Lc0,Lc1,Lc2,Lc3,Lc4,Lc5,Lc6,Lc7,Lc8,Lc9,Lc10⟩:=AL L;have Ll:=L.lt;go_upto_region 4 with fail;refine AD (fun W'=>CellsAt W' w.heap.size (AB k ax ay fx fy u (gn+1) false o)/\CellsAt W' (w.heap.size+1+1) (AB 0 0 0 0 0 0 0 false false)/\Below w.heap.size w W') ⟨S.set 7 (by simp) _,D.far (by omega) _ _,Ap H.out _ _ _ (by omega)⟩ ?_
       clear S D H Sc0 Sf0 Sc1 Sf1 Sc2 Sf2 Sc3 Sf3 Sc4 Sf4 Sc5 Sf5 Sc6 Sf6 Sc7 Sf7 Sc8 Sf8 Sl Lc0 Lc1 Lc2 Lc3 Lc4 Lc5 Lc6 Lc7 Lc8 Lc9 Lc10 Ll L;rintro wa ⟨S,D,H⟩;refine wp_region_lit ?_;refine Af rfl 34 (.tmp 2) rfl w.heap.size rfl (AB k ax ay fx fy u (gn+1) false o) S Tryz.underlying34 rfl Ae ?_;refine Ai rfl 34 (.tmp 4) (.tmp 40) rfl (w.heap.size+1+1) rfl (AB k ax ay fx fy u (gn+1) false o) rfl _ D (by simp) Ae rfl ?_;intro wb K N;clear S D;go_wp2
       exact bodyPost_ret (v:=Cd k ax ay fx fy u (gn+1) false o) (An rfl (w.heap.size+1+1) rfl (AB k ax ay fx fy u (gn+1) false o) N Tryz.underlying34 rfl Ae) rfl ⟨by rw[E.out],Ao H K (by omega)⟩
 . have hg':decide ((gn:Int)<(m:Int))=false:=decide_eq_false (by omega);have nb:((gn:Int)==(m:Int))=true:=beq_iff_eq.2 (by omega);have E:=hid (ED.out gn (Du fp fq fs fz ax ay) (by unfold EY QW; rw[gl,hg']; rfl) (by rw[decide_eq_true (show(gn:Int)=(m:Int) by omega)]; rfl));have hg2:decide (gn<m)=false:=decide_eq_false hg;have nb2:(gn==m)=true:=beq_iff_eq.2 (by omega);clear ED hg okg okf hv J;replace C5:=hid C5;obtain⟨Sc0,Sc1,Sc2,Sc3,Sc4,Sc5,Sc6,Sc7,Sc8⟩:=Be S;have Sl:=S.lt;obtain⟨Lc0,Lc1,Lc2,Lc3,Lc4,Lc5,Lc6,Lc7,Lc8,Lc9,Lc10⟩:=AL L;have Ll:=L.lt;go_enter Tryz.func87,Tryz.ntmps87;go_upto_region 1 with fail
   clear Sc0 Sc1 Sc2 Sc3 Sc4 Sc5 Sc6 Sc7 Sc8 Sl Lc0 Lc1 Lc2 Lc3 Lc4 Lc5 Lc6 Lc7 Lc8 Lc9 Lc10 Ll;refine wp_region_held_drew (S:=fun w'=>CellsAt w' w.heap.size (AB k ax ay fx fy u gn d o)/\CellsAt w' (w.heap.size+1) (AX i t x y A n c G m kk fp fq fs fz b)) (by kernel_rfl) ⟨S.drew,L.drew⟩ (fun hHeld=>?_);replace S:=S.drew;replace L:=L.drew;replace D:=D.drew;replace H:=hid (AE H.out);refine tl 0 ?_ ?_ hHeld ?_;rotate_left
   . intro w hSw
     try dsimp only at hSw
     go_simp
     all_goals with_reducible rfl
   try simp only[Act.put,sx]
   refine tl 1 ?_ ?_ hHeld ?_;rotate_left
   . intro w hSw;have d6:=hSw.1.cell 6 _ rfl;go_simp
     all_goals with_reducible rfl
   try simp only[Act.put,sx]
   refine tl 2 ?_ ?_ hHeld ?_;rotate_left
   . intro w hSw
     try dsimp only at hSw
     go_simp
     all_goals with_reducible rfl
   try simp only[Act.put,sx]
   refine tl 3 ?_ ?_ hHeld ?_;rotate_left
   . intro w hSw;have d5:=hSw.2.cell 5 _ rfl;go_simp
     all_goals with_reducible rfl
   try simp only[Act.put,sx]
   refine tl 4 ?_ ?_ hHeld ?_;rotate_left
   . intro w hSw
     try dsimp only at hSw
     go_simp
     all_goals with_reducible rfl
   try simp only[Act.put,sx]
   refine tl 5 ?_ ?_ hHeld ?_;rotate_left
   . intro w hSw
     try dsimp only at hSw
     go_simp
     all_goals with_reducible rfl
   try simp only[Act.put,sx]
   refine tl 6 ?_ ?_ hHeld ?_;rotate_left
   . intro w hSw
     try dsimp only at hSw
     go_simp
     all_goals with_reducible rfl
   try simp only[Act.put,sx]
   refine wpAnyH_take (i:=7) (oi:=_) (v:=undef) rfl (by kernel_rfl) (by kernel_rfl) (by kernel_rfl) (fun _ _ _ h=>h) (Or.inr ⟨by rfl,rfl⟩) hHeld ?_
   try simp only[Act.put,sx]
   refine wpAnyH_take (i:=8) (oi:=_) (v:=undef) rfl (by kernel_rfl) (by kernel_rfl) (by kernel_rfl) (fun _ _ _ h=>h) (Or.inr ⟨by rfl,rfl⟩) hHeld ?_
   try simp only[Act.put,sx]
   refine wpAnyH_take (i:=9) (oi:=_) (v:=undef) rfl (by kernel_rfl) (by kernel_rfl) (by kernel_rfl) (fun _ _ _ h=>h) (Or.inr ⟨by rfl,rfl⟩) hHeld ?_
   try simp only[Act.put,sx]
   refine wpAnyH_take (i:=10) (oi:=_) (v:=undef) rfl (by kernel_rfl) (by kernel_rfl) (by kernel_rfl) (fun _ _ _ h=>h) (Or.inr ⟨by rfl,rfl⟩) hHeld ?_
   try simp only[Act.put,sx]
   refine wpAnyH_take (i:=11) (oi:=_) (v:=undef) rfl (by kernel_rfl) (by kernel_rfl) (by kernel_rfl) (fun _ _ _ h=>h) (Or.inr ⟨by rfl,rfl⟩) hHeld ?_
   try simp only[Act.put,sx]
   refine wpAnyH_take (i:=12) (oi:=_) (v:=undef) rfl (by kernel_rfl) (by kernel_rfl) (by kernel_rfl) (fun _ _ _ h=>h) (Or.inr ⟨by rfl,rfl⟩) hHeld ?_
   try simp only[Act.put,sx]
   refine wpAnyH_take (i:=13) (oi:=_) (v:=undef) rfl (by kernel_rfl) (by kernel_rfl) (by kernel_rfl) (fun _ _ _ h=>h) (Or.inr ⟨by rfl,rfl⟩) hHeld ?_
   try simp only[Act.put,sx]
   refine wpAnyH_take (i:=14) (oi:=_) (v:=undef) rfl (by kernel_rfl) (by kernel_rfl) (by kernel_rfl) (fun _ _ _ h=>h) (Or.inr ⟨by rfl,rfl⟩) hHeld ?_
   try simp only[Act.put,sx]
   refine wpAnyH_take (i:=15) (oi:=_) (v:=undef) rfl (by kernel_rfl) (by kernel_rfl) (by kernel_rfl) (fun _ _ _ h=>h) (Or.inr ⟨by rfl,rfl⟩) hHeld ?_
   try simp only[Act.put,sx]
   refine tl 16 ?_ ?_ hHeld ?_;rotate_left
   . intro w hSw
     try dsimp only at hSw
     go_simp
     all_goals with_reducible rfl
   try simp only[Act.put,sx]
   refine wpAnyH_done (by kernel_rfl) ?_ _;replace C5:=C5.out;replace C5:=hid C5;obtain⟨Sc0,Sc1,Sc2,Sc3,Sc4,Sc5,Sc6,Sc7,Sc8⟩:=Be S;have Sl:=S.lt;obtain⟨Lc0,Lc1,Lc2,Lc3,Lc4,Lc5,Lc6,Lc7,Lc8,Lc9,Lc10⟩:=AL L;have Ll:=L.lt;go_wp2_with fail;refine(C5.out _).mono ?_;rintro e w9 ⟨rfl,B⟩;replace S:=S.step B;replace D:=D.step B;replace H:=hid (Ab H.out B);clear B C5 L Sc0 Sc1 Sc2 Sc3 Sc4 Sc5 Sc6 Sc7 Sc8 Sl Lc0 Lc1 Lc2 Lc3 Lc4 Lc5 Lc6 Lc7 Lc8 Lc9 Lc10 Ll;have Sc0:=S.cell 0 _ rfl;have Sf0:=S.fr 0;have Sc1:=S.cell 1 _ rfl;have Sf1:=S.fr 1;have Sc2:=S.cell 2 _ rfl;have Sf2:=S.fr 2;have Sc3:=S.cell 3 _ rfl;have Sf3:=S.fr 3
   have Sc4:=S.cell 4 _ rfl;have Sf4:=S.fr 4;have Sc5:=S.cell 5 _ rfl;have Sf5:=S.fr 5;have Sc6:=S.cell 6 _ rfl;have Sf6:=S.fr 6;have Sc7:=S.cell 7 _ rfl;have Sf7:=S.fr 7;have Sc8:=S.cell 8 _ rfl;have Sf8:=S.fr 8;have Sl:=S.lt;go_upto_region 4 with fail;refine AD (fun W'=>CellsAt W' w.heap.size (AB k ax ay fx fy u gn (Du fp fq fs fz ax ay) o)/\CellsAt W' (w.heap.size+1+1) (AB 0 0 0 0 0 0 0 false false)/\Below w.heap.size w W') ⟨S.set 7 (by simp) _,D.far (by omega) _ _,Ap H.out _ _ _ (by omega)⟩ ?_;clear S D H Sc0 Sf0 Sc1 Sf1 Sc2 Sf2 Sc3 Sf3 Sc4 Sf4 Sc5 Sf5 Sc6 Sf6 Sc7 Sf7 Sc8 Sf8 Sl;rintro wa ⟨S,D,H⟩;refine wp_region_lit ?_
   refine Af rfl 34 (.tmp 2) rfl w.heap.size rfl (AB k ax ay fx fy u gn (Du fp fq fs fz ax ay) o) S Tryz.underlying34 rfl Ae ?_;refine Ai rfl 34 (.tmp 4) (.tmp 40) rfl (w.heap.size+1+1) rfl (AB k ax ay fx fy u gn (Du fp fq fs fz ax ay) o) rfl _ D (by simp) Ae rfl ?_;intro wb K N;clear S D;go_wp2;exact bodyPost_ret (v:=Cd k ax ay fx fy u gn (Du fp fq fs fz ax ay) o) (An rfl (w.heap.size+1+1) rfl (AB k ax ay fx fy u gn (Du fp fq fs fz ax ay) o) N Tryz.underlying34 rfl Ae) rfl ⟨by rw[E.out],Ao H K (by omega)⟩
end Go.Proofs.YtaemcekcancpdaaGreatDoor
