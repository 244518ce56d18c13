import Derived.Test.YtkpogcflgghfiaaDoorZVecDir
import Derived.Deep.RegionHeld
import Derived.Test.YtkpogcflgghfiaaDoorZEng
import Derived.Test.YtkpogcflgghfiaaDoorZInRow
import Derived.Handy
set_option linter.all false
set_option maxRecDepth 100000
set_option maxHeartbeats 8000000
open Go.Lib
namespace Go.Proofs.YtkpogcflgghfiaaDoor
open Go.RowKit Go.Shelf
open M
attribute [local go_sem] Oper.semAt_some
theorem VCell.kept {W W':World} {row:Option Nat} {b:Nat} {x y:Int} (h:VCell W b x y) (hg:W.grownBy W' row) (hr:∀ r,row=some r→∃ o:Obj,W.heap[r]?=some o∧o.isCells=false):VCell W' b x y :=
 ⟨cell_kept h.c0 hg hr,cell_kept h.c1 hg hr,(frozen_kept h.c0 hg hr).trans h.f0,(frozen_kept h.c1 hg hr).trans h.f1,Nat.lt_of_lt_of_le h.lt hg.size⟩
theorem VCell.far {W:World} {b:Nat} {x y:Int} (h:VCell W b x y) {b':Nat} (hne:b'≠b) (o:Nat) (v:Value):VCell (W.setCell ⟨b',o,none⟩ v) b x y :=
 ⟨(World.cell?_setCell_far _ _ _ _ hne).trans h.c0,(World.cell?_setCell_far _ _ _ _ hne).trans h.c1,by rw [World.frozen?_setCell]; exact h.f0,by rw [World.frozen?_setCell]; exact h.f1,by rw [World.size_setCell]; exact h.lt⟩
theorem cell_new_l (W:World) (v:Value) (t:TypeId):(W.alloc (.cells #[v] t)).cell? ⟨W.heap.size,0,none⟩=some v∧(W.alloc (.cells #[v] t)).frozen? ⟨W.heap.size,0,none⟩=false:=⟨by simp,by simp⟩
theorem cell_alloc_l {W:World} {a:Addr} {v:Value} (o:Obj) (h:W.cell? a=some v):(W.alloc o).cell? a=some v:=cell_kept h (World.grownBy_alloc W o none) (fun r e=>by cases e)
theorem Im {W:World} {a:Addr} {v:Value} (o:Obj) (h:W.cell? a=some v) (hf:W.frozen? a=false):(W.alloc o).frozen? a=false:=(frozen_kept h (World.grownBy_alloc W o none) (fun r e=>by cases e)).trans hf
theorem vcell_lt {W:World} {b o:Nat} {v:Value} (h:W.cell? ⟨b,o,none⟩=some v):b<W.heap.size:=by
 rcases Nat.lt_or_ge b W.heap.size with g | g
 · exact g
 · simp [World.cell?,Array.getElem?_eq_none g] at h
theorem PX (d:Int) (w:World) (hQ:Quarter w):Calls Tryd.prog 59 #[.int .i64 d] w fun e w'=>e=.returned (.tuple #[Bo (BG d) (BH d),.bool (Ba d 0 15)])∧Below w.heap.size w w':=by
 refine (callsIn_wide (n:=5)).1 ?_;have hf:Fence.wide.fn 82:=trivial;refine callsIn_of_wp_marks Tryd.func59 rfl trivial ?_ rfl;simp only [Tryd.ntmps59,List.size_toArray,List.length_cons,List.length_nil,Nat.reduceAdd,Nat.reduceSub,Array.replicate_succ,Array.replicate_zero,List.push_toArray,List.append_toArray,List.nil_append,List.cons_append]
 gi_wp2_with (gi_at_call 82; refine (callsIn_wide.2 (PW _)).mono ?_; rintro e w' ⟨rfl,rfl⟩)
 have c0:=cell_new_l w (.int .i64 d) 3;have v0:VCell ((w.alloc (.cells #[.int .i64 d] 3)).alloc (.cells #[.int .i64 0,.int .i64 0] 24)) (w.heap.size+1) 0 0:=VCell.new _ _ _ _ _ (by simp);have c2:=cell_new_l ((w.alloc (.cells #[.int .i64 d] 3)).alloc (.cells #[.int .i64 0,.int .i64 0] 24)) (.bool false) 4;simp only [World.size_alloc] at c2;have hB0:Below w.heap.size w (((w.alloc (.cells #[.int .i64 d] 3)).alloc (.cells #[.int .i64 0,.int .i64 0] 24)).alloc (.cells #[.bool false] 4)):=Aa (Aa (Aa (Ac w) _) _) _;refine wpIn_rangeFunc_ownH rfl (by omega) (gf:=94) (lb:=#[]) rfl trivial (enters_of Tryd.func94 (by kernel_rfl) rfl)
  (LP _ w.heap.size (by omega) _ hQ.lt (by simp; omega) (hQ.step hB0)) belowK_t (belowK_b (by simp; omega)) (Below.refl _ _) (fun _=>rfl)
  (fun pre W=>((∀ y∈pre,y≠d)∧W.cell? ⟨w.heap.size,0,none⟩=some (.int .i64 d)∧VCell W (w.heap.size+1) 0 0∧W.cell? ⟨w.heap.size+1+1,0,none⟩=some (.bool false)∧W.frozen? ⟨w.heap.size+1+1,0,none⟩=false)∧Below w.heap.size w W)
  (fun c pre W=>(c=.ret∧d∈pre∧VCell W (w.heap.size+1) (BG d) (BH d)∧W.cell? ⟨w.heap.size+1+1,0,none⟩=some (.bool true))∧Below w.heap.size w W)
  (OwnFrom.and (Own.from (fun s A B row hs hg hr=>⟨hs.1,cell_kept hs.2.1 hg hr,hs.2.2.1.kept hg hr,cell_kept hs.2.2.2.1 hg hr,(frozen_kept hs.2.2.2.1 hg hr).trans hs.2.2.2.2⟩) _) (ownFrom_below (Nat.le_refl _) (by simp; omega)))
  (fun c=>OwnFrom.and (Own.from (fun s A B row hs hg hr=>⟨hs.1,hs.2.1,hs.2.2.1.kept hg hr,cell_kept hs.2.2.2 hg hr⟩) _) (ownFrom_below (Nat.le_refl _) (by simp; omega)))
  ⟨⟨by simp,cell_alloc_l _ (cell_alloc_l _ c0.1),v0.alloc _,c2.1,c2.2⟩,hB0⟩
  (fun x a' W=>∃ Bx,w.heap.size+1+1<Bx∧VCell W Bx (BG x) (BH x)∧a'={ tmps:=#[.int .i64 d,.pointer (some ⟨w.heap.size,0,none⟩),.pointer (some ⟨w.heap.size+1,0,none⟩),.pointer (some ⟨w.heap.size+1+1,0,none⟩),.int .i64 x,.pointer (some ⟨Bx,0,none⟩),.func (.func 94) #[] #[],.int .i64 x,Bo (BG x) (BH x),undef,undef,undef,undef,undef],defers:=[] })
  (fun x a' _ A B row hs hg hr=>by
   obtain ⟨Bx,h1,h2,h3⟩:=hs;exact ⟨Bx,h1,h2.kept hg (fun r e=>(hr r e).2),h3⟩) ?assign ?body ?done ?stop
 case assign =>
  rintro l pre x W K ⟨⟨hne,hcd,hv,hcb,hfb⟩,hB⟩ hK;have hlt:w.heap.size+1+1<W.heap.size:=vcell_lt hcb
  gi_wp2
  exact hK _ _ ((KeepsOthers.alloc _ _).from _) ((Below.refl _ W).alloc hB.size _) ⟨⟨hne,cell_alloc_l _ hcd,hv.alloc _,cell_alloc_l _ hcb,Im _ hcb hfb⟩,Aa hB _⟩ ⟨W.heap.size,hlt,VCell.new _ _ _ _ _ rfl,rfl⟩
 case body =>
  rintro l pre x a' W hl ⟨r,hr⟩ ⟨⟨hne,hcd,hv,hcb,hfb⟩,hB⟩ ⟨Bx,hBx,hx,rfl⟩ hlt;have x0:=hx.c0;have x1:=hx.c1;have v0:=hv.c0;have v1:=hv.c1;have v2:=hv.f0;have v3:=hv.f1
  gi_wp2
  · rename_i hxd;obtain rfl:x=d:=eq_of_beq hxd;exact ⟨(((KeepsOthers.setCell _ _ _).trans (KeepsOthers.setCell _ _ _)).trans (KeepsOthers.setCell _ _ _)).from _,⟨rfl,List.mem_append.2 (.inr (by simp)),(hv.set _ _).far (by omega) _ _,World.cell?_setCell_same' _ _ _ (by rw [World.cell?_setCell_far _ _ _ _ (by simp),World.cell?_setCell_far _ _ _ _ (by simp),hcb]; rfl)⟩,((hB.setCell (p:=⟨w.heap.size+1,0,none⟩) (by simp) _).setCell (p:=⟨w.heap.size+1,1,none⟩) (by simp) _).setCell (p:=⟨w.heap.size+1+1,0,none⟩) (by simp; omega) _⟩
  · rename_i hxd;exact ⟨(KeepsOthers.refl _).from _,Below.refl _ _,⟨fun y hy=>(List.mem_append.1 hy).elim (hne y) (fun e e'=>by simp at e; subst e; subst e'; simp at hxd),hcd,hv,hcb,hfb⟩,hB⟩
 case done =>
  rintro D ys W hD rfl ⟨⟨hne,hcd,hv,hcb,hfb⟩,hB⟩ hK;have hno:Ba d 0 15=false:=CC (fun h=>hne d (PV h.1 (by omega)) rfl);have E:=hid (Tf hno);have N:=hid hno;have v0:=hv.c0;have v1:=hv.c1;have v2:=hv.f0;have v3:=hv.f1;clear hno
  gi_wp2
  have hK':=(((KeepsOthers.setCell W ⟨w.heap.size+1,0,none⟩ (.int .i64 0)).trans (KeepsOthers.setCell _ ⟨w.heap.size+1,1,none⟩ (.int .i64 0))).trans (KeepsOthers.setCell _ ⟨w.heap.size+1+1,0,none⟩ (.bool false))).same D _ hK rfl;refine ⟨by simp,.inl ⟨_,_,rfl,run_takeDeferred hK',?_⟩⟩;have V':=((hv.set 0 0).far (b':=w.heap.size+1+1) (by omega) 0 (.bool false)).kept (grownBy_putObj' _ D (.deferred none)) (fun r e=>by cases e; exact ⟨_,hK',rfl⟩)
  have C':=cell_kept (World.cell?_setCell_same' ((W.setCell ⟨w.heap.size+1,0,none⟩ (.int .i64 0)).setCell ⟨w.heap.size+1,1,none⟩ (.int .i64 0)) ⟨w.heap.size+1+1,0,none⟩ (.bool false) (by rw [World.cell?_setCell_far _ _ _ _ (by simp),World.cell?_setCell_far _ _ _ _ (by simp),hcb]; rfl)) (grownBy_putObj' _ D (.deferred none)) (fun r e=>by cases e; exact ⟨_,hK',rfl⟩);have v4:=V'.c0;have v5:=V'.c1
  refine ⟨.tuple #[Bo 0 0,.bool false],?_,B8 (by rw [E.out.1]) (by rw [E.out.2]) (by rw [N.out]),(((hB.setCell (p:=⟨w.heap.size+1,0,none⟩) (by simp) _).setCell (p:=⟨w.heap.size+1,1,none⟩) (by simp) _).setCell (p:=⟨w.heap.size+1+1,0,none⟩) (by simp; omega) _).trans (belowK_b (w:=w) (Nat.le_refl _) _ D _ _ (by simp at hD; omega) hK' rfl rfl)⟩;simp [results,Tryd.f59,go_sem,v4,v5,C']
 case stop =>
  rintro D c pre W hD ⟨k,k0,k1,rfl⟩ ⟨⟨rfl,hin,hv,hcb⟩,hB⟩ hK;have hm:=PU hin;have N:=hid (BN (n:=d) (lo:=0) (hi:=15) (by omega));have v0:=hv.c0;have v1:=hv.c1
  gi_wp2
  refine ⟨by simp,.inl ⟨_,_,rfl,run_takeDeferred hK,?_⟩⟩;have V':=hv.kept (grownBy_putObj' _ D (.deferred none)) (fun r e=>by cases e; exact ⟨_,hK,rfl⟩);have C':=cell_kept hcb (grownBy_putObj' _ D (.deferred none)) (fun r e=>by cases e; exact ⟨_,hK,rfl⟩);have v4:=V'.c0;have v5:=V'.c1;refine ⟨.tuple #[Bo (BG d) (BH d),.bool true],?_,B8 rfl rfl (by rw [N.out]),hB.trans (belowK_b (w:=w) (Nat.le_refl _) W D _ _ (by simp at hD; omega) hK rfl rfl)⟩;simp [results,Tryd.f59,go_sem,v4,v5,C']
end Go.Proofs.YtkpogcflgghfiaaDoor
namespace Go.Proofs.YtkpogcflgghfiaaDoor
open Go.RowKit
open M
theorem C0 (u s:Int) (w:World) (u0:0≤u) (u1:u≤15) (s1:-1≤s) (s2:s≤1):Calls Tryd.prog 38 #[.int .i64 u,.int .i64 s] w fun e w'=>e=.returned (.int .i64 ((u+s) % 16))∧Below w.heap.size w w':=by
 go_enter Tryd.func38,Tryd.ntmps38;go_wp2;go_ret;exact ⟨BE (by omega),Ac w⟩
theorem Rq {u:Int} (u0:0≤u) (u1:u≤15):P4 (BG u) (BH u) 200=mu (BG u) 200∧P5 (BG u) (BH u) 200=mu (BH u) 200∧P6 (BG u) (BH u) 200=true:=by
 have dd:=F2 u0 u1;have q:=Db u0 u1;exact RG (Cz ⟨⟨by omega,by omega⟩,by omega,by omega⟩) (by decide) rfl rfl (Cz ⟨⟨by omega,by omega⟩,by omega,by omega⟩)
theorem LQ (fx fy u:Int) (w:World) (x1:-2000≤fx) (x2:fx≤2000) (y1:-2000≤fy) (y2:fy≤2000) (u0:0≤u) (u1:u≤15) (hQ:Quarter w) :
 Calls Tryd.prog 39 #[Bo fx fy,.int .i64 u] w fun e w'=>e=.returned (Bo (EV fx fy u 1) (EW fx fy u 1))∧Below w.heap.size w w':=by
 have q:=Db u0 u1;have dd:=F2 u0 u1;have C1:=fun (W:World) (Z:Quarter W)=>PX u W Z;have C2:=fun W=>Iq (BG u) (BH u) 200 W;obtain ⟨r1,r2,r3⟩:=Rq u0 u1;rw [BN (show 0≤u∧u≤15 from ⟨u0,u1⟩)] at C1;rw [r1,r2,r3] at C2;have E:EV fx fy u 1=JM (fx+mu (BG u) 200) (fy+mu (BH u) 200) 2000∧EW fx fy u 1=JN (fx+mu (BG u) 200) (fy+mu (BH u) 200) 2000:=⟨by simp [EV],by simp [EW]⟩;have E:=hid E;clear r1 r2 r3;generalize mu (BG u) 200=e1 at *;generalize mu (BH u) 200=e2 at *;generalize BG u=f1 at *;generalize BH u=f2 at *;obtain ⟨⟨q1,q2⟩,q3,q4⟩:=q
 have v3:Au (fx+e1) (fy+e2)=true:=Cz ⟨⟨by omega,by omega⟩,by omega,by omega⟩;have C3:=fun W=>PZ fx fy e1 e2 W;obtain ⟨r1,r2,r3⟩:=Uk (x:=fx) (y:=fy) (u:=e1) (v:=e2) (Cz ⟨⟨by omega,by omega⟩,by omega,by omega⟩) (Cz ⟨⟨by omega,by omega⟩,by omega,by omega⟩) v3;rw [r1,r2,r3] at C3;have C4:=fun W=>LS (fx+e1) (fy+e2) 2000 W;rw [LW v3 (by decide)] at C4;generalize JM (fx+e1) (fy+e2) 2000=g1 at *;generalize JN (fx+e1) (fy+e2) 2000=g2 at *;have C1:=hid C1;have C2:=hid C2;have C3:=hid C3;have C4:=hid C4;have hQ:=hid hQ;clear r1 r2 r3 v3 dd q1 q2 q3 q4
 have P:CellsAt ((w.alloc (.cells #[.int .i64 fx,.int .i64 fy] 24)).alloc (.cells #[.int .i64 0,.int .i64 0] 24)) w.heap.size [.int .i64 (fx),.int .i64 (fy)]:=(CellsAt.new w _ _ _ rfl).alloc _;have D:CellsAt ((w.alloc (.cells #[.int .i64 fx,.int .i64 fy] 24)).alloc (.cells #[.int .i64 0,.int .i64 0] 24)) (w.heap.size+1) [.int .i64 (0),.int .i64 (0)]:=CellsAt.new _ _ _ _ (by simp);have H:=hid (Aa (Aa (Ac w) (.cells #[.int .i64 fx,.int .i64 fy] 24)) (.cells #[.int .i64 0,.int .i64 0] 24));go_enter Tryd.func39,Tryd.ntmps39;have Pc0:=P.cell 0 _ rfl;have Pc1:=P.cell 1 _ rfl;have Pl:=P.lt;have Dc0:=D.cell 0 _ rfl;have Dc1:=D.cell 1 _ rfl
 have Dl:=D.lt;go_wp2_with fail;clear Pc0 Pc1 Pl Dc0 Dc1 Dl;refine (C1.out _ (hQ.out.step H.out)).mono ?_;rintro e w1 ⟨rfl,B⟩;replace P:=P.step B;replace D:=D.step B;replace H:=hid (Ab H.out B);clear B;have Pc0:=P.cell 0 _ rfl;have Pc1:=P.cell 1 _ rfl;have Pl:=P.lt;have Dc0:=D.cell 0 _ rfl;have Dc1:=D.cell 1 _ rfl;have Dl:=D.lt;go_wp2_with fail;clear Pc0 Pc1 Pl Dc0 Dc1 Dl;refine (C2.out _).mono ?_;rintro e w2 ⟨rfl,B⟩;replace P:=P.alloc (.cells #[.int .i64 f1,.int .i64 f2] 24);replace D:=D.alloc (.cells #[.int .i64 f1,.int .i64 f2] 24);replace H:=hid (Aa H.out (.cells #[.int .i64 f1,.int .i64 f2] 24));replace P:=P.step B;replace D:=D.step B
 replace H:=hid (Ab H.out B);clear B;have Pc0:=P.cell 0 _ rfl;have Pc1:=P.cell 1 _ rfl;have Pl:=P.lt;have Dc0:=D.cell 0 _ rfl;have Dc1:=D.cell 1 _ rfl;have Dl:=D.lt;go_wp2_with fail;clear Pc0 Pc1 Pl Dc0 Dc1 Dl;refine (C3.out _).mono ?_;rintro e w3 ⟨rfl,B⟩;replace P:=P.alloc (.cells #[.int .i64 e1,.int .i64 e2] 24);replace D:=D.alloc (.cells #[.int .i64 e1,.int .i64 e2] 24);replace H:=hid (Aa H.out (.cells #[.int .i64 e1,.int .i64 e2] 24));replace P:=P.step B;replace D:=D.step B;replace H:=hid (Ab H.out B);clear B;have Pc0:=P.cell 0 _ rfl;have Pc1:=P.cell 1 _ rfl;have Pl:=P.lt;have Dc0:=D.cell 0 _ rfl;have Dc1:=D.cell 1 _ rfl
 have Dl:=D.lt;go_wp2_with fail;clear Pc0 Pc1 Pl Dc0 Dc1 Dl;refine (C4.out _).mono ?_;rintro e w4 ⟨rfl,B⟩;replace P:=P.alloc (.cells #[.int .i64 (fx+e1),.int .i64 (fy+e2)] 24);replace D:=D.alloc (.cells #[.int .i64 (fx+e1),.int .i64 (fy+e2)] 24);replace H:=hid (Aa H.out (.cells #[.int .i64 (fx+e1),.int .i64 (fy+e2)] 24));replace P:=P.step B;replace D:=D.step B;replace H:=hid (Ab H.out B);clear B;have Pc0:=P.cell 0 _ rfl;have Pc1:=P.cell 1 _ rfl;have Pl:=P.lt;have Dc0:=D.cell 0 _ rfl;have Dc1:=D.cell 1 _ rfl;have Dl:=D.lt;go_upto_region 5 with fail;clear Pc0 Pc1 Pl Dc0 Dc1 Dl
 have U:CellsAt (w4.alloc (.cells #[.int .i64 g1,.int .i64 g2] 24)) w4.heap.size [.int .i64 (g1),.int .i64 (g2)]:=CellsAt.new _ _ _ _ rfl;replace D:=D.alloc (.cells #[.int .i64 g1,.int .i64 g2] 24);replace H:=hid (Aa H.out (.cells #[.int .i64 g1,.int .i64 g2] 24));refine wp_region_lit ?_;refine Af rfl 24 (.tmp 11) rfl w4.heap.size rfl [.int .i64 (g1),.int .i64 (g2)] U Tryd.underlying24 rfl BW ?_;refine Ah rfl 24 (.tmp 4) (.tmp 34) rfl (w.heap.size+1) rfl [.int .i64 (g1),.int .i64 (g2)] rfl _ D (by simp) BW rfl ?_;intro w5 K N;go_wp2
 exact bodyPost_ret (v:=Bo g1 g2) (Aj rfl (w.heap.size+1) rfl [.int .i64 (g1),.int .i64 (g2)] N Tryd.underlying24 rfl BW) rfl ⟨by rw [E.out.1,E.out.2],Ak H.out K (by omega)⟩
theorem Io (fx fy c:Int) (w:World) (x1:-2000≤fx) (x2:fx≤2000) (y1:-2000≤fy) (y2:fy≤2000) (c0:0≤c) (c1:c≤1000) :
 Calls Tryd.prog 40 #[Bo fx fy,.int .i64 c] w fun e w'=>e=.returned (Bo (mu fx c) (mu fy c))∧Below w.heap.size w w':=by
 have q1:=DC x1 x2 c0 c1;have q2:=DC y1 y2 c0 c1;have C1:=fun W=>Iq fx fy c W;obtain ⟨r1,r2,r3⟩:=RG (x:=fx) (y:=fy) (k:=c) (Cz ⟨⟨by omega,by omega⟩,by omega,by omega⟩) (F9 (by omega)) rfl rfl (Cz ⟨⟨by omega,by omega⟩,by omega,by omega⟩);rw [r1,r2,r3] at C1;generalize mu fx c=g1 at *;generalize mu fy c=g2 at *;have C1:=hid C1;clear r1 r2 r3;have P:CellsAt ((w.alloc (.cells #[.int .i64 fx,.int .i64 fy] 24)).alloc (.cells #[.int .i64 0,.int .i64 0] 24)) w.heap.size [.int .i64 (fx),.int .i64 (fy)]:=(CellsAt.new w _ _ _ rfl).alloc _
 have D:CellsAt ((w.alloc (.cells #[.int .i64 fx,.int .i64 fy] 24)).alloc (.cells #[.int .i64 0,.int .i64 0] 24)) (w.heap.size+1) [.int .i64 (0),.int .i64 (0)]:=CellsAt.new _ _ _ _ (by simp);have H:=hid (Aa (Aa (Ac w) (.cells #[.int .i64 fx,.int .i64 fy] 24)) (.cells #[.int .i64 0,.int .i64 0] 24));go_enter Tryd.func40,Tryd.ntmps40;have Pc0:=P.cell 0 _ rfl;have Pc1:=P.cell 1 _ rfl;have Pl:=P.lt;have Dc0:=D.cell 0 _ rfl;have Dc1:=D.cell 1 _ rfl;have Dl:=D.lt;go_wp2_with fail;clear Pc0 Pc1 Pl Dc0 Dc1 Dl;refine (C1.out _).mono ?_;rintro e w1 ⟨rfl,B⟩;replace P:=P.step B;replace D:=D.step B;replace H:=hid (Ab H.out B);clear B
 have Pc0:=P.cell 0 _ rfl;have Pc1:=P.cell 1 _ rfl;have Pl:=P.lt;have Dc0:=D.cell 0 _ rfl;have Dc1:=D.cell 1 _ rfl;have Dl:=D.lt;go_upto_region 2 with fail;clear Pc0 Pc1 Pl Dc0 Dc1 Dl;have U:CellsAt (w1.alloc (.cells #[.int .i64 g1,.int .i64 g2] 24)) w1.heap.size [.int .i64 (g1),.int .i64 (g2)]:=CellsAt.new _ _ _ _ rfl;replace D:=D.alloc (.cells #[.int .i64 g1,.int .i64 g2] 24);replace H:=hid (Aa H.out (.cells #[.int .i64 g1,.int .i64 g2] 24));refine wp_region_lit ?_;refine Af rfl 24 (.tmp 5) rfl w1.heap.size rfl [.int .i64 (g1),.int .i64 (g2)] U Tryd.underlying24 rfl BW ?_
 refine Ah rfl 24 (.tmp 4) (.tmp 13) rfl (w.heap.size+1) rfl [.int .i64 (g1),.int .i64 (g2)] rfl _ D (by simp) BW rfl ?_;intro w2 K N;go_wp2;exact bodyPost_ret (v:=Bo g1 g2) (Aj rfl (w.heap.size+1) rfl [.int .i64 (g1),.int .i64 (g2)] N Tryd.underlying24 rfl BW) rfl ⟨rfl,Ak H.out K (by omega)⟩
def ctl (s p:Int) (z:Bool):Value:=if z then .iface 76 (.agg #[]) else if p=1 then .iface 80 (.agg #[.int .i64 s]) else if p=2 then .iface 82 (.agg #[.int .i64 s]) else .iface 83 (.agg #[.int .i64 s])
theorem KP (s p:Int) (z:Bool) (w:World):Calls Tryd.prog 25 #[Dx s p z] w fun e w'=>e=.returned (ctl s p z)∧Below w.heap.size w w':=by
 cases z
 rotate_left
 · go_enter Tryd.func25,Tryd.ntmps25;go_wp2;go_ret;exact ⟨rfl,Aa (Aa (Ac w) _) _⟩
 by_cases h1:p=1
 · subst h1;go_enter Tryd.func25,Tryd.ntmps25;go_wp2;go_ret;exact ⟨rfl,Aa (Aa (Ac w) _) _⟩
 have d1:(p==1)=false:=beq_eq_false_iff_ne.2 h1;by_cases h2:p=2
 · subst h2;go_enter Tryd.func25,Tryd.ntmps25;go_wp2;go_ret;exact ⟨rfl,Aa (Aa (Ac w) _) _⟩
 have d2:(p==2)=false:=beq_eq_false_iff_ne.2 h2;have E:=hid (show ctl s p false=.iface 83 (.agg #[.int .i64 s]) by simp [ctl,h1,h2]);clear h1 h2;go_enter Tryd.func25,Tryd.ntmps25;go_wp2;go_ret;exact ⟨by rw [E.out]; rfl,Aa (Aa (Ac w) _) _⟩
theorem Gv (s:Int) (w:World):Calls Tryd.prog 119 #[.agg #[.int .i64 s]] w fun e w'=>e=.returned (.int .i64 s)∧Below w.heap.size w w':=by
 go_enter Tryd.func119,Tryd.ntmps119;go_wp2;go_ret;exact ⟨rfl,Aa (Ac w) _⟩
theorem Ip (w:World):Calls Tryd.prog 118 #[.agg #[]] w fun e w'=>e=.returned (.int .i64 0)∧Below w.heap.size w w':=by
 go_enter Tryd.func118,Tryd.ntmps118;go_wp2;go_ret;exact ⟨rfl,Aa (Ac w) _⟩
end Go.Proofs.YtkpogcflgghfiaaDoor
