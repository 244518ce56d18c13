import Derived.Test.YtaemcekcancpdaaGreatDoorZVecDir
import Derived.Deep.RegionHeld
set_option linter.all false
set_option maxRecDepth 100000
set_option maxHeartbeats 8000000
open Go.Lib
namespace Go.Proofs.YtaemcekcancpdaaGreatDoor
open Go.RowKit Go.Shelf
open M
attribute [local go_sem] Oper.semAt_some
theorem VCell.kept{W W':World}{row:Option Nat}{b:Nat}{x y:Int}(h:VCell W b x y)(hg:W.grownBy W' row)(hr:∀ r,row=some r->∃ o:Obj,W.heap[r]?=some o/\o.isCells=false):VCell W' b x y :=
 ⟨cell_kept h.c0 hg hr,cell_kept h.c1 hg hr,(frozen_kept h.c0 hg hr).trans h.f0,(frozen_kept h.c1 hg hr).trans h.f1,Nat.lt_of_lt_of_le h.lt hg.size⟩
theorem VCell.far{W:World}{b:Nat}{x y:Int}(h:VCell W b x y){b':Nat}(hne:b'≠b)(o:Nat)(v:Value):VCell (W.setCell ⟨b',o,none⟩ v) b x y :=
 ⟨(World.cell?_setCell_far _ _ _ _ hne).trans h.c0,(World.cell?_setCell_far _ _ _ _ hne).trans h.c1,by rw[World.frozen?_setCell]; exact h.f0,by rw[World.frozen?_setCell]; exact h.f1,by rw[World.size_setCell]; exact h.lt⟩
theorem cell_new_l(W:World)(v:Value)(t:TypeId):(W.alloc (.cells #[v] t)).cell? ⟨W.heap.size,0,none⟩=some v/\(W.alloc (.cells #[v] t)).frozen? ⟨W.heap.size,0,none⟩=false:=⟨by simp,by simp⟩
theorem cell_alloc_l{W:World}{a:Addr}{v:Value}(o:Obj)(h:W.cell? a=some v):(W.alloc o).cell? a=some v:=cell_kept h (World.grownBy_alloc W o none) (fun r e=>by cases e)
theorem IP{W:World}{a:Addr}{v:Value}(o:Obj)(h:W.cell? a=some v)(hf:W.frozen? a=false):(W.alloc o).frozen? a=false:=(frozen_kept h (World.grownBy_alloc W o none) (fun r e=>by cases e)).trans hf
theorem vcell_lt{W:World}{b o:Nat}{v:Value}(h:W.cell? ⟨b,o,none⟩=some v):b<W.heap.size:=by
 rcases Nat.lt_or_ge b W.heap.size with g | g
 . exact g
 . simp[World.cell?,Array.getElem?_eq_none g] at h
theorem QA(d:Int)(w:World)(hQ:Quarter w):Calls Tryz.prog 93 #[.int .i64 d] w fun e w'=>e=.returned (.tuple #[Bs (BL d) (BM d),.bool (Bc d 0 15)])/\Below w.heap.size w w':=by
 refine(callsIn_wide (n:=5)).1 ?_;have hf:Fence.wide.fn 100:=trivial;refine callsIn_of_wp_marks Tryz.func93 rfl trivial ?_ rfl;simp only[Tryz.ntmps93,List.size_toArray,List.length_cons,List.length_nil,Nat.reduceAdd,Nat.reduceSub,Array.replicate_succ,Array.replicate_zero,List.push_toArray,List.append_toArray,List.nil_append,List.cons_append]
 gi_wp2_with (gi_at_call 100; refine(callsIn_wide.2 (Qz _)).mono ?_; rintro e w' ⟨rfl,rfl⟩)
 have c0:=cell_new_l w (.int .i64 d) 3;have v0:VCell ((w.alloc (.cells #[.int .i64 d] 3)).alloc (.cells #[.int .i64 0,.int .i64 0] 24)) (w.heap.size+1) 0 0:=VCell.new _ _ _ _ _ (by simp);have c2:=cell_new_l ((w.alloc (.cells #[.int .i64 d] 3)).alloc (.cells #[.int .i64 0,.int .i64 0] 24)) (.bool false) 4;simp only[World.size_alloc] at c2;have hB0:Below w.heap.size w (((w.alloc (.cells #[.int .i64 d] 3)).alloc (.cells #[.int .i64 0,.int .i64 0] 24)).alloc (.cells #[.bool false] 4)):=Aa (Aa (Aa (Ac w) _) _) _;refine wpIn_rangeFunc_ownH rfl (by omega) (gf:=105) (lb:=#[]) rfl trivial (enters_of Tryz.func105 (by kernel_rfl) rfl)
  (Mt _ w.heap.size (by omega) _ hQ.lt (by simp; omega) (hQ.step hB0)) belowK_t (belowK_b (by simp; omega)) (Below.refl _ _) (fun _=>rfl)
  (fun pre W=>((∀ y∈pre,y≠d)/\W.cell? ⟨w.heap.size,0,none⟩=some (.int .i64 d)/\VCell W (w.heap.size+1) 0 0/\W.cell? ⟨w.heap.size+1+1,0,none⟩=some (.bool false)/\W.frozen? ⟨w.heap.size+1+1,0,none⟩=false)/\Below w.heap.size w W)
  (fun c pre W=>(c=.ret/\d∈pre/\VCell W (w.heap.size+1) (BL d) (BM d)/\W.cell? ⟨w.heap.size+1+1,0,none⟩=some (.bool true))/\Below w.heap.size w W)
  (OwnFrom.and (Own.from (fun s A B row hs hg hr=>⟨hs.1,cell_kept hs.2.1 hg hr,hs.2.2.1.kept hg hr,cell_kept hs.2.2.2.1 hg hr,(frozen_kept hs.2.2.2.1 hg hr).trans hs.2.2.2.2⟩) _) (ownFrom_below (Nat.le_refl _) (by simp; omega)))
  (fun c=>OwnFrom.and (Own.from (fun s A B row hs hg hr=>⟨hs.1,hs.2.1,hs.2.2.1.kept hg hr,cell_kept hs.2.2.2 hg hr⟩) _) (ownFrom_below (Nat.le_refl _) (by simp; omega)))
  ⟨⟨by simp,cell_alloc_l _ (cell_alloc_l _ c0.1),v0.alloc _,c2.1,c2.2⟩,hB0⟩
  (fun x a' W=>∃ Bx,w.heap.size+1+1<Bx/\VCell W Bx (BL x) (BM x)/\a'={ tmps:=#[.int .i64 d,.pointer (some ⟨w.heap.size,0,none⟩),.pointer (some ⟨w.heap.size+1,0,none⟩),.pointer (some ⟨w.heap.size+1+1,0,none⟩),.int .i64 x,.pointer (some ⟨Bx,0,none⟩),.func (.func 105) #[] #[],.int .i64 x,Bs (BL x) (BM x),undef,undef,undef,undef,undef],defers:=[] })
  (fun x a' _ A B row hs hg hr=>by
   obtain⟨Bx,h1,h2,h3⟩:=hs;exact⟨Bx,h1,h2.kept hg (fun r e=>(hr r e).2),h3⟩) ?assign ?body ?done ?stop
 case assign =>
  rintro l pre x W K ⟨⟨hne,hcd,hv,hcb,hfb⟩,hB⟩ hK;have hlt:w.heap.size+1+1<W.heap.size:=vcell_lt hcb
  gi_wp2
  exact hK _ _ ((KeepsOthers.alloc _ _).from _) ((Below.refl _ W).alloc hB.size _) ⟨⟨hne,cell_alloc_l _ hcd,hv.alloc _,cell_alloc_l _ hcb,IP _ hcb hfb⟩,Aa hB _⟩ ⟨W.heap.size,hlt,VCell.new _ _ _ _ _ rfl,rfl⟩
 case body =>
  rintro l pre x a' W hl ⟨r,hr⟩ ⟨⟨hne,hcd,hv,hcb,hfb⟩,hB⟩ ⟨Bx,hBx,hx,rfl⟩ hlt;have x0:=hx.c0;have x1:=hx.c1;have v0:=hv.c0;have v1:=hv.c1;have v2:=hv.f0;have v3:=hv.f1
  gi_wp2
  . rename_i hxd;obtain rfl:x=d:=eq_of_beq hxd;exact⟨(((KeepsOthers.setCell _ _ _).trans (KeepsOthers.setCell _ _ _)).trans (KeepsOthers.setCell _ _ _)).from _,⟨rfl,List.mem_append.2 (.inr (by simp)),(hv.set _ _).far (by omega) _ _,World.cell?_setCell_same' _ _ _ (by rw[World.cell?_setCell_far _ _ _ _ (by simp),World.cell?_setCell_far _ _ _ _ (by simp),hcb]; rfl)⟩,((hB.setCell (p:=⟨w.heap.size+1,0,none⟩) (by simp) _).setCell (p:=⟨w.heap.size+1,1,none⟩) (by simp) _).setCell (p:=⟨w.heap.size+1+1,0,none⟩) (by simp; omega) _⟩
  . rename_i hxd;exact⟨(KeepsOthers.refl _).from _,Below.refl _ _,⟨fun y hy=>(List.mem_append.1 hy).elim (hne y) (fun e e'=>by simp at e; subst e; subst e'; simp at hxd),hcd,hv,hcb,hfb⟩,hB⟩
 case done =>
  rintro D ys W hD rfl ⟨⟨hne,hcd,hv,hcb,hfb⟩,hB⟩ hK;have hno:Bc d 0 15=false:=CJ (fun h=>hne d (Qy h.1 (by omega)) rfl);have E:=hid (TO hno);have N:=hid hno;have v0:=hv.c0;have v1:=hv.c1;have v2:=hv.f0;have v3:=hv.f1;clear hno
  gi_wp2
  have hK':=(((KeepsOthers.setCell W ⟨w.heap.size+1,0,none⟩ (.int .i64 0)).trans (KeepsOthers.setCell _ ⟨w.heap.size+1,1,none⟩ (.int .i64 0))).trans (KeepsOthers.setCell _ ⟨w.heap.size+1+1,0,none⟩ (.bool false))).same D _ hK rfl;refine⟨by simp,.inl ⟨_,_,rfl,run_takeDeferred hK',?_⟩⟩;have V':=((hv.set 0 0).far (b':=w.heap.size+1+1) (by omega) 0 (.bool false)).kept (grownBy_putObj' _ D (.deferred none)) (fun r e=>by cases e; exact⟨_,hK',rfl⟩)
  have C':=cell_kept (World.cell?_setCell_same' ((W.setCell ⟨w.heap.size+1,0,none⟩ (.int .i64 0)).setCell ⟨w.heap.size+1,1,none⟩ (.int .i64 0)) ⟨w.heap.size+1+1,0,none⟩ (.bool false) (by rw[World.cell?_setCell_far _ _ _ _ (by simp),World.cell?_setCell_far _ _ _ _ (by simp),hcb]; rfl)) (grownBy_putObj' _ D (.deferred none)) (fun r e=>by cases e; exact⟨_,hK',rfl⟩);have v4:=V'.c0;have v5:=V'.c1
  refine⟨.tuple #[Bs 0 0,.bool false],?_,Cf (by rw[E.out.1]) (by rw[E.out.2]) (by rw[N.out]),(((hB.setCell (p:=⟨w.heap.size+1,0,none⟩) (by simp) _).setCell (p:=⟨w.heap.size+1,1,none⟩) (by simp) _).setCell (p:=⟨w.heap.size+1+1,0,none⟩) (by simp; omega) _).trans (belowK_b (w:=w) (Nat.le_refl _) _ D _ _ (by simp at hD; omega) hK' rfl rfl)⟩;simp[results,Tryz.f93,go_sem,v4,v5,C']
 case stop =>
  rintro D c pre W hD ⟨k,k0,k1,rfl⟩ ⟨⟨rfl,hin,hv,hcb⟩,hB⟩ hK;have hm:=Qx hin;have N:=hid (BR (n:=d) (lo:=0) (hi:=15) (by omega));have v0:=hv.c0;have v1:=hv.c1
  gi_wp2
  refine⟨by simp,.inl ⟨_,_,rfl,run_takeDeferred hK,?_⟩⟩;have V':=hv.kept (grownBy_putObj' _ D (.deferred none)) (fun r e=>by cases e; exact⟨_,hK,rfl⟩);have C':=cell_kept hcb (grownBy_putObj' _ D (.deferred none)) (fun r e=>by cases e; exact⟨_,hK,rfl⟩);have v4:=V'.c0;have v5:=V'.c1;refine⟨.tuple #[Bs (BL d) (BM d),.bool true],?_,Cf rfl rfl (by rw[N.out]),hB.trans (belowK_b (w:=w) (Nat.le_refl _) W D _ _ (by simp at hD; omega) hK rfl rfl)⟩;simp[results,Tryz.f93,go_sem,v4,v5,C']
end Go.Proofs.YtaemcekcancpdaaGreatDoor
