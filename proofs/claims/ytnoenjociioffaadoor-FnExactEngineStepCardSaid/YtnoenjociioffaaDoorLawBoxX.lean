/-
  The walks of the exact laws of chapter 3: at every argument the program answers as the model.
-/
import Derived.Test.YtnoenjociioffaaDoorBoxP
import Derived.Test.YtnoenjociioffaaDoorDrawBoxC
import Derived.Test.YtnoenjociioffaaDoorLawVecE
namespace Go.Proofs.YtnoenjociioffaaDoor
open Go.RowKit
open M

set_option maxHeartbeats 1000000 in
theorem toBox_any (p q s t : Int) (w : World) : Calls Tryd.prog 68 #[box p q s t] w fun e w' => e = .returned (box p q s t) ∧ Below w.heap.size w w' := by
  go_enter Tryd.func68, Tryd.ntmps68
  go_wp2_with fail
  refine (toVec_any _ _ _).mono ?_
  rintro e w1 ⟨rfl, B1⟩
  have P1 : BCell w1 w.heap.size p q s t := (((BCell.new w w.heap.size p q s t _ rfl).alloc _).alloc _).step B1
  have D1 : BCell w1 (w.heap.size + 1) 0 0 0 0 := ((BCell.new _ (w.heap.size + 1) 0 0 0 0 _ (by simp)).alloc _).step B1
  have O1 : BCell w1 (w.heap.size + 1 + 1) 0 0 0 0 := (BCell.new _ (w.heap.size + 1 + 1) 0 0 0 0 _ (by simp)).step B1
  have H1 := Lib.hid (bl_trans (bl_alloc (bl_alloc (bl_alloc (bl_refl w) _) _) _) B1)
  clear B1
  have pc0 := P1.c0
  have pc1 := P1.c1
  have pc2 := P1.c2
  have pc3 := P1.c3
  have pf0 := P1.f0
  have pf1 := P1.f1
  have pf2 := P1.f2
  have pf3 := P1.f3
  have pl := P1.lt
  have dc0 := D1.c0
  have dc1 := D1.c1
  have dc2 := D1.c2
  have dc3 := D1.c3
  have df0 := D1.f0
  have df1 := D1.f1
  have df2 := D1.f2
  have df3 := D1.f3
  have dl := D1.lt
  have oc0 := O1.c0
  have oc1 := O1.c1
  have oc2 := O1.c2
  have oc3 := O1.c3
  have of0 := O1.f0
  have of1 := O1.f1
  have of2 := O1.f2
  have of3 := O1.f3
  have ol := O1.lt
  go_wp2_with fail
  refine (toVec_any _ _ _).mono ?_
  rintro e w2 ⟨rfl, B2⟩
  have P2 := (P1.far2 (c := w.heap.size + 1 + 1) (by omega) (.int .i64 p) (.int .i64 q)).step B2
  have D2 := (D1.far2 (c := w.heap.size + 1 + 1) (by omega) (.int .i64 p) (.int .i64 q)).step B2
  have O2 := ((O1.set0 p).set1 q).step B2
  have H2 := Lib.hid (bl_trans (bl_set2 H1.out (b := w.heap.size + 1 + 1) (by omega) (.int .i64 p) (.int .i64 q)) B2)
  clear B2 H1 P1 D1 O1 pc0 pc1 pc2 pc3 pf0 pf1 pf2 pf3 pl dc0 dc1 dc2 dc3 df0 df1 df2 df3 dl oc0 oc1 oc2 oc3 of0 of1 of2 of3 ol
  have dc0 := D2.c0
  have dc1 := D2.c1
  have dc2 := D2.c2
  have dc3 := D2.c3
  have df0 := D2.f0
  have df1 := D2.f1
  have df2 := D2.f2
  have df3 := D2.f3
  have dl := D2.lt
  have oc0 := O2.c0
  have oc1 := O2.c1
  have oc2 := O2.c2
  have oc3 := O2.c3
  have of0 := O2.f0
  have of1 := O2.f1
  have of2 := O2.f2
  have of3 := O2.f3
  have ol := O2.lt
  go_wp2
  exact bodyPost_ret (v := box p q s t) (by simp [results, Tryd.results68, go_sem, dc0, dc1, dc2, dc3]) rfl ⟨rfl, by repeat (first | with_reducible exact H2.out | with_reducible refine bl_set ?_ _ _ _ (by omega) | with_reducible refine bl_alloc ?_ _)⟩

end Go.Proofs.YtnoenjociioffaaDoor
