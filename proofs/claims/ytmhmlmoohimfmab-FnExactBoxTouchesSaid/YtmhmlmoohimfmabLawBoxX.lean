/-
  The walks of the exact laws of chapter 3: at every argument the program answers as the model.
-/
import Derived.Test.YtmhmlmoohimfmabBoxImpl
import Derived.Test.YtmhmlmoohimfmabDrawBoxC
import Derived.Test.YtmhmlmoohimfmabLawVecE
namespace Go.Proofs.Ytmhmlmoohimfmab
open Go.RowKit
open M

set_option maxHeartbeats 1000000 in
theorem toBox_any (p q s t : Int) (w : World) : Calls Try.prog 17 #[box p q s t] w fun e w' => e = .returned (box p q s t) ∧ Below w.heap.size w w' := by
  go_enter Try.func17, Try.ntmps17
  go_wp2_with fail
  refine (toVec_any _ _ _).mono ?_
  rintro e w1 ⟨rfl, B1⟩
  have P1 : BCell w1 w.heap.size p q s t := (((BCell.new w w.heap.size p q s t _ rfl).alloc _).alloc _).step B1
  have D1 : BCell w1 (w.heap.size + 1) 0 0 0 0 := ((BCell.new _ (w.heap.size + 1) 0 0 0 0 _ (by simp)).alloc _).step B1
  have O1 : BCell w1 (w.heap.size + 1 + 1) 0 0 0 0 := (BCell.new _ (w.heap.size + 1 + 1) 0 0 0 0 _ (by simp)).step B1
  have H1 := Lib.hid (bl_trans (bl_alloc (bl_alloc (bl_alloc (bl_refl w) _) _) _) B1)
  clear B1
  have pc0 := P1.c0
  have pc1 := P1.c1
  have pc2 := P1.c2
  have pc3 := P1.c3
  have pf0 := P1.f0
  have pf1 := P1.f1
  have pf2 := P1.f2
  have pf3 := P1.f3
  have pl := P1.lt
  have dc0 := D1.c0
  have dc1 := D1.c1
  have dc2 := D1.c2
  have dc3 := D1.c3
  have df0 := D1.f0
  have df1 := D1.f1
  have df2 := D1.f2
  have df3 := D1.f3
  have dl := D1.lt
  have oc0 := O1.c0
  have oc1 := O1.c1
  have oc2 := O1.c2
  have oc3 := O1.c3
  have of0 := O1.f0
  have of1 := O1.f1
  have of2 := O1.f2
  have of3 := O1.f3
  have ol := O1.lt
  go_wp2_with fail
  refine (toVec_any _ _ _).mono ?_
  rintro e w2 ⟨rfl, B2⟩
  have P2 := (P1.far2 (c := w.heap.size + 1 + 1) (by omega) (.int .i64 p) (.int .i64 q)).step B2
  have D2 := (D1.far2 (c := w.heap.size + 1 + 1) (by omega) (.int .i64 p) (.int .i64 q)).step B2
  have O2 := ((O1.set0 p).set1 q).step B2
  have H2 := Lib.hid (bl_trans (bl_set2 H1.out (b := w.heap.size + 1 + 1) (by omega) (.int .i64 p) (.int .i64 q)) B2)
  clear B2 H1 P1 D1 O1 pc0 pc1 pc2 pc3 pf0 pf1 pf2 pf3 pl dc0 dc1 dc2 dc3 df0 df1 df2 df3 dl oc0 oc1 oc2 oc3 of0 of1 of2 of3 ol
  have dc0 := D2.c0
  have dc1 := D2.c1
  have dc2 := D2.c2
  have dc3 := D2.c3
  have df0 := D2.f0
  have df1 := D2.f1
  have df2 := D2.f2
  have df3 := D2.f3
  have dl := D2.lt
  have oc0 := O2.c0
  have oc1 := O2.c1
  have oc2 := O2.c2
  have oc3 := O2.c3
  have of0 := O2.f0
  have of1 := O2.f1
  have of2 := O2.f2
  have of3 := O2.f3
  have ol := O2.lt
  go_wp2
  exact bodyPost_ret (v := box p q s t) (by simp [results, Try.results17, go_sem, dc0, dc1, dc2, dc3]) rfl ⟨rfl, by repeat (first | with_reducible exact H2.out | with_reducible refine bl_set ?_ _ _ _ (by omega) | with_reducible refine bl_alloc ?_ _)⟩

set_option maxHeartbeats 4000000 in
theorem walk_FnExactBoxTouches (p q s t x y r : Int) (w : World) : Calls Try.prog 6 #[box p q s t, vec x y, .int .i64 r] w fun e w' => e = .returned (.bool true) ∧ Below w.heap.size w w' := by
  have O0 : BCell ((w.alloc (.cells #[.int .i64 p, .int .i64 q, .int .i64 s, .int .i64 t] 42)).alloc (.cells #[.int .i64 x, .int .i64 y] 40)) (w.heap.size) p q s t := ((BCell.new w (w.heap.size) p q s t 42 (by first | rfl | simp)).alloc _)
  have O1 : PCell ((w.alloc (.cells #[.int .i64 p, .int .i64 q, .int .i64 s, .int .i64 t] 42)).alloc (.cells #[.int .i64 x, .int .i64 y] 40)) (w.heap.size + 1) x y := (PCell.new (w.alloc (.cells #[.int .i64 p, .int .i64 q, .int .i64 s, .int .i64 t] 42)) (w.heap.size + 1) x y 40 (by first | rfl | simp))
  have Hb := Lib.hid (show Below w.heap.size w ((w.alloc (.cells #[.int .i64 p, .int .i64 q, .int .i64 s, .int .i64 t] 42)).alloc (.cells #[.int .i64 x, .int .i64 y] 40)) from bl_alloc (bl_alloc (bl_refl w) _) _)
  go_enter Try.func6, Try.ntmps6
  go_wp2_with fail
  have C1 := Lib.hid (show ∀ W : World, Calls Try.prog 17 #[box p q s t] W (fun e w' => e = .returned (box p q s t) ∧ Below W.heap.size W w') from fun W => toBox_any p q s t W)
  have C2 := Lib.hid (show ∀ W : World, Calls Try.prog 18 #[vec x y] W (fun e w' => e = .returned (vec x y) ∧ Below W.heap.size W w') from fun W => toVec_any x y W)
  have C3 := Lib.hid (show ∀ W : World, Calls Try.prog 9 #[box p q s t, vec x y, .int .i64 r] W (fun e w' => e = .returned (.bool (tcB p q s t x y r)) ∧ Below W.heap.size W w') from fun W => specBTouch p q s t x y r W)
  go_region_held3 (fun w' => (w'.cell? ⟨w.heap.size, 0, none⟩ = some (.int .i64 p) ∧ w'.cell? ⟨w.heap.size, 1, none⟩ = some (.int .i64 q) ∧ w'.cell? ⟨w.heap.size, 2, none⟩ = some (.int .i64 s) ∧ w'.cell? ⟨w.heap.size, 3, none⟩ = some (.int .i64 t)) ∧ (w'.cell? ⟨w.heap.size + 1, 0, none⟩ = some (.int .i64 x) ∧ w'.cell? ⟨w.heap.size + 1, 1, none⟩ = some (.int .i64 y)))
    (exact ⟨bc_all (by repeat (first | with_reducible exact O0 | with_reducible refine BCell.alloc ?_ _ | with_reducible refine BCell.drew ?_)), pc_both (by repeat (first | with_reducible exact O1 | with_reducible refine PCell.alloc ?_ _ | with_reducible refine PCell.drew ?_))⟩)
    (first | (go_at_call 17; with_reducible refine (C1.out _).mono ?_; rintro e wn ⟨rfl, Bn⟩; have O0 := BCell.step (by first | with_reducible exact O0 | with_reducible exact O0.drew) Bn; have O1 := PCell.step (by first | with_reducible exact O1 | with_reducible exact O1.drew) Bn; have Hb := Lib.hid (bl_trans (by first | with_reducible exact Hb.out | with_reducible exact bl_drew1 Hb.out) Bn); clear Bn) | (go_at_call 18; with_reducible refine (C2.out _).mono ?_; rintro e wn ⟨rfl, Bn⟩; have O0 := BCell.step (by first | with_reducible exact O0 | with_reducible exact O0.drew) Bn; have O1 := PCell.step (by first | with_reducible exact O1 | with_reducible exact O1.drew) Bn; have Hb := Lib.hid (bl_trans (by first | with_reducible exact Hb.out | with_reducible exact bl_drew1 Hb.out) Bn); clear Bn) | (go_at_call 9; with_reducible refine (C3.out _).mono ?_; rintro e wn ⟨rfl, Bn⟩; have O0 := BCell.step (by first | with_reducible exact O0 | with_reducible exact O0.drew) Bn; have O1 := PCell.step (by first | with_reducible exact O1 | with_reducible exact O1.drew) Bn; have Hb := Lib.hid (bl_trans (by first | with_reducible exact Hb.out | with_reducible exact bl_drew1 Hb.out) Bn); clear Bn))
  go_wp2_with fail
  have C4 := Lib.hid (show ∀ W : World, Calls Try.prog 17 #[box p q s t] W (fun e w' => e = .returned (box p q s t) ∧ Below W.heap.size W w') from fun W => toBox_any p q s t W)
  have C5 := Lib.hid (show ∀ W : World, Calls Try.prog 18 #[vec x y] W (fun e w' => e = .returned (vec x y) ∧ Below W.heap.size W w') from fun W => toVec_any x y W)
  have C6 := Lib.hid (show ∀ W : World, Calls Try.prog 8 #[box p q s t, vec x y, .int .i64 r] W (fun e w' => e = .returned (.bool (tcB p q s t x y r)) ∧ Below W.heap.size W w') from fun W => implBTouch p q s t x y r W)
  go_region_held3 (fun w' => (w'.cell? ⟨w.heap.size, 0, none⟩ = some (.int .i64 p) ∧ w'.cell? ⟨w.heap.size, 1, none⟩ = some (.int .i64 q) ∧ w'.cell? ⟨w.heap.size, 2, none⟩ = some (.int .i64 s) ∧ w'.cell? ⟨w.heap.size, 3, none⟩ = some (.int .i64 t)) ∧ (w'.cell? ⟨w.heap.size + 1, 0, none⟩ = some (.int .i64 x) ∧ w'.cell? ⟨w.heap.size + 1, 1, none⟩ = some (.int .i64 y)))
    (exact ⟨bc_all (by repeat (first | with_reducible exact O0 | with_reducible refine BCell.alloc ?_ _ | with_reducible refine BCell.drew ?_)), pc_both (by repeat (first | with_reducible exact O1 | with_reducible refine PCell.alloc ?_ _ | with_reducible refine PCell.drew ?_))⟩)
    (first | (go_at_call 17; with_reducible refine (C4.out _).mono ?_; rintro e wn ⟨rfl, Bn⟩; have O0 := BCell.step (by first | with_reducible exact O0 | with_reducible exact O0.drew) Bn; have O1 := PCell.step (by first | with_reducible exact O1 | with_reducible exact O1.drew) Bn; have Hb := Lib.hid (bl_trans (by first | with_reducible exact Hb.out | with_reducible exact bl_drew1 Hb.out) Bn); clear Bn) | (go_at_call 18; with_reducible refine (C5.out _).mono ?_; rintro e wn ⟨rfl, Bn⟩; have O0 := BCell.step (by first | with_reducible exact O0 | with_reducible exact O0.drew) Bn; have O1 := PCell.step (by first | with_reducible exact O1 | with_reducible exact O1.drew) Bn; have Hb := Lib.hid (bl_trans (by first | with_reducible exact Hb.out | with_reducible exact bl_drew1 Hb.out) Bn); clear Bn) | (go_at_call 8; with_reducible refine (C6.out _).mono ?_; rintro e wn ⟨rfl, Bn⟩; have O0 := BCell.step (by first | with_reducible exact O0 | with_reducible exact O0.drew) Bn; have O1 := PCell.step (by first | with_reducible exact O1 | with_reducible exact O1.drew) Bn; have Hb := Lib.hid (bl_trans (by first | with_reducible exact Hb.out | with_reducible exact bl_drew1 Hb.out) Bn); clear Bn))
  all_goals
    go_wp2
    go_ret
    first | exact ⟨rfl, (by repeat (first | with_reducible exact Hb.out | with_reducible refine bl_alloc ?_ _ | with_reducible refine bl_drew1 ?_))⟩ | exact ⟨ret_b (decide_eq_true (by omega)), (by repeat (first | with_reducible exact Hb.out | with_reducible refine bl_alloc ?_ _ | with_reducible refine bl_drew1 ?_))⟩ | exact ⟨ret_b (by simp; omega), (by repeat (first | with_reducible exact Hb.out | with_reducible refine bl_alloc ?_ _ | with_reducible refine bl_drew1 ?_))⟩

end Go.Proofs.Ytmhmlmoohimfmab
