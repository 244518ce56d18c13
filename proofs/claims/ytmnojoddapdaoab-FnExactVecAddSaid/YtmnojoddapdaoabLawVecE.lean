/-
  The walks of the exact laws of chapter 2: at every argument the program answers as the model.
-/
import Derived.Test.YtmnojoddapdaoabVecAt
import Derived.Deep.DeepCutAuto
namespace Go.Proofs.Ytmnojoddapdaoab
open Go.RowKit
open M

theorem VecAt.drew {W : World} {b : Nat} {x y : Int} (h : VecAt W b x y) : VecAt W.drew b x y := ⟨h.c0, h.c1, h.lt⟩
theorem VecAt.keep {W w' : World} {b : Nat} {x y : Int} (h : VecAt W b x y) (B : Below W.drew.heap.size W.drew w') : VecAt w' b x y := h.drew.step B
theorem bl_keep {w W w' : World} (h : Below w.heap.size w W) (B : Below W.drew.heap.size W.drew w') : Below w.heap.size w w' := bl_trans h.drew B
theorem toVec_any (x y : Int) (w : World) : Calls Try.prog 24 #[vec x y] w fun e w' => e = .returned (vec x y) ∧ Below w.heap.size w w' := by
  go_enter Try.func24, Try.ntmps24
  go_wp2
  exact bodyPost_ret (v := vec x y) (by simp [results, Try.results24, go_sem]) rfl ⟨rfl, (by repeat (first | exact bl_refl _ | assumption | refine bl_alloc ?_ _ | refine bl_drew ?_ _ | refine bl_set ?_ _ _ _ (by omega)))⟩
theorem eqVec_same (x y : Int) (w : World) : Calls Try.prog 26 #[vec x y, vec x y] w fun e w' => e = .returned (.bool true) ∧ Below w.heap.size w w' := by
  go_enter Try.func26, Try.ntmps26
  go_wp2
  go_ret
  exact ⟨rfl, (by repeat (first | exact bl_refl _ | assumption | refine bl_alloc ?_ _ | refine bl_drew ?_ _ | refine bl_set ?_ _ _ _ (by omega)))⟩

set_option maxHeartbeats 1000000 in
theorem walk_FnExactVecOk (x y : Int) (w : World) : Calls Try.prog 7 #[vec x y] w fun e w' => e = .returned (.bool true) ∧ Below w.heap.size w w' := by
  go_enter Try.func7, Try.ntmps7
  go_wp2_with fail
  refine (toVec_any _ _ _).mono ?_
  rintro e w1 ⟨rfl, B1⟩
  have H1 := Lib.hid (bl_trans (bl_alloc (bl_refl w) _) B1)
  have V1 : VecAt w1 (w.heap.size) x y := (VecAt.new _ _ x y _ (by first | rfl | simp)).step B1
  clear B1
  have c1a := V1.c0
  have c1b := V1.c1
  have l1 := V1.lt
  go_wp2_with fail
  refine (specVecOk _ _ _).mono ?_
  rintro e w2 ⟨rfl, B2⟩
  have H2 := Lib.hid (bl_trans (H1.out) B2)
  have V2 : VecAt w2 (w.heap.size) x y := V1.step B2
  clear B2 H1 V1 c1a c1b l1
  have c2a := V2.c0
  have c2b := V2.c1
  have l2 := V2.lt
  go_wp2_with fail
  refine (toVec_any _ _ _).mono ?_
  rintro e w3 ⟨rfl, B3⟩
  have H3 := Lib.hid (bl_trans (H2.out) B3)
  have V3 : VecAt w3 (w.heap.size) x y := V2.step B3
  clear B3 H2 V2 c2a c2b l2
  have c3a := V3.c0
  have c3b := V3.c1
  have l3 := V3.lt
  go_wp2_with fail
  refine (implVecOk _ _ _).mono ?_
  rintro e w4 ⟨rfl, B4⟩
  have H4 := Lib.hid (bl_trans (H3.out) B4)
  have V4 : VecAt w4 (w.heap.size) x y := V3.step B4
  clear B4 H3 V3 c3a c3b l3
  have c4a := V4.c0
  have c4b := V4.c1
  have l4 := V4.lt
  go_wp2
  go_ret
  exact ⟨rfl, (by repeat (first | exact H4.out | refine bl_alloc ?_ _ | refine bl_drew ?_ _))⟩

set_option maxHeartbeats 1000000 in
theorem walk_FnExactVecLength (x y : Int) (w : World) : Calls Try.prog 11 #[vec x y] w fun e w' => e = .returned (.bool true) ∧ Below w.heap.size w w' := by
  go_enter Try.func11, Try.ntmps11
  go_wp2_with fail
  refine (toVec_any _ _ _).mono ?_
  rintro e w1 ⟨rfl, B1⟩
  have H1 := Lib.hid (bl_trans (bl_alloc (bl_refl w) _) B1)
  have V1 : VecAt w1 (w.heap.size) x y := (VecAt.new _ _ x y _ (by first | rfl | simp)).step B1
  clear B1
  have c1a := V1.c0
  have c1b := V1.c1
  have l1 := V1.lt
  go_wp2_with fail
  refine (specVLen _ _ _).mono ?_
  rintro e w2 ⟨rfl, B2⟩
  have H2 := Lib.hid (bl_trans (H1.out) B2)
  have V2 : VecAt w2 (w.heap.size) x y := V1.step B2
  clear B2 H1 V1 c1a c1b l1
  have c2a := V2.c0
  have c2b := V2.c1
  have l2 := V2.lt
  go_wp2_with fail
  refine (toVec_any _ _ _).mono ?_
  rintro e w3 ⟨rfl, B3⟩
  have H3 := Lib.hid (bl_trans (H2.out) B3)
  have V3 : VecAt w3 (w.heap.size) x y := V2.step B3
  clear B3 H2 V2 c2a c2b l2
  have c3a := V3.c0
  have c3b := V3.c1
  have l3 := V3.lt
  go_wp2_with fail
  refine (implVLen _ _ _).mono ?_
  rintro e w4 ⟨rfl, B4⟩
  have H4 := Lib.hid (bl_trans (H3.out) B4)
  have V4 : VecAt w4 (w.heap.size) x y := V3.step B4
  clear B4 H3 V3 c3a c3b l3
  have c4a := V4.c0
  have c4b := V4.c1
  have l4 := V4.lt
  go_wp2
  go_ret
  exact ⟨rfl, (by repeat (first | exact H4.out | refine bl_alloc ?_ _ | refine bl_drew ?_ _))⟩

set_option maxHeartbeats 1000000 in
theorem walk_FnExactVecScale (x y k : Int) (w : World) : Calls Try.prog 9 #[vec x y, .int .i64 k] w fun e w' => e = .returned (.bool true) ∧ Below w.heap.size w w' := by
  go_enter Try.func9, Try.ntmps9
  go_wp2_with fail
  refine (toVec_any _ _ _).mono ?_
  rintro e w1 ⟨rfl, B1⟩
  have H1 := Lib.hid (bl_trans (bl_alloc (bl_refl w) _) B1)
  have V1 : VecAt w1 (w.heap.size) x y := (VecAt.new _ _ x y _ (by first | rfl | simp)).step B1
  clear B1
  have c1a := V1.c0
  have c1b := V1.c1
  have l1 := V1.lt
  go_wp2_with fail
  refine (specVScale _ _ _ _).mono ?_
  rintro e w2 ⟨rfl, B2⟩
  have H2 := Lib.hid (bl_trans (H1.out) B2)
  have V2 : VecAt w2 (w.heap.size) x y := V1.step B2
  clear B2 H1 V1 c1a c1b l1
  have c2a := V2.c0
  have c2b := V2.c1
  have l2 := V2.lt
  go_wp2_with fail
  refine (toVec_any _ _ _).mono ?_
  rintro e w3 ⟨rfl, B3⟩
  have H3 := Lib.hid (bl_trans (bl_alloc (H2.out) _) B3)
  have V3 : VecAt w3 (w.heap.size) x y := (V2.alloc _).step B3
  have V4 : VecAt w3 (w2.heap.size) (vsX x y k) (vsY x y k) := (VecAt.new _ _ (vsX x y k) (vsY x y k) _ (by first | rfl | simp)).step B3
  clear B3 H2 V2 c2a c2b l2
  have c3a := V3.c0
  have c3b := V3.c1
  have l3 := V3.lt
  have c4a := V4.c0
  have c4b := V4.c1
  have l4 := V4.lt
  go_wp2_with fail
  refine (implVScale _ _ _ _).mono ?_
  rintro e w4 ⟨rfl, B4⟩
  have H4 := Lib.hid (bl_trans (H3.out) B4)
  have V5 : VecAt w4 (w.heap.size) x y := V3.step B4
  have V6 : VecAt w4 (w2.heap.size) (vsX x y k) (vsY x y k) := V4.step B4
  clear B4 H3 V3 c3a c3b l3 V4 c4a c4b l4
  have c5a := V5.c0
  have c5b := V5.c1
  have l5 := V5.lt
  have c6a := V6.c0
  have c6b := V6.c1
  have l6 := V6.lt
  go_wp2_with fail
  refine (eqVec_same _ _ _).mono ?_
  rintro e w5 ⟨rfl, B5⟩
  have H5 := Lib.hid (bl_trans (bl_alloc (H4.out) _) B5)
  have V7 : VecAt w5 (w.heap.size) x y := (V5.alloc _).step B5
  have V8 : VecAt w5 (w2.heap.size) (vsX x y k) (vsY x y k) := (V6.alloc _).step B5
  have V9 : VecAt w5 (w4.heap.size) (vsX x y k) (vsY x y k) := (VecAt.new _ _ (vsX x y k) (vsY x y k) _ (by first | rfl | simp)).step B5
  clear B5 H4 V5 c5a c5b l5 V6 c6a c6b l6
  have c7a := V7.c0
  have c7b := V7.c1
  have l7 := V7.lt
  have c8a := V8.c0
  have c8b := V8.c1
  have l8 := V8.lt
  have c9a := V9.c0
  have c9b := V9.c1
  have l9 := V9.lt
  go_wp2
  go_ret
  exact ⟨rfl, (by repeat (first | exact H5.out | refine bl_alloc ?_ _ | refine bl_drew ?_ _))⟩

set_option maxHeartbeats 1000000 in
theorem walk_FnExactVecClamp (x y k : Int) (w : World) : Calls Try.prog 12 #[vec x y, .int .i64 k] w fun e w' => e = .returned (.bool true) ∧ Below w.heap.size w w' := by
  go_enter Try.func12, Try.ntmps12
  go_wp2_with fail
  refine (toVec_any _ _ _).mono ?_
  rintro e w1 ⟨rfl, B1⟩
  have H1 := Lib.hid (bl_trans (bl_alloc (bl_refl w) _) B1)
  have V1 : VecAt w1 (w.heap.size) x y := (VecAt.new _ _ x y _ (by first | rfl | simp)).step B1
  clear B1
  have c1a := V1.c0
  have c1b := V1.c1
  have l1 := V1.lt
  go_wp2_with fail
  refine (specVClamp _ _ _ _).mono ?_
  rintro e w2 ⟨rfl, B2⟩
  have H2 := Lib.hid (bl_trans (H1.out) B2)
  have V2 : VecAt w2 (w.heap.size) x y := V1.step B2
  clear B2 H1 V1 c1a c1b l1
  have c2a := V2.c0
  have c2b := V2.c1
  have l2 := V2.lt
  go_wp2_with fail
  refine (toVec_any _ _ _).mono ?_
  rintro e w3 ⟨rfl, B3⟩
  have H3 := Lib.hid (bl_trans (bl_alloc (H2.out) _) B3)
  have V3 : VecAt w3 (w.heap.size) x y := (V2.alloc _).step B3
  have V4 : VecAt w3 (w2.heap.size) (cpX x y k) (cpY x y k) := (VecAt.new _ _ (cpX x y k) (cpY x y k) _ (by first | rfl | simp)).step B3
  clear B3 H2 V2 c2a c2b l2
  have c3a := V3.c0
  have c3b := V3.c1
  have l3 := V3.lt
  have c4a := V4.c0
  have c4b := V4.c1
  have l4 := V4.lt
  go_wp2_with fail
  refine (implVClamp _ _ _ _).mono ?_
  rintro e w4 ⟨rfl, B4⟩
  have H4 := Lib.hid (bl_trans (H3.out) B4)
  have V5 : VecAt w4 (w.heap.size) x y := V3.step B4
  have V6 : VecAt w4 (w2.heap.size) (cpX x y k) (cpY x y k) := V4.step B4
  clear B4 H3 V3 c3a c3b l3 V4 c4a c4b l4
  have c5a := V5.c0
  have c5b := V5.c1
  have l5 := V5.lt
  have c6a := V6.c0
  have c6b := V6.c1
  have l6 := V6.lt
  go_wp2_with fail
  refine (eqVec_same _ _ _).mono ?_
  rintro e w5 ⟨rfl, B5⟩
  have H5 := Lib.hid (bl_trans (bl_alloc (H4.out) _) B5)
  have V7 : VecAt w5 (w.heap.size) x y := (V5.alloc _).step B5
  have V8 : VecAt w5 (w2.heap.size) (cpX x y k) (cpY x y k) := (V6.alloc _).step B5
  have V9 : VecAt w5 (w4.heap.size) (cpX x y k) (cpY x y k) := (VecAt.new _ _ (cpX x y k) (cpY x y k) _ (by first | rfl | simp)).step B5
  clear B5 H4 V5 c5a c5b l5 V6 c6a c6b l6
  have c7a := V7.c0
  have c7b := V7.c1
  have l7 := V7.lt
  have c8a := V8.c0
  have c8b := V8.c1
  have l8 := V8.lt
  have c9a := V9.c0
  have c9b := V9.c1
  have l9 := V9.lt
  go_wp2
  go_ret
  exact ⟨rfl, (by repeat (first | exact H5.out | refine bl_alloc ?_ _ | refine bl_drew ?_ _))⟩

end Go.Proofs.Ytmnojoddapdaoab
