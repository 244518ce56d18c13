/-
  The walks of the laws of sums and scaled vectors: each returns true at every code.
-/
import Derived.Test.YtmnojoddapdaoabVecAt
namespace Go.Proofs.Ytmnojoddapdaoab
open Go.RowKit
open M

set_option maxHeartbeats 1000000 in
theorem walk_FnVecZero (a : Option Addr) (len cap : Nat) (zs : List Int) (w : World) (h : IsRow .u8 w a len cap zs) :
    Calls Try.prog 4 #[.slice a len cap] w fun e w' => e = .returned (.bool true) ∧ Below w.heap.size w w' := by
  have hm := h.bytes.1
  have hm2 := h.bytes.2.1
  unfold maxLen at hm2
  by_cases g : 1048576 < len
  · have g1 : (1048576 : Int) < (len : Int) := by omega
    go_enter Try.func4, Try.ntmps4
    go_wp2
    go_ret
    exact ⟨rfl, Below.refl _ _⟩
  have g1 : (len : Int) ≤ 1048576 := by omega
  go_enter Try.func4, Try.ntmps4
  go_wp2_with fail
  refine (draw_vok a len cap zs w h).mono ?_
  rintro e w1 ⟨x, y, ⟨x1, x2⟩, ⟨y1, y2⟩, rfl, B1⟩
  have H1 := Lib.hid B1
  clear B1 h
  cases hv : vokB x y
  · have C1 := Lib.hid (show ∀ W : World, Calls Try.prog 17 #[vec x y] W (fun e w' => e = .returned (.bool false) ∧ Below W.heap.size W w') from fun W => by have t := implVecOk x y W; rw [hv] at t; exact t)
    go_wp2_with fail
    refine (C1.out _).mono ?_
    rintro e w2 ⟨rfl, B2⟩
    have H2 := Lib.hid (bl_trans (bl_alloc (H1.out) _) B2)
    have V1 : VecAt w2 (w1.heap.size) x y := (VecAt.new _ _ x y _ (by first | rfl | simp)).step B2
    clear B2 C1 H1
    have c1a := V1.c0
    have c1b := V1.c1
    have l1 := V1.lt
    have C2 := Lib.hid (show ∀ W : World, Calls Try.prog 18 #[vec x y] W (fun e w' => e = .returned (.bool false) ∧ Below W.heap.size W w') from fun W => by have t := specVecOk x y W; rw [hv] at t; exact t)
    go_wp2_with fail
    refine (C2.out _).mono ?_
    rintro e w3 ⟨rfl, B3⟩
    have H3 := Lib.hid (bl_trans (H2.out) B3)
    have V2 : VecAt w3 (w1.heap.size) x y := V1.step B3
    clear B3 C2 H2 V1 c1a c1b l1
    have c2a := V2.c0
    have c2b := V2.c1
    have l2 := V2.lt
    go_wp2
    all_goals
      go_ret
      first | exact ⟨rfl, (by repeat (first | exact H3.out | refine bl_alloc ?_ _ | refine bl_drew ?_ _))⟩ | exact ⟨ret_b (decide_eq_true (by omega)), (by repeat (first | exact H3.out | refine bl_alloc ?_ _ | refine bl_drew ?_ _))⟩ | exact ⟨ret_b (by simp; omega), (by repeat (first | exact H3.out | refine bl_alloc ?_ _ | refine bl_drew ?_ _))⟩
  obtain ⟨e1, e2, e3⟩ := va_zero hv
  obtain ⟨i1, i2⟩ := vl_zero
  have C1 := Lib.hid (show ∀ W : World, Calls Try.prog 17 #[vec x y] W (fun e w' => e = .returned (.bool true) ∧ Below W.heap.size W w') from fun W => by have t := implVecOk x y W; rw [hv] at t; exact t)
  go_wp2_with fail
  refine (C1.out _).mono ?_
  rintro e w2 ⟨rfl, B2⟩
  have H2 := Lib.hid (bl_trans (bl_alloc (H1.out) _) B2)
  have V1 : VecAt w2 (w1.heap.size) x y := (VecAt.new _ _ x y _ (by first | rfl | simp)).step B2
  clear B2 C1 H1
  have c1a := V1.c0
  have c1b := V1.c1
  have l1 := V1.lt
  have C2 := Lib.hid (show ∀ W : World, Calls Try.prog 18 #[vec x y] W (fun e w' => e = .returned (.bool true) ∧ Below W.heap.size W w') from fun W => by have t := specVecOk x y W; rw [hv] at t; exact t)
  go_wp2_with fail
  refine (C2.out _).mono ?_
  rintro e w3 ⟨rfl, B3⟩
  have H3 := Lib.hid (bl_trans (H2.out) B3)
  have V2 : VecAt w3 (w1.heap.size) x y := V1.step B3
  clear B3 C2 H2 V1 c1a c1b l1
  have c2a := V2.c0
  have c2b := V2.c1
  have l2 := V2.lt
  have C3 := Lib.hid (show ∀ W : World, Calls Try.prog 19 #[vec x y, vec 0 0] W (fun e w' => e = .returned (.tuple #[vec x y, .bool true]) ∧ Below W.heap.size W w') from fun W => by have t := implVAdd x y 0 0 W; rw [e1, e2, e3] at t; exact t)
  go_wp2_with fail
  refine (C3.out _).mono ?_
  rintro e w4 ⟨rfl, B4⟩
  have H4 := Lib.hid (bl_trans (H3.out) B4)
  have V3 : VecAt w4 (w1.heap.size) x y := V2.step B4
  clear B4 C3 H3 V2 c2a c2b l2
  have c3a := V3.c0
  have c3b := V3.c1
  have l3 := V3.lt
  have C4 := Lib.hid (show ∀ W : World, Calls Try.prog 20 #[vec 0 0] W (fun e w' => e = .returned (.tuple #[.int .i64 0, .bool true]) ∧ Below W.heap.size W w') from fun W => by have t := implVLen 0 0 W; rw [i1, i2] at t; exact t)
  go_wp2_with fail
  refine (C4.out _).mono ?_
  rintro e w5 ⟨rfl, B5⟩
  have H5 := Lib.hid (bl_trans (bl_alloc (H4.out) _) B5)
  have V4 : VecAt w5 (w1.heap.size) x y := (V3.alloc _).step B5
  have V5 : VecAt w5 (w4.heap.size) x y := (VecAt.new _ _ x y _ (by first | rfl | simp)).step B5
  clear B5 C4 H4 V3 c3a c3b l3
  have c4a := V4.c0
  have c4b := V4.c1
  have l4 := V4.lt
  have c5a := V5.c0
  have c5b := V5.c1
  have l5 := V5.lt
  go_wp2
  all_goals
    go_ret
    first | exact ⟨rfl, (by repeat (first | exact H5.out | refine bl_alloc ?_ _ | refine bl_drew ?_ _))⟩ | exact ⟨ret_b (decide_eq_true (by omega)), (by repeat (first | exact H5.out | refine bl_alloc ?_ _ | refine bl_drew ?_ _))⟩ | exact ⟨ret_b (by simp; omega), (by repeat (first | exact H5.out | refine bl_alloc ?_ _ | refine bl_drew ?_ _))⟩

end Go.Proofs.Ytmnojoddapdaoab
