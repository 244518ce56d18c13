/-
  The walks of the laws of scalar products and lengths: each returns true at every code.
-/
import Derived.Test.YtmnojoddapdaoabVecAt
namespace Go.Proofs.Ytmnojoddapdaoab
open Go.RowKit
open M

set_option maxHeartbeats 1000000 in
theorem walk_FnDotRight (a : Option Addr) (len cap : Nat) (zs : List Int) (w : World) (h : IsRow .u8 w a len cap zs) :
    Calls Try.prog 5 #[.slice a len cap] w fun e w' => e = .returned (.bool true) ∧ Below w.heap.size w w' := by
  have hm := h.bytes.1
  have hm2 := h.bytes.2.1
  unfold maxLen at hm2
  by_cases g : 1048576 < len
  · have g1 : (1048576 : Int) < (len : Int) := by omega
    go_enter Try.func5, Try.ntmps5
    go_wp2
    go_ret
    exact ⟨rfl, Below.refl _ _⟩
  have g1 : (len : Int) ≤ 1048576 := by omega
  go_enter Try.func5, Try.ntmps5
  go_wp2_with fail
  refine (draw_vlen a len cap zs w h).mono ?_
  rintro e w1 ⟨x, y, ⟨x1, x2⟩, ⟨y1, y2⟩, rfl, B1⟩
  have H1 := Lib.hid B1
  clear B1 h
  cases hv : vokB x y
  · have C1 := Lib.hid (show ∀ W : World, Calls Try.prog 20 #[vec x y] W (fun e w' => e = .returned (.tuple #[.int .i64 (vlI x y), .bool false]) ∧ Below W.heap.size W w') from fun W => by have t := implVLen x y W; rw [hv] at t; exact t)
    go_wp2_with fail
    refine (C1.out _).mono ?_
    rintro e w2 ⟨rfl, B2⟩
    have H2 := Lib.hid (bl_trans (bl_alloc (H1.out) _) B2)
    have V1 : VecAt w2 (w1.heap.size) x y := (VecAt.new _ _ x y _ (by first | rfl | simp)).step B2
    clear B2 C1 H1
    have c1a := V1.c0
    have c1b := V1.c1
    have l1 := V1.lt
    have C2 := Lib.hid (show ∀ W : World, Calls Try.prog 22 #[vec x y] W (fun e w' => e = .returned (.tuple #[.int .i64 (vlI x y), .bool false]) ∧ Below W.heap.size W w') from fun W => by have t := specVLen x y W; rw [hv] at t; exact t)
    go_wp2_with fail
    refine (C2.out _).mono ?_
    rintro e w3 ⟨rfl, B3⟩
    have H3 := Lib.hid (bl_trans (H2.out) B3)
    have V2 : VecAt w3 (w1.heap.size) x y := V1.step B3
    clear B3 C2 H2 V1 c1a c1b l1
    have c2a := V2.c0
    have c2b := V2.c1
    have l2 := V2.lt
    go_wp2
    all_goals
      go_ret
      first | exact ⟨rfl, (by repeat (first | exact H3.out | refine bl_alloc ?_ _ | refine bl_drew ?_ _))⟩ | exact ⟨ret_b (decide_eq_true (by omega)), (by repeat (first | exact H3.out | refine bl_alloc ?_ _ | refine bl_drew ?_ _))⟩ | exact ⟨ret_b (by simp; omega), (by repeat (first | exact H3.out | refine bl_alloc ?_ _ | refine bl_drew ?_ _))⟩
  obtain ⟨f1, f2⟩ := vd_right hv
  have C1 := Lib.hid (show ∀ W : World, Calls Try.prog 20 #[vec x y] W (fun e w' => e = .returned (.tuple #[.int .i64 (vlI x y), .bool true]) ∧ Below W.heap.size W w') from fun W => by have t := implVLen x y W; rw [hv] at t; exact t)
  go_wp2_with fail
  refine (C1.out _).mono ?_
  rintro e w2 ⟨rfl, B2⟩
  have H2 := Lib.hid (bl_trans (bl_alloc (H1.out) _) B2)
  have V1 : VecAt w2 (w1.heap.size) x y := (VecAt.new _ _ x y _ (by first | rfl | simp)).step B2
  clear B2 C1 H1
  have c1a := V1.c0
  have c1b := V1.c1
  have l1 := V1.lt
  have C2 := Lib.hid (show ∀ W : World, Calls Try.prog 22 #[vec x y] W (fun e w' => e = .returned (.tuple #[.int .i64 (vlI x y), .bool true]) ∧ Below W.heap.size W w') from fun W => by have t := specVLen x y W; rw [hv] at t; exact t)
  go_wp2_with fail
  refine (C2.out _).mono ?_
  rintro e w3 ⟨rfl, B3⟩
  have H3 := Lib.hid (bl_trans (H2.out) B3)
  have V2 : VecAt w3 (w1.heap.size) x y := V1.step B3
  clear B3 C2 H2 V1 c1a c1b l1
  have c2a := V2.c0
  have c2b := V2.c1
  have l2 := V2.lt
  have C3 := Lib.hid (show ∀ W : World, Calls Try.prog 23 #[vec x y, vec (-y) (x)] W (fun e w' => e = .returned (.tuple #[.int .i64 0, .bool true]) ∧ Below W.heap.size W w') from fun W => by have t := implVDot x y (-y) x W; rw [f1, f2] at t; exact t)
  go_wp2_with fail
  refine (C3.out _).mono ?_
  rintro e w4 ⟨rfl, B4⟩
  have H4 := Lib.hid (bl_trans (H3.out) B4)
  have V3 : VecAt w4 (w1.heap.size) x y := V2.step B4
  clear B4 C3 H3 V2 c2a c2b l2
  have c3a := V3.c0
  have c3b := V3.c1
  have l3 := V3.lt
  go_wp2
  all_goals
    go_ret
    first | exact ⟨rfl, (by repeat (first | exact H4.out | refine bl_alloc ?_ _ | refine bl_drew ?_ _))⟩ | exact ⟨ret_b (decide_eq_true (by omega)), (by repeat (first | exact H4.out | refine bl_alloc ?_ _ | refine bl_drew ?_ _))⟩ | exact ⟨ret_b (by simp; omega), (by repeat (first | exact H4.out | refine bl_alloc ?_ _ | refine bl_drew ?_ _))⟩

set_option maxHeartbeats 1000000 in
theorem walk_FnLengthSide (a : Option Addr) (len cap : Nat) (zs : List Int) (w : World) (h : IsRow .u8 w a len cap zs) :
    Calls Try.prog 6 #[.slice a len cap] w fun e w' => e = .returned (.bool true) ∧ Below w.heap.size w w' := by
  have hm := h.bytes.1
  have hm2 := h.bytes.2.1
  unfold maxLen at hm2
  by_cases g : 1048576 < len
  · have g1 : (1048576 : Int) < (len : Int) := by omega
    go_enter Try.func6, Try.ntmps6
    go_wp2
    go_ret
    exact ⟨rfl, Below.refl _ _⟩
  have g1 : (len : Int) ≤ 1048576 := by omega
  go_enter Try.func6, Try.ntmps6
  go_wp2_with fail
  refine (draw_vlen a len cap zs w h).mono ?_
  rintro e w1 ⟨x, y, ⟨x1, x2⟩, ⟨y1, y2⟩, rfl, B1⟩
  have H1 := Lib.hid B1
  clear B1 h
  cases hv : vokB x y
  · have C1 := Lib.hid (show ∀ W : World, Calls Try.prog 20 #[vec x y] W (fun e w' => e = .returned (.tuple #[.int .i64 (vlI x y), .bool false]) ∧ Below W.heap.size W w') from fun W => by have t := implVLen x y W; rw [hv] at t; exact t)
    go_wp2_with fail
    refine (C1.out _).mono ?_
    rintro e w2 ⟨rfl, B2⟩
    have H2 := Lib.hid (bl_trans (bl_alloc (H1.out) _) B2)
    have V1 : VecAt w2 (w1.heap.size) x y := (VecAt.new _ _ x y _ (by first | rfl | simp)).step B2
    clear B2 C1 H1
    have c1a := V1.c0
    have c1b := V1.c1
    have l1 := V1.lt
    have C2 := Lib.hid (show ∀ W : World, Calls Try.prog 22 #[vec x y] W (fun e w' => e = .returned (.tuple #[.int .i64 (vlI x y), .bool false]) ∧ Below W.heap.size W w') from fun W => by have t := specVLen x y W; rw [hv] at t; exact t)
    go_wp2_with fail
    refine (C2.out _).mono ?_
    rintro e w3 ⟨rfl, B3⟩
    have H3 := Lib.hid (bl_trans (H2.out) B3)
    have V2 : VecAt w3 (w1.heap.size) x y := V1.step B3
    clear B3 C2 H2 V1 c1a c1b l1
    have c2a := V2.c0
    have c2b := V2.c1
    have l2 := V2.lt
    go_wp2
    all_goals
      go_ret
      first | exact ⟨rfl, (by repeat (first | exact H3.out | refine bl_alloc ?_ _ | refine bl_drew ?_ _))⟩ | exact ⟨ret_b (decide_eq_true (by omega)), (by repeat (first | exact H3.out | refine bl_alloc ?_ _ | refine bl_drew ?_ _))⟩ | exact ⟨ret_b (by simp; omega), (by repeat (first | exact H3.out | refine bl_alloc ?_ _ | refine bl_drew ?_ _))⟩
  obtain ⟨s, e1, ⟨s0, s1⟩, m1, m2, m3⟩ := vl_side hv
  have C1 := Lib.hid (show ∀ W : World, Calls Try.prog 20 #[vec x y] W (fun e w' => e = .returned (.tuple #[.int .i64 s, .bool true]) ∧ Below W.heap.size W w') from fun W => by have t := implVLen x y W; rw [e1, hv] at t; exact t)
  go_wp2_with fail
  refine (C1.out _).mono ?_
  rintro e w2 ⟨rfl, B2⟩
  have H2 := Lib.hid (bl_trans (bl_alloc (H1.out) _) B2)
  have V1 : VecAt w2 (w1.heap.size) x y := (VecAt.new _ _ x y _ (by first | rfl | simp)).step B2
  clear B2 C1 H1
  have c1a := V1.c0
  have c1b := V1.c1
  have l1 := V1.lt
  have C2 := Lib.hid (show ∀ W : World, Calls Try.prog 22 #[vec x y] W (fun e w' => e = .returned (.tuple #[.int .i64 s, .bool true]) ∧ Below W.heap.size W w') from fun W => by have t := specVLen x y W; rw [e1, hv] at t; exact t)
  go_wp2_with fail
  refine (C2.out _).mono ?_
  rintro e w3 ⟨rfl, B3⟩
  have H3 := Lib.hid (bl_trans (H2.out) B3)
  have V2 : VecAt w3 (w1.heap.size) x y := V1.step B3
  clear B3 C2 H2 V1 c1a c1b l1
  have c2a := V2.c0
  have c2b := V2.c1
  have l2 := V2.lt
  go_wp2
  all_goals
    go_ret
    first | exact ⟨rfl, (by repeat (first | exact H3.out | refine bl_alloc ?_ _ | refine bl_drew ?_ _))⟩ | exact ⟨ret_b (decide_eq_true (by omega)), (by repeat (first | exact H3.out | refine bl_alloc ?_ _ | refine bl_drew ?_ _))⟩ | exact ⟨ret_b (by simp; omega), (by repeat (first | exact H3.out | refine bl_alloc ?_ _ | refine bl_drew ?_ _))⟩

end Go.Proofs.Ytmnojoddapdaoab
