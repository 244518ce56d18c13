/-
  The walks of the laws of common parts and circles: each returns true at every code.
-/
import Derived.Test.YtmhmlmoohimfmabBoxImpl
import Derived.Test.YtmhmlmoohimfmabDrawBoxC
import Derived.Test.YtmhmlmoohimfmabBoxLaws
namespace Go.Proofs.Ytmhmlmoohimfmab
open Go.RowKit
open M

set_option maxHeartbeats 1000000 in
theorem size_any (x y u v : Int) (w : World) (hx : -1200000 ≤ x ∧ x ≤ 1200000) (hy : -1200000 ≤ y ∧ y ≤ 1200000) (hu : -1200000 ≤ u ∧ u ≤ 1200000) (hv : -1200000 ≤ v ∧ v ≤ 1200000) :
    Calls Try.prog 13 #[vec x y, vec u v] w fun e w' => e = .returned (.int .i64 (dsq x y u v)) ∧ Below w.heap.size w w' := by
  have m1 := mul_bd (a := x - u) (b := x - u) (by omega) (by omega) (by omega) (by omega)
  have m2 := mul_bd (a := y - v) (b := y - v) (by omega) (by omega) (by omega) (by omega)
  go_enter Try.func13, Try.ntmps13
  go_wp2
  go_ret
  exact ⟨ret_int rfl, bl_alloc (bl_alloc (bl_refl w) _) _⟩

theorem qc_all {W : World} {b : Nat} {x0 x1 x2 x3 x4 x5 x6 x7 : Int} (h : QCell W b x0 x1 x2 x3 x4 x5 x6 x7) : W.cell? ⟨b, 0, none⟩ = some (.int .i64 x0) ∧ W.cell? ⟨b, 1, none⟩ = some (.int .i64 x1) ∧ W.cell? ⟨b, 2, none⟩ = some (.int .i64 x2) ∧ W.cell? ⟨b, 3, none⟩ = some (.int .i64 x3) ∧ W.cell? ⟨b, 4, none⟩ = some (.int .i64 x4) ∧ W.cell? ⟨b, 5, none⟩ = some (.int .i64 x5) ∧ W.cell? ⟨b, 6, none⟩ = some (.int .i64 x6) ∧ W.cell? ⟨b, 7, none⟩ = some (.int .i64 x7) := ⟨h.c0, h.c1, h.c2, h.c3, h.c4, h.c5, h.c6, h.c7⟩

set_option maxHeartbeats 4000000 in
theorem walk_FnTouches (a : Option Addr) (len cap : Nat) (zs : List Int) (w : World) (h : IsRow .u8 w a len cap zs) :
    Calls Try.prog 3 #[.slice a len cap] w fun e w' => e = .returned (.bool true) ∧ Below w.heap.size w w' := by
  have hm := h.bytes.1
  have hm2 := h.bytes.2.1
  unfold maxLen at hm2
  by_cases g : 1048576 < len
  · have g1 : (1048576 : Int) < (len : Int) := by omega
    go_enter Try.func3, Try.ntmps3
    go_wp2
    go_ret
    exact ⟨rfl, Below.refl _ _⟩
  have g1 : (len : Int) ≤ 1048576 := by omega
  go_enter Try.func3, Try.ntmps3
  go_wp2_with fail
  refine (draw_btouch a len cap zs w h).mono ?_
  rintro e w1 ⟨p, q, s, t, x, y, r, ⟨⟨p1, p2⟩, ⟨q1, q2⟩, ⟨s1, s2⟩, t1, t2⟩, ⟨⟨x1, x2⟩, y1, y2⟩, ⟨r1, r2⟩, rfl, B1⟩
  have H1 := Lib.hid B1
  clear B1 h
  cases hb : bvB p q s t
  · have f := tc_no1 (x := x) (y := y) (r := r) hb
    have C1 := Lib.hid (show ∀ W : World, Calls Try.prog 8 #[box p q s t, vec x y, .int .i64 r] W (fun e w' => e = .returned (.bool false) ∧ Below W.heap.size W w') from fun W => by have t := implBTouch p q s t x y r W; rw [f] at t; exact t)
    go_wp2_with fail
    refine (C1.out _).mono ?_
    rintro e w2 ⟨rfl, B2⟩
    clear C1
    have H2 := Lib.hid (bl_trans (bl_alloc (bl_alloc (H1.out) _) _) B2)
    have V1 : BCell w2 (w1.heap.size) p q s t := ((BCell.new _ (w1.heap.size) p q s t _ (by first | rfl | simp)).alloc _).step B2
    have V2 : PCell w2 (w1.heap.size + 1) x y := (PCell.new _ (w1.heap.size + 1) x y _ (by first | rfl | simp)).step B2
    clear B2 H1
    have c1x0 := V1.c0
    have c1x1 := V1.c1
    have c1x2 := V1.c2
    have c1x3 := V1.c3
    have l1 := V1.lt
    have c2x0 := V2.c0
    have c2x1 := V2.c1
    have l2 := V2.lt
    have C2 := Lib.hid (show ∀ W : World, Calls Try.prog 9 #[box p q s t, vec x y, .int .i64 r] W (fun e w' => e = .returned (.bool false) ∧ Below W.heap.size W w') from fun W => by have t := specBTouch p q s t x y r W; rw [f] at t; exact t)
    go_wp2_with fail
    refine (C2.out _).mono ?_
    rintro e w3 ⟨rfl, B3⟩
    clear C2
    have H3 := Lib.hid (bl_trans (H2.out) B3)
    have V3 : BCell w3 w1.heap.size p q s t := V1.step B3
    have V4 : PCell w3 (w1.heap.size + 1) x y := V2.step B3
    clear B3 H2 V1 c1x0 c1x1 c1x2 c1x3 l1 V2 c2x0 c2x1 l2
    have c3x0 := V3.c0
    have c3x1 := V3.c1
    have c3x2 := V3.c2
    have c3x3 := V3.c3
    have l3 := V3.lt
    have c4x0 := V4.c0
    have c4x1 := V4.c1
    have l4 := V4.lt
    have C3 := Lib.hid (show ∀ W : World, Calls Try.prog 10 #[box p q s t] W (fun e w' => e = .returned (.bool false) ∧ Below W.heap.size W w') from fun W => by have t := specBValid p q s t W; rw [hb] at t; exact t)
    go_wp2_with fail
    refine (C3.out _).mono ?_
    rintro e w4 ⟨rfl, B4⟩
    clear C3
    have H4 := Lib.hid (bl_trans (H3.out) B4)
    have V5 : BCell w4 w1.heap.size p q s t := V3.step B4
    have V6 : PCell w4 (w1.heap.size + 1) x y := V4.step B4
    clear B4 H3 V3 c3x0 c3x1 c3x2 c3x3 l3 V4 c4x0 c4x1 l4
    have c5x0 := V5.c0
    have c5x1 := V5.c1
    have c5x2 := V5.c2
    have c5x3 := V5.c3
    have l5 := V5.lt
    have c6x0 := V6.c0
    have c6x1 := V6.c1
    have l6 := V6.lt
    go_wp2
    all_goals
      go_ret
      first | exact ⟨rfl, (by repeat (first | with_reducible exact H4.out | with_reducible refine bl_alloc ?_ _ | with_reducible refine bl_drew ?_ _))⟩ | exact ⟨ret_b (decide_eq_true (by omega)), (by repeat (first | with_reducible exact H4.out | with_reducible refine bl_alloc ?_ _ | with_reducible refine bl_drew ?_ _))⟩ | exact ⟨ret_b (by simp; omega), (by repeat (first | with_reducible exact H4.out | with_reducible refine bl_alloc ?_ _ | with_reducible refine bl_drew ?_ _))⟩
  cases hv : vokB x y
  · have f := tc_no2 (a := p) (b := q) (c := s) (d := t) (r := r) hv
    have C1 := Lib.hid (show ∀ W : World, Calls Try.prog 8 #[box p q s t, vec x y, .int .i64 r] W (fun e w' => e = .returned (.bool false) ∧ Below W.heap.size W w') from fun W => by have t := implBTouch p q s t x y r W; rw [f] at t; exact t)
    go_wp2_with fail
    refine (C1.out _).mono ?_
    rintro e w2 ⟨rfl, B2⟩
    clear C1
    have H2 := Lib.hid (bl_trans (bl_alloc (bl_alloc (H1.out) _) _) B2)
    have V1 : BCell w2 (w1.heap.size) p q s t := ((BCell.new _ (w1.heap.size) p q s t _ (by first | rfl | simp)).alloc _).step B2
    have V2 : PCell w2 (w1.heap.size + 1) x y := (PCell.new _ (w1.heap.size + 1) x y _ (by first | rfl | simp)).step B2
    clear B2 H1
    have c1x0 := V1.c0
    have c1x1 := V1.c1
    have c1x2 := V1.c2
    have c1x3 := V1.c3
    have l1 := V1.lt
    have c2x0 := V2.c0
    have c2x1 := V2.c1
    have l2 := V2.lt
    have C2 := Lib.hid (show ∀ W : World, Calls Try.prog 9 #[box p q s t, vec x y, .int .i64 r] W (fun e w' => e = .returned (.bool false) ∧ Below W.heap.size W w') from fun W => by have t := specBTouch p q s t x y r W; rw [f] at t; exact t)
    go_wp2_with fail
    refine (C2.out _).mono ?_
    rintro e w3 ⟨rfl, B3⟩
    clear C2
    have H3 := Lib.hid (bl_trans (H2.out) B3)
    have V3 : BCell w3 w1.heap.size p q s t := V1.step B3
    have V4 : PCell w3 (w1.heap.size + 1) x y := V2.step B3
    clear B3 H2 V1 c1x0 c1x1 c1x2 c1x3 l1 V2 c2x0 c2x1 l2
    have c3x0 := V3.c0
    have c3x1 := V3.c1
    have c3x2 := V3.c2
    have c3x3 := V3.c3
    have l3 := V3.lt
    have c4x0 := V4.c0
    have c4x1 := V4.c1
    have l4 := V4.lt
    have C3 := Lib.hid (show ∀ W : World, Calls Try.prog 10 #[box p q s t] W (fun e w' => e = .returned (.bool true) ∧ Below W.heap.size W w') from fun W => by have t := specBValid p q s t W; rw [hb] at t; exact t)
    go_wp2_with fail
    refine (C3.out _).mono ?_
    rintro e w4 ⟨rfl, B4⟩
    clear C3
    have H4 := Lib.hid (bl_trans (H3.out) B4)
    have V5 : BCell w4 w1.heap.size p q s t := V3.step B4
    have V6 : PCell w4 (w1.heap.size + 1) x y := V4.step B4
    clear B4 H3 V3 c3x0 c3x1 c3x2 c3x3 l3 V4 c4x0 c4x1 l4
    have c5x0 := V5.c0
    have c5x1 := V5.c1
    have c5x2 := V5.c2
    have c5x3 := V5.c3
    have l5 := V5.lt
    have c6x0 := V6.c0
    have c6x1 := V6.c1
    have l6 := V6.lt
    have C4 := Lib.hid (show ∀ W : World, Calls Try.prog 11 #[vec x y] W (fun e w' => e = .returned (.bool false) ∧ Below W.heap.size W w') from fun W => by have t := specVecOk x y W; rw [hv] at t; exact t)
    go_wp2_with fail
    refine (C4.out _).mono ?_
    rintro e w5 ⟨rfl, B5⟩
    clear C4
    have H5 := Lib.hid (bl_trans (H4.out) B5)
    have V7 : BCell w5 w1.heap.size p q s t := V5.step B5
    have V8 : PCell w5 (w1.heap.size + 1) x y := V6.step B5
    clear B5 H4 V5 c5x0 c5x1 c5x2 c5x3 l5 V6 c6x0 c6x1 l6
    have c7x0 := V7.c0
    have c7x1 := V7.c1
    have c7x2 := V7.c2
    have c7x3 := V7.c3
    have l7 := V7.lt
    have c8x0 := V8.c0
    have c8x1 := V8.c1
    have l8 := V8.lt
    go_wp2
    all_goals
      go_ret
      first | exact ⟨rfl, (by repeat (first | with_reducible exact H5.out | with_reducible refine bl_alloc ?_ _ | with_reducible refine bl_drew ?_ _))⟩ | exact ⟨ret_b (decide_eq_true (by omega)), (by repeat (first | with_reducible exact H5.out | with_reducible refine bl_alloc ?_ _ | with_reducible refine bl_drew ?_ _))⟩ | exact ⟨ret_b (by simp; omega), (by repeat (first | with_reducible exact H5.out | with_reducible refine bl_alloc ?_ _ | with_reducible refine bl_drew ?_ _))⟩
  by_cases k1 : r < 0
  · have f := tc_no3 (a := p) (b := q) (c := s) (d := t) (x := x) (y := y) (inB_no (n := r) (lo := 0) (hi := 1000000) (by omega))
    have C1 := Lib.hid (show ∀ W : World, Calls Try.prog 8 #[box p q s t, vec x y, .int .i64 r] W (fun e w' => e = .returned (.bool false) ∧ Below W.heap.size W w') from fun W => by have t := implBTouch p q s t x y r W; rw [f] at t; exact t)
    go_wp2_with fail
    refine (C1.out _).mono ?_
    rintro e w2 ⟨rfl, B2⟩
    clear C1
    have H2 := Lib.hid (bl_trans (bl_alloc (bl_alloc (H1.out) _) _) B2)
    have V1 : BCell w2 (w1.heap.size) p q s t := ((BCell.new _ (w1.heap.size) p q s t _ (by first | rfl | simp)).alloc _).step B2
    have V2 : PCell w2 (w1.heap.size + 1) x y := (PCell.new _ (w1.heap.size + 1) x y _ (by first | rfl | simp)).step B2
    clear B2 H1
    have c1x0 := V1.c0
    have c1x1 := V1.c1
    have c1x2 := V1.c2
    have c1x3 := V1.c3
    have l1 := V1.lt
    have c2x0 := V2.c0
    have c2x1 := V2.c1
    have l2 := V2.lt
    have C2 := Lib.hid (show ∀ W : World, Calls Try.prog 9 #[box p q s t, vec x y, .int .i64 r] W (fun e w' => e = .returned (.bool false) ∧ Below W.heap.size W w') from fun W => by have t := specBTouch p q s t x y r W; rw [f] at t; exact t)
    go_wp2_with fail
    refine (C2.out _).mono ?_
    rintro e w3 ⟨rfl, B3⟩
    clear C2
    have H3 := Lib.hid (bl_trans (H2.out) B3)
    have V3 : BCell w3 w1.heap.size p q s t := V1.step B3
    have V4 : PCell w3 (w1.heap.size + 1) x y := V2.step B3
    clear B3 H2 V1 c1x0 c1x1 c1x2 c1x3 l1 V2 c2x0 c2x1 l2
    have c3x0 := V3.c0
    have c3x1 := V3.c1
    have c3x2 := V3.c2
    have c3x3 := V3.c3
    have l3 := V3.lt
    have c4x0 := V4.c0
    have c4x1 := V4.c1
    have l4 := V4.lt
    have C3 := Lib.hid (show ∀ W : World, Calls Try.prog 10 #[box p q s t] W (fun e w' => e = .returned (.bool true) ∧ Below W.heap.size W w') from fun W => by have t := specBValid p q s t W; rw [hb] at t; exact t)
    go_wp2_with fail
    refine (C3.out _).mono ?_
    rintro e w4 ⟨rfl, B4⟩
    clear C3
    have H4 := Lib.hid (bl_trans (H3.out) B4)
    have V5 : BCell w4 w1.heap.size p q s t := V3.step B4
    have V6 : PCell w4 (w1.heap.size + 1) x y := V4.step B4
    clear B4 H3 V3 c3x0 c3x1 c3x2 c3x3 l3 V4 c4x0 c4x1 l4
    have c5x0 := V5.c0
    have c5x1 := V5.c1
    have c5x2 := V5.c2
    have c5x3 := V5.c3
    have l5 := V5.lt
    have c6x0 := V6.c0
    have c6x1 := V6.c1
    have l6 := V6.lt
    have C4 := Lib.hid (show ∀ W : World, Calls Try.prog 11 #[vec x y] W (fun e w' => e = .returned (.bool true) ∧ Below W.heap.size W w') from fun W => by have t := specVecOk x y W; rw [hv] at t; exact t)
    go_wp2_with fail
    refine (C4.out _).mono ?_
    rintro e w5 ⟨rfl, B5⟩
    clear C4
    have H5 := Lib.hid (bl_trans (H4.out) B5)
    have V7 : BCell w5 w1.heap.size p q s t := V5.step B5
    have V8 : PCell w5 (w1.heap.size + 1) x y := V6.step B5
    clear B5 H4 V5 c5x0 c5x1 c5x2 c5x3 l5 V6 c6x0 c6x1 l6
    have c7x0 := V7.c0
    have c7x1 := V7.c1
    have c7x2 := V7.c2
    have c7x3 := V7.c3
    have l7 := V7.lt
    have c8x0 := V8.c0
    have c8x1 := V8.c1
    have l8 := V8.lt
    go_wp2
    all_goals
      go_ret
      first | exact ⟨rfl, (by repeat (first | with_reducible exact H5.out | with_reducible refine bl_alloc ?_ _ | with_reducible refine bl_drew ?_ _))⟩ | exact ⟨ret_b (decide_eq_true (by omega)), (by repeat (first | with_reducible exact H5.out | with_reducible refine bl_alloc ?_ _ | with_reducible refine bl_drew ?_ _))⟩ | exact ⟨ret_b (by simp; omega), (by repeat (first | with_reducible exact H5.out | with_reducible refine bl_alloc ?_ _ | with_reducible refine bl_drew ?_ _))⟩
  by_cases k2 : 1000000 < r
  · have f := tc_no3 (a := p) (b := q) (c := s) (d := t) (x := x) (y := y) (inB_no (n := r) (lo := 0) (hi := 1000000) (by omega))
    have C1 := Lib.hid (show ∀ W : World, Calls Try.prog 8 #[box p q s t, vec x y, .int .i64 r] W (fun e w' => e = .returned (.bool false) ∧ Below W.heap.size W w') from fun W => by have t := implBTouch p q s t x y r W; rw [f] at t; exact t)
    go_wp2_with fail
    refine (C1.out _).mono ?_
    rintro e w2 ⟨rfl, B2⟩
    clear C1
    have H2 := Lib.hid (bl_trans (bl_alloc (bl_alloc (H1.out) _) _) B2)
    have V1 : BCell w2 (w1.heap.size) p q s t := ((BCell.new _ (w1.heap.size) p q s t _ (by first | rfl | simp)).alloc _).step B2
    have V2 : PCell w2 (w1.heap.size + 1) x y := (PCell.new _ (w1.heap.size + 1) x y _ (by first | rfl | simp)).step B2
    clear B2 H1
    have c1x0 := V1.c0
    have c1x1 := V1.c1
    have c1x2 := V1.c2
    have c1x3 := V1.c3
    have l1 := V1.lt
    have c2x0 := V2.c0
    have c2x1 := V2.c1
    have l2 := V2.lt
    have C2 := Lib.hid (show ∀ W : World, Calls Try.prog 9 #[box p q s t, vec x y, .int .i64 r] W (fun e w' => e = .returned (.bool false) ∧ Below W.heap.size W w') from fun W => by have t := specBTouch p q s t x y r W; rw [f] at t; exact t)
    go_wp2_with fail
    refine (C2.out _).mono ?_
    rintro e w3 ⟨rfl, B3⟩
    clear C2
    have H3 := Lib.hid (bl_trans (H2.out) B3)
    have V3 : BCell w3 w1.heap.size p q s t := V1.step B3
    have V4 : PCell w3 (w1.heap.size + 1) x y := V2.step B3
    clear B3 H2 V1 c1x0 c1x1 c1x2 c1x3 l1 V2 c2x0 c2x1 l2
    have c3x0 := V3.c0
    have c3x1 := V3.c1
    have c3x2 := V3.c2
    have c3x3 := V3.c3
    have l3 := V3.lt
    have c4x0 := V4.c0
    have c4x1 := V4.c1
    have l4 := V4.lt
    have C3 := Lib.hid (show ∀ W : World, Calls Try.prog 10 #[box p q s t] W (fun e w' => e = .returned (.bool true) ∧ Below W.heap.size W w') from fun W => by have t := specBValid p q s t W; rw [hb] at t; exact t)
    go_wp2_with fail
    refine (C3.out _).mono ?_
    rintro e w4 ⟨rfl, B4⟩
    clear C3
    have H4 := Lib.hid (bl_trans (H3.out) B4)
    have V5 : BCell w4 w1.heap.size p q s t := V3.step B4
    have V6 : PCell w4 (w1.heap.size + 1) x y := V4.step B4
    clear B4 H3 V3 c3x0 c3x1 c3x2 c3x3 l3 V4 c4x0 c4x1 l4
    have c5x0 := V5.c0
    have c5x1 := V5.c1
    have c5x2 := V5.c2
    have c5x3 := V5.c3
    have l5 := V5.lt
    have c6x0 := V6.c0
    have c6x1 := V6.c1
    have l6 := V6.lt
    have C4 := Lib.hid (show ∀ W : World, Calls Try.prog 11 #[vec x y] W (fun e w' => e = .returned (.bool true) ∧ Below W.heap.size W w') from fun W => by have t := specVecOk x y W; rw [hv] at t; exact t)
    go_wp2_with fail
    refine (C4.out _).mono ?_
    rintro e w5 ⟨rfl, B5⟩
    clear C4
    have H5 := Lib.hid (bl_trans (H4.out) B5)
    have V7 : BCell w5 w1.heap.size p q s t := V5.step B5
    have V8 : PCell w5 (w1.heap.size + 1) x y := V6.step B5
    clear B5 H4 V5 c5x0 c5x1 c5x2 c5x3 l5 V6 c6x0 c6x1 l6
    have c7x0 := V7.c0
    have c7x1 := V7.c1
    have c7x2 := V7.c2
    have c7x3 := V7.c3
    have l7 := V7.lt
    have c8x0 := V8.c0
    have c8x1 := V8.c1
    have l8 := V8.lt
    go_wp2
    all_goals
      go_ret
      first | exact ⟨rfl, (by repeat (first | with_reducible exact H5.out | with_reducible refine bl_alloc ?_ _ | with_reducible refine bl_drew ?_ _))⟩ | exact ⟨ret_b (decide_eq_true (by omega)), (by repeat (first | with_reducible exact H5.out | with_reducible refine bl_alloc ?_ _ | with_reducible refine bl_drew ?_ _))⟩ | exact ⟨ret_b (by simp; omega), (by repeat (first | with_reducible exact H5.out | with_reducible refine bl_alloc ?_ _ | with_reducible refine bl_drew ?_ _))⟩
  have gb := bv_fields hb
  have gv := (vok_iff x y).1 hv
  obtain ⟨X, eX⟩ : ∃ X, X = max p (min x s) := ⟨_, rfl⟩
  obtain ⟨Y, eY⟩ : ∃ Y, Y = max q (min y t) := ⟨_, rfl⟩
  have f0 := tc_sq (r := r) hb hv (by omega) (by omega) eX eY
  obtain ⟨n1, n2, n3⟩ := nr_mk hb hv eX.symm eY.symm
  have X1 : -1200000 ≤ X ∧ X ≤ 1200000 := by omega
  have Y1 : -1200000 ≤ Y ∧ Y ≤ 1200000 := by omega
  have rr := mul_bd (a := r) (b := r) (by omega) (by omega) (by omega) (by omega)
  clear eX eY gb gv
  by_cases k3 : dsq X Y x y ≤ r * r
  · have f := f0.trans (decide_eq_true k3)
    clear f0
    have C1 := Lib.hid (show ∀ W : World, Calls Try.prog 8 #[box p q s t, vec x y, .int .i64 r] W (fun e w' => e = .returned (.bool true) ∧ Below W.heap.size W w') from fun W => by have t := implBTouch p q s t x y r W; rw [f] at t; exact t)
    go_wp2_with fail
    refine (C1.out _).mono ?_
    rintro e w2 ⟨rfl, B2⟩
    clear C1
    have H2 := Lib.hid (bl_trans (bl_alloc (bl_alloc (H1.out) _) _) B2)
    have V1 : BCell w2 (w1.heap.size) p q s t := ((BCell.new _ (w1.heap.size) p q s t _ (by first | rfl | simp)).alloc _).step B2
    have V2 : PCell w2 (w1.heap.size + 1) x y := (PCell.new _ (w1.heap.size + 1) x y _ (by first | rfl | simp)).step B2
    clear B2 H1
    have c1x0 := V1.c0
    have c1x1 := V1.c1
    have c1x2 := V1.c2
    have c1x3 := V1.c3
    have l1 := V1.lt
    have c2x0 := V2.c0
    have c2x1 := V2.c1
    have l2 := V2.lt
    have C2 := Lib.hid (show ∀ W : World, Calls Try.prog 9 #[box p q s t, vec x y, .int .i64 r] W (fun e w' => e = .returned (.bool true) ∧ Below W.heap.size W w') from fun W => by have t := specBTouch p q s t x y r W; rw [f] at t; exact t)
    go_wp2_with fail
    refine (C2.out _).mono ?_
    rintro e w3 ⟨rfl, B3⟩
    clear C2
    have H3 := Lib.hid (bl_trans (H2.out) B3)
    have V3 : BCell w3 w1.heap.size p q s t := V1.step B3
    have V4 : PCell w3 (w1.heap.size + 1) x y := V2.step B3
    clear B3 H2 V1 c1x0 c1x1 c1x2 c1x3 l1 V2 c2x0 c2x1 l2
    have c3x0 := V3.c0
    have c3x1 := V3.c1
    have c3x2 := V3.c2
    have c3x3 := V3.c3
    have l3 := V3.lt
    have c4x0 := V4.c0
    have c4x1 := V4.c1
    have l4 := V4.lt
    have C3 := Lib.hid (show ∀ W : World, Calls Try.prog 10 #[box p q s t] W (fun e w' => e = .returned (.bool true) ∧ Below W.heap.size W w') from fun W => by have t := specBValid p q s t W; rw [hb] at t; exact t)
    go_wp2_with fail
    refine (C3.out _).mono ?_
    rintro e w4 ⟨rfl, B4⟩
    clear C3
    have H4 := Lib.hid (bl_trans (H3.out) B4)
    have V5 : BCell w4 w1.heap.size p q s t := V3.step B4
    have V6 : PCell w4 (w1.heap.size + 1) x y := V4.step B4
    clear B4 H3 V3 c3x0 c3x1 c3x2 c3x3 l3 V4 c4x0 c4x1 l4
    have c5x0 := V5.c0
    have c5x1 := V5.c1
    have c5x2 := V5.c2
    have c5x3 := V5.c3
    have l5 := V5.lt
    have c6x0 := V6.c0
    have c6x1 := V6.c1
    have l6 := V6.lt
    have C4 := Lib.hid (show ∀ W : World, Calls Try.prog 11 #[vec x y] W (fun e w' => e = .returned (.bool true) ∧ Below W.heap.size W w') from fun W => by have t := specVecOk x y W; rw [hv] at t; exact t)
    go_wp2_with fail
    refine (C4.out _).mono ?_
    rintro e w5 ⟨rfl, B5⟩
    clear C4
    have H5 := Lib.hid (bl_trans (H4.out) B5)
    have V7 : BCell w5 w1.heap.size p q s t := V5.step B5
    have V8 : PCell w5 (w1.heap.size + 1) x y := V6.step B5
    clear B5 H4 V5 c5x0 c5x1 c5x2 c5x3 l5 V6 c6x0 c6x1 l6
    have c7x0 := V7.c0
    have c7x1 := V7.c1
    have c7x2 := V7.c2
    have c7x3 := V7.c3
    have l7 := V7.lt
    have c8x0 := V8.c0
    have c8x1 := V8.c1
    have l8 := V8.lt
    have C5 := Lib.hid (show ∀ W : World, Calls Try.prog 12 #[box p q s t, vec x y] W (fun e w' => e = .returned (.tuple #[vec X Y, .bool true]) ∧ Below W.heap.size W w') from fun W => by have t := implBNear p q s t x y W; rw [n1, n2, n3] at t; exact t)
    go_wp2_with fail
    refine (C5.out _).mono ?_
    rintro e w6 ⟨rfl, B6⟩
    clear C5
    have H6 := Lib.hid (bl_trans (H5.out) B6)
    have V9 : BCell w6 w1.heap.size p q s t := V7.step B6
    have V10 : PCell w6 (w1.heap.size + 1) x y := V8.step B6
    clear B6 H5 V7 c7x0 c7x1 c7x2 c7x3 l7 V8 c8x0 c8x1 l8
    have c9x0 := V9.c0
    have c9x1 := V9.c1
    have c9x2 := V9.c2
    have c9x3 := V9.c3
    have l9 := V9.lt
    have c10x0 := V10.c0
    have c10x1 := V10.c1
    have l10 := V10.lt
    have C6 := Lib.hid (show ∀ W : World, Calls Try.prog 13 #[vec X Y, vec x y] W (fun e w' => e = .returned (.int .i64 (dsq X Y x y)) ∧ Below W.heap.size W w') from fun W => size_any X Y x y W X1 Y1 ⟨x1, x2⟩ ⟨y1, y2⟩)
    go_wp2_with fail
    refine (C6.out _).mono ?_
    rintro e w7 ⟨rfl, B7⟩
    clear C6
    have H7 := Lib.hid (bl_trans (bl_alloc (H6.out) _) B7)
    have V11 : BCell w7 w1.heap.size p q s t := (V9.alloc _).step B7
    have V12 : PCell w7 (w1.heap.size + 1) x y := (V10.alloc _).step B7
    have V13 : PCell w7 (w6.heap.size) X Y := (PCell.new _ (w6.heap.size) X Y _ (by first | rfl | simp)).step B7
    clear B7 H6 V9 c9x0 c9x1 c9x2 c9x3 l9 V10 c10x0 c10x1 l10
    have c11x0 := V11.c0
    have c11x1 := V11.c1
    have c11x2 := V11.c2
    have c11x3 := V11.c3
    have l11 := V11.lt
    have c12x0 := V12.c0
    have c12x1 := V12.c1
    have l12 := V12.lt
    have c13x0 := V13.c0
    have c13x1 := V13.c1
    have l13 := V13.lt
    go_wp2
    all_goals
      go_ret
      first | exact ⟨rfl, (by repeat (first | with_reducible exact H7.out | with_reducible refine bl_alloc ?_ _ | with_reducible refine bl_drew ?_ _))⟩ | exact ⟨ret_b (decide_eq_true (by omega)), (by repeat (first | with_reducible exact H7.out | with_reducible refine bl_alloc ?_ _ | with_reducible refine bl_drew ?_ _))⟩ | exact ⟨ret_b (by simp; omega), (by repeat (first | with_reducible exact H7.out | with_reducible refine bl_alloc ?_ _ | with_reducible refine bl_drew ?_ _))⟩
  · have f := f0.trans (decide_eq_false k3)
    clear f0
    have C1 := Lib.hid (show ∀ W : World, Calls Try.prog 8 #[box p q s t, vec x y, .int .i64 r] W (fun e w' => e = .returned (.bool false) ∧ Below W.heap.size W w') from fun W => by have t := implBTouch p q s t x y r W; rw [f] at t; exact t)
    go_wp2_with fail
    refine (C1.out _).mono ?_
    rintro e w2 ⟨rfl, B2⟩
    clear C1
    have H2 := Lib.hid (bl_trans (bl_alloc (bl_alloc (H1.out) _) _) B2)
    have V1 : BCell w2 (w1.heap.size) p q s t := ((BCell.new _ (w1.heap.size) p q s t _ (by first | rfl | simp)).alloc _).step B2
    have V2 : PCell w2 (w1.heap.size + 1) x y := (PCell.new _ (w1.heap.size + 1) x y _ (by first | rfl | simp)).step B2
    clear B2 H1
    have c1x0 := V1.c0
    have c1x1 := V1.c1
    have c1x2 := V1.c2
    have c1x3 := V1.c3
    have l1 := V1.lt
    have c2x0 := V2.c0
    have c2x1 := V2.c1
    have l2 := V2.lt
    have C2 := Lib.hid (show ∀ W : World, Calls Try.prog 9 #[box p q s t, vec x y, .int .i64 r] W (fun e w' => e = .returned (.bool false) ∧ Below W.heap.size W w') from fun W => by have t := specBTouch p q s t x y r W; rw [f] at t; exact t)
    go_wp2_with fail
    refine (C2.out _).mono ?_
    rintro e w3 ⟨rfl, B3⟩
    clear C2
    have H3 := Lib.hid (bl_trans (H2.out) B3)
    have V3 : BCell w3 w1.heap.size p q s t := V1.step B3
    have V4 : PCell w3 (w1.heap.size + 1) x y := V2.step B3
    clear B3 H2 V1 c1x0 c1x1 c1x2 c1x3 l1 V2 c2x0 c2x1 l2
    have c3x0 := V3.c0
    have c3x1 := V3.c1
    have c3x2 := V3.c2
    have c3x3 := V3.c3
    have l3 := V3.lt
    have c4x0 := V4.c0
    have c4x1 := V4.c1
    have l4 := V4.lt
    have C3 := Lib.hid (show ∀ W : World, Calls Try.prog 10 #[box p q s t] W (fun e w' => e = .returned (.bool true) ∧ Below W.heap.size W w') from fun W => by have t := specBValid p q s t W; rw [hb] at t; exact t)
    go_wp2_with fail
    refine (C3.out _).mono ?_
    rintro e w4 ⟨rfl, B4⟩
    clear C3
    have H4 := Lib.hid (bl_trans (H3.out) B4)
    have V5 : BCell w4 w1.heap.size p q s t := V3.step B4
    have V6 : PCell w4 (w1.heap.size + 1) x y := V4.step B4
    clear B4 H3 V3 c3x0 c3x1 c3x2 c3x3 l3 V4 c4x0 c4x1 l4
    have c5x0 := V5.c0
    have c5x1 := V5.c1
    have c5x2 := V5.c2
    have c5x3 := V5.c3
    have l5 := V5.lt
    have c6x0 := V6.c0
    have c6x1 := V6.c1
    have l6 := V6.lt
    have C4 := Lib.hid (show ∀ W : World, Calls Try.prog 11 #[vec x y] W (fun e w' => e = .returned (.bool true) ∧ Below W.heap.size W w') from fun W => by have t := specVecOk x y W; rw [hv] at t; exact t)
    go_wp2_with fail
    refine (C4.out _).mono ?_
    rintro e w5 ⟨rfl, B5⟩
    clear C4
    have H5 := Lib.hid (bl_trans (H4.out) B5)
    have V7 : BCell w5 w1.heap.size p q s t := V5.step B5
    have V8 : PCell w5 (w1.heap.size + 1) x y := V6.step B5
    clear B5 H4 V5 c5x0 c5x1 c5x2 c5x3 l5 V6 c6x0 c6x1 l6
    have c7x0 := V7.c0
    have c7x1 := V7.c1
    have c7x2 := V7.c2
    have c7x3 := V7.c3
    have l7 := V7.lt
    have c8x0 := V8.c0
    have c8x1 := V8.c1
    have l8 := V8.lt
    have C5 := Lib.hid (show ∀ W : World, Calls Try.prog 12 #[box p q s t, vec x y] W (fun e w' => e = .returned (.tuple #[vec X Y, .bool true]) ∧ Below W.heap.size W w') from fun W => by have t := implBNear p q s t x y W; rw [n1, n2, n3] at t; exact t)
    go_wp2_with fail
    refine (C5.out _).mono ?_
    rintro e w6 ⟨rfl, B6⟩
    clear C5
    have H6 := Lib.hid (bl_trans (H5.out) B6)
    have V9 : BCell w6 w1.heap.size p q s t := V7.step B6
    have V10 : PCell w6 (w1.heap.size + 1) x y := V8.step B6
    clear B6 H5 V7 c7x0 c7x1 c7x2 c7x3 l7 V8 c8x0 c8x1 l8
    have c9x0 := V9.c0
    have c9x1 := V9.c1
    have c9x2 := V9.c2
    have c9x3 := V9.c3
    have l9 := V9.lt
    have c10x0 := V10.c0
    have c10x1 := V10.c1
    have l10 := V10.lt
    have C6 := Lib.hid (show ∀ W : World, Calls Try.prog 13 #[vec X Y, vec x y] W (fun e w' => e = .returned (.int .i64 (dsq X Y x y)) ∧ Below W.heap.size W w') from fun W => size_any X Y x y W X1 Y1 ⟨x1, x2⟩ ⟨y1, y2⟩)
    go_wp2_with fail
    refine (C6.out _).mono ?_
    rintro e w7 ⟨rfl, B7⟩
    clear C6
    have H7 := Lib.hid (bl_trans (bl_alloc (H6.out) _) B7)
    have V11 : BCell w7 w1.heap.size p q s t := (V9.alloc _).step B7
    have V12 : PCell w7 (w1.heap.size + 1) x y := (V10.alloc _).step B7
    have V13 : PCell w7 (w6.heap.size) X Y := (PCell.new _ (w6.heap.size) X Y _ (by first | rfl | simp)).step B7
    clear B7 H6 V9 c9x0 c9x1 c9x2 c9x3 l9 V10 c10x0 c10x1 l10
    have c11x0 := V11.c0
    have c11x1 := V11.c1
    have c11x2 := V11.c2
    have c11x3 := V11.c3
    have l11 := V11.lt
    have c12x0 := V12.c0
    have c12x1 := V12.c1
    have l12 := V12.lt
    have c13x0 := V13.c0
    have c13x1 := V13.c1
    have l13 := V13.lt
    go_wp2
    all_goals
      go_ret
      first | exact ⟨rfl, (by repeat (first | with_reducible exact H7.out | with_reducible refine bl_alloc ?_ _ | with_reducible refine bl_drew ?_ _))⟩ | exact ⟨ret_b (decide_eq_true (by omega)), (by repeat (first | with_reducible exact H7.out | with_reducible refine bl_alloc ?_ _ | with_reducible refine bl_drew ?_ _))⟩ | exact ⟨ret_b (by simp; omega), (by repeat (first | with_reducible exact H7.out | with_reducible refine bl_alloc ?_ _ | with_reducible refine bl_drew ?_ _))⟩

end Go.Proofs.Ytmhmlmoohimfmab
