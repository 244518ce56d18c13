/-
  The walks of the laws of common parts and circles: each returns true at every code.
-/
import Derived.Test.YtkkifikdnjajjaaBoxImpl
import Derived.Test.YtkkifikdnjajjaaDrawBoxC
import Derived.Test.YtkkifikdnjajjaaBoxLaws
namespace Go.Proofs.Ytkkifikdnjajjaa
open Go.RowKit
open M

set_option maxHeartbeats 1000000 in
theorem size_any (x y u v : Int) (w : World) (hx : -1200000 ≤ x ∧ x ≤ 1200000) (hy : -1200000 ≤ y ∧ y ≤ 1200000) (hu : -1200000 ≤ u ∧ u ≤ 1200000) (hv : -1200000 ≤ v ∧ v ≤ 1200000) :
    Calls Try.prog 25 #[vec x y, vec u v] w fun e w' => e = .returned (.int .i64 (dsq x y u v)) ∧ Below w.heap.size w w' := by
  have m1 := mul_bd (a := x - u) (b := x - u) (by omega) (by omega) (by omega) (by omega)
  have m2 := mul_bd (a := y - v) (b := y - v) (by omega) (by omega) (by omega) (by omega)
  go_enter Try.func25, Try.ntmps25
  go_wp2
  go_ret
  exact ⟨ret_int rfl, bl_alloc (bl_alloc (bl_refl w) _) _⟩

theorem qc_all {W : World} {b : Nat} {x0 x1 x2 x3 x4 x5 x6 x7 : Int} (h : QCell W b x0 x1 x2 x3 x4 x5 x6 x7) : W.cell? ⟨b, 0, none⟩ = some (.int .i64 x0) ∧ W.cell? ⟨b, 1, none⟩ = some (.int .i64 x1) ∧ W.cell? ⟨b, 2, none⟩ = some (.int .i64 x2) ∧ W.cell? ⟨b, 3, none⟩ = some (.int .i64 x3) ∧ W.cell? ⟨b, 4, none⟩ = some (.int .i64 x4) ∧ W.cell? ⟨b, 5, none⟩ = some (.int .i64 x5) ∧ W.cell? ⟨b, 6, none⟩ = some (.int .i64 x6) ∧ W.cell? ⟨b, 7, none⟩ = some (.int .i64 x7) := ⟨h.c0, h.c1, h.c2, h.c3, h.c4, h.c5, h.c6, h.c7⟩

set_option maxHeartbeats 4000000 in
theorem walk_FnMeet (a : Option Addr) (len cap : Nat) (zs : List Int) (w : World) (h : IsRow .u8 w a len cap zs) :
    Calls Try.prog 5 #[.slice a len cap] w fun e w' => e = .returned (.bool true) ∧ Below w.heap.size w w' := by
  have hm := h.bytes.1
  have hm2 := h.bytes.2.1
  unfold maxLen at hm2
  by_cases g : 1048576 < len
  · have g1 : (1048576 : Int) < (len : Int) := by omega
    go_enter Try.func5, Try.ntmps5
    go_wp2
    go_ret
    exact ⟨rfl, Below.refl _ _⟩
  have g1 : (len : Int) ≤ 1048576 := by omega
  go_enter Try.func5, Try.ntmps5
  go_wp2_with fail
  refine (draw_bmeet a len cap zs w h).mono ?_
  rintro e w1 ⟨p, q, s, t, x, y, u, v, ⟨⟨p1, p2⟩, ⟨q1, q2⟩, ⟨s1, s2⟩, t1, t2⟩, ⟨⟨x1, x2⟩, ⟨y1, y2⟩, ⟨u1, u2⟩, v1, v2⟩, rfl, B1⟩
  have H1 := Lib.hid B1
  clear B1 h
  cases hb : mtB p q s t x y u v
  · obtain ⟨e1, e2, e3, e4⟩ := mt_no hb
    have C1 := Lib.hid (show ∀ W : World, Calls Try.prog 20 #[box p q s t, box x y u v] W (fun e w' => e = .returned (.tuple #[box 0 0 0 0, .bool false]) ∧ Below W.heap.size W w') from fun W => by have t := implBMeet p q s t x y u v W; rw [e1, e2, e3, e4, hb] at t; exact t)
    go_wp2_with fail
    refine (C1.out _).mono ?_
    rintro e w2 ⟨rfl, B2⟩
    clear C1
    have H2 := Lib.hid (bl_trans (bl_alloc (bl_alloc (H1.out) _) _) B2)
    have V1 : BCell w2 (w1.heap.size) p q s t := ((BCell.new _ (w1.heap.size) p q s t _ (by first | rfl | simp)).alloc _).step B2
    have V2 : BCell w2 (w1.heap.size + 1) x y u v := (BCell.new _ (w1.heap.size + 1) x y u v _ (by first | rfl | simp)).step B2
    clear B2 H1
    have c1x0 := V1.c0
    have c1x1 := V1.c1
    have c1x2 := V1.c2
    have c1x3 := V1.c3
    have l1 := V1.lt
    have c2x0 := V2.c0
    have c2x1 := V2.c1
    have c2x2 := V2.c2
    have c2x3 := V2.c3
    have l2 := V2.lt
    have C2 := Lib.hid (show ∀ W : World, Calls Try.prog 21 #[box p q s t, box x y u v] W (fun e w' => e = .returned (.tuple #[box 0 0 0 0, .bool false]) ∧ Below W.heap.size W w') from fun W => by have t := specBMeet p q s t x y u v W; rw [e1, e2, e3, e4, hb] at t; exact t)
    go_wp2_with fail
    refine (C2.out _).mono ?_
    rintro e w3 ⟨rfl, B3⟩
    clear C2
    have H3 := Lib.hid (bl_trans (bl_alloc (H2.out) _) B3)
    have V3 : BCell w3 w1.heap.size p q s t := (V1.alloc _).step B3
    have V4 : BCell w3 (w1.heap.size + 1) x y u v := (V2.alloc _).step B3
    have V5 : BCell w3 (w2.heap.size) 0 0 0 0 := (BCell.new _ (w2.heap.size) 0 0 0 0 _ (by first | rfl | simp)).step B3
    clear B3 H2 V1 c1x0 c1x1 c1x2 c1x3 l1 V2 c2x0 c2x1 c2x2 c2x3 l2
    have c3x0 := V3.c0
    have c3x1 := V3.c1
    have c3x2 := V3.c2
    have c3x3 := V3.c3
    have l3 := V3.lt
    have c4x0 := V4.c0
    have c4x1 := V4.c1
    have c4x2 := V4.c2
    have c4x3 := V4.c3
    have l4 := V4.lt
    have c5x0 := V5.c0
    have c5x1 := V5.c1
    have c5x2 := V5.c2
    have c5x3 := V5.c3
    have l5 := V5.lt
    go_wp2
    all_goals
      go_ret
      first | exact ⟨rfl, (by repeat (first | with_reducible exact H3.out | with_reducible refine bl_alloc ?_ _ | with_reducible refine bl_drew ?_ _))⟩ | exact ⟨ret_b (decide_eq_true (by omega)), (by repeat (first | with_reducible exact H3.out | with_reducible refine bl_alloc ?_ _ | with_reducible refine bl_drew ?_ _))⟩ | exact ⟨ret_b (by simp; omega), (by repeat (first | with_reducible exact H3.out | with_reducible refine bl_alloc ?_ _ | with_reducible refine bl_drew ?_ _))⟩
  obtain ⟨A, E, C, D, e1, e2, e3, e4, eA, eE, eC, eD, h1, h3, h4⟩ := mt_true hb
  obtain ⟨f1, f2, f3, f4, f5⟩ := mt_mk h3 h1 h4 (by omega) (by omega) (by omega) (by omega)
  obtain ⟨⟨i1, i2⟩, i3, i4⟩ := mt_in h1 h3 h4 eA eE eC eD
  clear eA eE eC eD
  have C1 := Lib.hid (show ∀ W : World, Calls Try.prog 20 #[box p q s t, box x y u v] W (fun e w' => e = .returned (.tuple #[box A E C D, .bool true]) ∧ Below W.heap.size W w') from fun W => by have t := implBMeet p q s t x y u v W; rw [e1, e2, e3, e4, hb] at t; exact t)
  go_wp2_with fail
  refine (C1.out _).mono ?_
  rintro e w2 ⟨rfl, B2⟩
  clear C1
  have H2 := Lib.hid (bl_trans (bl_alloc (bl_alloc (H1.out) _) _) B2)
  have V1 : BCell w2 (w1.heap.size) p q s t := ((BCell.new _ (w1.heap.size) p q s t _ (by first | rfl | simp)).alloc _).step B2
  have V2 : BCell w2 (w1.heap.size + 1) x y u v := (BCell.new _ (w1.heap.size + 1) x y u v _ (by first | rfl | simp)).step B2
  clear B2 H1
  have c1x0 := V1.c0
  have c1x1 := V1.c1
  have c1x2 := V1.c2
  have c1x3 := V1.c3
  have l1 := V1.lt
  have c2x0 := V2.c0
  have c2x1 := V2.c1
  have c2x2 := V2.c2
  have c2x3 := V2.c3
  have l2 := V2.lt
  have C2 := Lib.hid (show ∀ W : World, Calls Try.prog 21 #[box p q s t, box x y u v] W (fun e w' => e = .returned (.tuple #[box A E C D, .bool true]) ∧ Below W.heap.size W w') from fun W => by have t := specBMeet p q s t x y u v W; rw [e1, e2, e3, e4, hb] at t; exact t)
  go_wp2_with fail
  refine (C2.out _).mono ?_
  rintro e w3 ⟨rfl, B3⟩
  clear C2
  have H3 := Lib.hid (bl_trans (bl_alloc (H2.out) _) B3)
  have V3 : BCell w3 w1.heap.size p q s t := (V1.alloc _).step B3
  have V4 : BCell w3 (w1.heap.size + 1) x y u v := (V2.alloc _).step B3
  have V5 : BCell w3 (w2.heap.size) A E C D := (BCell.new _ (w2.heap.size) A E C D _ (by first | rfl | simp)).step B3
  clear B3 H2 V1 c1x0 c1x1 c1x2 c1x3 l1 V2 c2x0 c2x1 c2x2 c2x3 l2
  have c3x0 := V3.c0
  have c3x1 := V3.c1
  have c3x2 := V3.c2
  have c3x3 := V3.c3
  have l3 := V3.lt
  have c4x0 := V4.c0
  have c4x1 := V4.c1
  have c4x2 := V4.c2
  have c4x3 := V4.c3
  have l4 := V4.lt
  have c5x0 := V5.c0
  have c5x1 := V5.c1
  have c5x2 := V5.c2
  have c5x3 := V5.c3
  have l5 := V5.lt
  have C3 := Lib.hid (show ∀ W : World, Calls Try.prog 20 #[box x y u v, box p q s t] W (fun e w' => e = .returned (.tuple #[box A E C D, .bool true]) ∧ Below W.heap.size W w') from fun W => by have t := implBMeet x y u v p q s t W; rw [f1, f2, f3, f4, f5] at t; exact t)
  go_wp2_with fail
  refine (C3.out _).mono ?_
  rintro e w4 ⟨rfl, B4⟩
  clear C3
  have H4 := Lib.hid (bl_trans (bl_alloc (H3.out) _) B4)
  have V6 : BCell w4 w1.heap.size p q s t := (V3.alloc _).step B4
  have V7 : BCell w4 (w1.heap.size + 1) x y u v := (V4.alloc _).step B4
  have V8 : BCell w4 w2.heap.size A E C D := (V5.alloc _).step B4
  have V9 : BCell w4 (w3.heap.size) A E C D := (BCell.new _ (w3.heap.size) A E C D _ (by first | rfl | simp)).step B4
  clear B4 H3 V3 c3x0 c3x1 c3x2 c3x3 l3 V4 c4x0 c4x1 c4x2 c4x3 l4 V5 c5x0 c5x1 c5x2 c5x3 l5
  have c6x0 := V6.c0
  have c6x1 := V6.c1
  have c6x2 := V6.c2
  have c6x3 := V6.c3
  have l6 := V6.lt
  have c7x0 := V7.c0
  have c7x1 := V7.c1
  have c7x2 := V7.c2
  have c7x3 := V7.c3
  have l7 := V7.lt
  have c8x0 := V8.c0
  have c8x1 := V8.c1
  have c8x2 := V8.c2
  have c8x3 := V8.c3
  have l8 := V8.lt
  have c9x0 := V9.c0
  have c9x1 := V9.c1
  have c9x2 := V9.c2
  have c9x3 := V9.c3
  have l9 := V9.lt
  have C4 := Lib.hid (show ∀ W : World, Calls Try.prog 13 #[box A E C D] W (fun e w' => e = .returned (.bool true) ∧ Below W.heap.size W w') from fun W => by have t := implBValid A E C D W; rw [h4] at t; exact t)
  go_wp2_with fail
  refine (C4.out _).mono ?_
  rintro e w5 ⟨rfl, B5⟩
  clear C4
  have H5 := Lib.hid (bl_trans (bl_alloc (H4.out) _) B5)
  have V10 : BCell w5 w1.heap.size p q s t := (V6.alloc _).step B5
  have V11 : BCell w5 (w1.heap.size + 1) x y u v := (V7.alloc _).step B5
  have V12 : BCell w5 w2.heap.size A E C D := (V8.alloc _).step B5
  have V13 : BCell w5 w3.heap.size A E C D := (V9.alloc _).step B5
  have V14 : BCell w5 (w4.heap.size) A E C D := (BCell.new _ (w4.heap.size) A E C D _ (by first | rfl | simp)).step B5
  clear B5 H4 V6 c6x0 c6x1 c6x2 c6x3 l6 V7 c7x0 c7x1 c7x2 c7x3 l7 V8 c8x0 c8x1 c8x2 c8x3 l8 V9 c9x0 c9x1 c9x2 c9x3 l9
  have c10x0 := V10.c0
  have c10x1 := V10.c1
  have c10x2 := V10.c2
  have c10x3 := V10.c3
  have l10 := V10.lt
  have c11x0 := V11.c0
  have c11x1 := V11.c1
  have c11x2 := V11.c2
  have c11x3 := V11.c3
  have l11 := V11.lt
  have c12x0 := V12.c0
  have c12x1 := V12.c1
  have c12x2 := V12.c2
  have c12x3 := V12.c3
  have l12 := V12.lt
  have c13x0 := V13.c0
  have c13x1 := V13.c1
  have c13x2 := V13.c2
  have c13x3 := V13.c3
  have l13 := V13.lt
  have c14x0 := V14.c0
  have c14x1 := V14.c1
  have c14x2 := V14.c2
  have c14x3 := V14.c3
  have l14 := V14.lt
  have C5 := Lib.hid (show ∀ W : World, Calls Try.prog 15 #[box p q s t, vec A E] W (fun e w' => e = .returned (.bool true) ∧ Below W.heap.size W w') from fun W => by have t := implBHas p q s t A E W; rw [i1] at t; exact t)
  go_wp2_with fail
  refine (C5.out _).mono ?_
  rintro e w6 ⟨rfl, B6⟩
  clear C5
  have H6 := Lib.hid (bl_trans (H5.out) B6)
  have V15 : BCell w6 w1.heap.size p q s t := V10.step B6
  have V16 : BCell w6 (w1.heap.size + 1) x y u v := V11.step B6
  have V17 : BCell w6 w2.heap.size A E C D := V12.step B6
  have V18 : BCell w6 w3.heap.size A E C D := V13.step B6
  have V19 : BCell w6 w4.heap.size A E C D := V14.step B6
  clear B6 H5 V10 c10x0 c10x1 c10x2 c10x3 l10 V11 c11x0 c11x1 c11x2 c11x3 l11 V12 c12x0 c12x1 c12x2 c12x3 l12 V13 c13x0 c13x1 c13x2 c13x3 l13 V14 c14x0 c14x1 c14x2 c14x3 l14
  have c15x0 := V15.c0
  have c15x1 := V15.c1
  have c15x2 := V15.c2
  have c15x3 := V15.c3
  have l15 := V15.lt
  have c16x0 := V16.c0
  have c16x1 := V16.c1
  have c16x2 := V16.c2
  have c16x3 := V16.c3
  have l16 := V16.lt
  have c17x0 := V17.c0
  have c17x1 := V17.c1
  have c17x2 := V17.c2
  have c17x3 := V17.c3
  have l17 := V17.lt
  have c18x0 := V18.c0
  have c18x1 := V18.c1
  have c18x2 := V18.c2
  have c18x3 := V18.c3
  have l18 := V18.lt
  have c19x0 := V19.c0
  have c19x1 := V19.c1
  have c19x2 := V19.c2
  have c19x3 := V19.c3
  have l19 := V19.lt
  have C6 := Lib.hid (show ∀ W : World, Calls Try.prog 15 #[box x y u v, vec A E] W (fun e w' => e = .returned (.bool true) ∧ Below W.heap.size W w') from fun W => by have t := implBHas x y u v A E W; rw [i2] at t; exact t)
  go_wp2_with fail
  refine (C6.out _).mono ?_
  rintro e w7 ⟨rfl, B7⟩
  clear C6
  have H7 := Lib.hid (bl_trans (H6.out) B7)
  have V20 : BCell w7 w1.heap.size p q s t := V15.step B7
  have V21 : BCell w7 (w1.heap.size + 1) x y u v := V16.step B7
  have V22 : BCell w7 w2.heap.size A E C D := V17.step B7
  have V23 : BCell w7 w3.heap.size A E C D := V18.step B7
  have V24 : BCell w7 w4.heap.size A E C D := V19.step B7
  clear B7 H6 V15 c15x0 c15x1 c15x2 c15x3 l15 V16 c16x0 c16x1 c16x2 c16x3 l16 V17 c17x0 c17x1 c17x2 c17x3 l17 V18 c18x0 c18x1 c18x2 c18x3 l18 V19 c19x0 c19x1 c19x2 c19x3 l19
  have c20x0 := V20.c0
  have c20x1 := V20.c1
  have c20x2 := V20.c2
  have c20x3 := V20.c3
  have l20 := V20.lt
  have c21x0 := V21.c0
  have c21x1 := V21.c1
  have c21x2 := V21.c2
  have c21x3 := V21.c3
  have l21 := V21.lt
  have c22x0 := V22.c0
  have c22x1 := V22.c1
  have c22x2 := V22.c2
  have c22x3 := V22.c3
  have l22 := V22.lt
  have c23x0 := V23.c0
  have c23x1 := V23.c1
  have c23x2 := V23.c2
  have c23x3 := V23.c3
  have l23 := V23.lt
  have c24x0 := V24.c0
  have c24x1 := V24.c1
  have c24x2 := V24.c2
  have c24x3 := V24.c3
  have l24 := V24.lt
  have C7 := Lib.hid (show ∀ W : World, Calls Try.prog 15 #[box p q s t, vec C D] W (fun e w' => e = .returned (.bool true) ∧ Below W.heap.size W w') from fun W => by have t := implBHas p q s t C D W; rw [i3] at t; exact t)
  go_wp2_with fail
  refine (C7.out _).mono ?_
  rintro e w8 ⟨rfl, B8⟩
  clear C7
  have H8 := Lib.hid (bl_trans (H7.out) B8)
  have V25 : BCell w8 w1.heap.size p q s t := V20.step B8
  have V26 : BCell w8 (w1.heap.size + 1) x y u v := V21.step B8
  have V27 : BCell w8 w2.heap.size A E C D := V22.step B8
  have V28 : BCell w8 w3.heap.size A E C D := V23.step B8
  have V29 : BCell w8 w4.heap.size A E C D := V24.step B8
  clear B8 H7 V20 c20x0 c20x1 c20x2 c20x3 l20 V21 c21x0 c21x1 c21x2 c21x3 l21 V22 c22x0 c22x1 c22x2 c22x3 l22 V23 c23x0 c23x1 c23x2 c23x3 l23 V24 c24x0 c24x1 c24x2 c24x3 l24
  have c25x0 := V25.c0
  have c25x1 := V25.c1
  have c25x2 := V25.c2
  have c25x3 := V25.c3
  have l25 := V25.lt
  have c26x0 := V26.c0
  have c26x1 := V26.c1
  have c26x2 := V26.c2
  have c26x3 := V26.c3
  have l26 := V26.lt
  have c27x0 := V27.c0
  have c27x1 := V27.c1
  have c27x2 := V27.c2
  have c27x3 := V27.c3
  have l27 := V27.lt
  have c28x0 := V28.c0
  have c28x1 := V28.c1
  have c28x2 := V28.c2
  have c28x3 := V28.c3
  have l28 := V28.lt
  have c29x0 := V29.c0
  have c29x1 := V29.c1
  have c29x2 := V29.c2
  have c29x3 := V29.c3
  have l29 := V29.lt
  have C8 := Lib.hid (show ∀ W : World, Calls Try.prog 15 #[box x y u v, vec C D] W (fun e w' => e = .returned (.bool true) ∧ Below W.heap.size W w') from fun W => by have t := implBHas x y u v C D W; rw [i4] at t; exact t)
  go_wp2_with fail
  refine (C8.out _).mono ?_
  rintro e w9 ⟨rfl, B9⟩
  clear C8
  have H9 := Lib.hid (bl_trans (H8.out) B9)
  have V30 : BCell w9 w1.heap.size p q s t := V25.step B9
  have V31 : BCell w9 (w1.heap.size + 1) x y u v := V26.step B9
  have V32 : BCell w9 w2.heap.size A E C D := V27.step B9
  have V33 : BCell w9 w3.heap.size A E C D := V28.step B9
  have V34 : BCell w9 w4.heap.size A E C D := V29.step B9
  clear B9 H8 V25 c25x0 c25x1 c25x2 c25x3 l25 V26 c26x0 c26x1 c26x2 c26x3 l26 V27 c27x0 c27x1 c27x2 c27x3 l27 V28 c28x0 c28x1 c28x2 c28x3 l28 V29 c29x0 c29x1 c29x2 c29x3 l29
  have c30x0 := V30.c0
  have c30x1 := V30.c1
  have c30x2 := V30.c2
  have c30x3 := V30.c3
  have l30 := V30.lt
  have c31x0 := V31.c0
  have c31x1 := V31.c1
  have c31x2 := V31.c2
  have c31x3 := V31.c3
  have l31 := V31.lt
  have c32x0 := V32.c0
  have c32x1 := V32.c1
  have c32x2 := V32.c2
  have c32x3 := V32.c3
  have l32 := V32.lt
  have c33x0 := V33.c0
  have c33x1 := V33.c1
  have c33x2 := V33.c2
  have c33x3 := V33.c3
  have l33 := V33.lt
  have c34x0 := V34.c0
  have c34x1 := V34.c1
  have c34x2 := V34.c2
  have c34x3 := V34.c3
  have l34 := V34.lt
  go_wp2
  all_goals
    go_ret
    first | exact ⟨rfl, (by repeat (first | with_reducible exact H9.out | with_reducible refine bl_alloc ?_ _ | with_reducible refine bl_drew ?_ _))⟩ | exact ⟨ret_b (decide_eq_true (by omega)), (by repeat (first | with_reducible exact H9.out | with_reducible refine bl_alloc ?_ _ | with_reducible refine bl_drew ?_ _))⟩ | exact ⟨ret_b (by simp; omega), (by repeat (first | with_reducible exact H9.out | with_reducible refine bl_alloc ?_ _ | with_reducible refine bl_drew ?_ _))⟩

set_option maxHeartbeats 4000000 in
theorem walk_FnMeetNone (a : Option Addr) (len cap : Nat) (zs : List Int) (w : World) (h : IsRow .u8 w a len cap zs) :
    Calls Try.prog 7 #[.slice a len cap] w fun e w' => e = .returned (.bool true) ∧ Below w.heap.size w w' := by
  have hm := h.bytes.1
  have hm2 := h.bytes.2.1
  unfold maxLen at hm2
  by_cases g : 1048576 < len
  · have g1 : (1048576 : Int) < (len : Int) := by omega
    go_enter Try.func7, Try.ntmps7
    go_wp2
    go_ret
    exact ⟨rfl, Below.refl _ _⟩
  have g1 : (len : Int) ≤ 1048576 := by omega
  go_enter Try.func7, Try.ntmps7
  go_wp2_with fail
  refine (draw_bmeet a len cap zs w h).mono ?_
  rintro e w1 ⟨p, q, s, t, x, y, u, v, ⟨⟨p1, p2⟩, ⟨q1, q2⟩, ⟨s1, s2⟩, t1, t2⟩, ⟨⟨x1, x2⟩, ⟨y1, y2⟩, ⟨u1, u2⟩, v1, v2⟩, rfl, B1⟩
  have H1 := Lib.hid B1
  clear B1 h
  cases hb : mtB p q s t x y u v
  · obtain ⟨e1, e2, e3, e4⟩ := mt_no hb
    cases h1 : bvB p q s t
    · skip
      have C1 := Lib.hid (show ∀ W : World, Calls Try.prog 20 #[box p q s t, box x y u v] W (fun e w' => e = .returned (.tuple #[box 0 0 0 0, .bool false]) ∧ Below W.heap.size W w') from fun W => by have t := implBMeet p q s t x y u v W; rw [e1, e2, e3, e4, hb] at t; exact t)
      go_wp2_with fail
      refine (C1.out _).mono ?_
      rintro e w2 ⟨rfl, B2⟩
      clear C1
      have H2 := Lib.hid (bl_trans (bl_alloc (bl_alloc (H1.out) _) _) B2)
      have V1 : BCell w2 (w1.heap.size) p q s t := ((BCell.new _ (w1.heap.size) p q s t _ (by first | rfl | simp)).alloc _).step B2
      have V2 : BCell w2 (w1.heap.size + 1) x y u v := (BCell.new _ (w1.heap.size + 1) x y u v _ (by first | rfl | simp)).step B2
      clear B2 H1
      have c1x0 := V1.c0
      have c1x1 := V1.c1
      have c1x2 := V1.c2
      have c1x3 := V1.c3
      have l1 := V1.lt
      have c2x0 := V2.c0
      have c2x1 := V2.c1
      have c2x2 := V2.c2
      have c2x3 := V2.c3
      have l2 := V2.lt
      have C2 := Lib.hid (show ∀ W : World, Calls Try.prog 21 #[box p q s t, box x y u v] W (fun e w' => e = .returned (.tuple #[box 0 0 0 0, .bool false]) ∧ Below W.heap.size W w') from fun W => by have t := specBMeet p q s t x y u v W; rw [e1, e2, e3, e4, hb] at t; exact t)
      go_wp2_with fail
      refine (C2.out _).mono ?_
      rintro e w3 ⟨rfl, B3⟩
      clear C2
      have H3 := Lib.hid (bl_trans (bl_alloc (H2.out) _) B3)
      have V3 : BCell w3 w1.heap.size p q s t := (V1.alloc _).step B3
      have V4 : BCell w3 (w1.heap.size + 1) x y u v := (V2.alloc _).step B3
      have V5 : BCell w3 (w2.heap.size) 0 0 0 0 := (BCell.new _ (w2.heap.size) 0 0 0 0 _ (by first | rfl | simp)).step B3
      clear B3 H2 V1 c1x0 c1x1 c1x2 c1x3 l1 V2 c2x0 c2x1 c2x2 c2x3 l2
      have c3x0 := V3.c0
      have c3x1 := V3.c1
      have c3x2 := V3.c2
      have c3x3 := V3.c3
      have l3 := V3.lt
      have c4x0 := V4.c0
      have c4x1 := V4.c1
      have c4x2 := V4.c2
      have c4x3 := V4.c3
      have l4 := V4.lt
      have c5x0 := V5.c0
      have c5x1 := V5.c1
      have c5x2 := V5.c2
      have c5x3 := V5.c3
      have l5 := V5.lt
      have C3 := Lib.hid (show ∀ W : World, Calls Try.prog 14 #[box p q s t] W (fun e w' => e = .returned (.bool false) ∧ Below W.heap.size W w') from fun W => by have t := specBValid p q s t W; rw [h1] at t; exact t)
      go_wp2_with fail
      refine (C3.out _).mono ?_
      rintro e w4 ⟨rfl, B4⟩
      clear C3
      have H4 := Lib.hid (bl_trans (bl_alloc (H3.out) _) B4)
      have V6 : BCell w4 w1.heap.size p q s t := (V3.alloc _).step B4
      have V7 : BCell w4 (w1.heap.size + 1) x y u v := (V4.alloc _).step B4
      have V8 : BCell w4 w2.heap.size 0 0 0 0 := (V5.alloc _).step B4
      have V9 : BCell w4 (w3.heap.size) 0 0 0 0 := (BCell.new _ (w3.heap.size) 0 0 0 0 _ (by first | rfl | simp)).step B4
      clear B4 H3 V3 c3x0 c3x1 c3x2 c3x3 l3 V4 c4x0 c4x1 c4x2 c4x3 l4 V5 c5x0 c5x1 c5x2 c5x3 l5
      have c6x0 := V6.c0
      have c6x1 := V6.c1
      have c6x2 := V6.c2
      have c6x3 := V6.c3
      have l6 := V6.lt
      have c7x0 := V7.c0
      have c7x1 := V7.c1
      have c7x2 := V7.c2
      have c7x3 := V7.c3
      have l7 := V7.lt
      have c8x0 := V8.c0
      have c8x1 := V8.c1
      have c8x2 := V8.c2
      have c8x3 := V8.c3
      have l8 := V8.lt
      have c9x0 := V9.c0
      have c9x1 := V9.c1
      have c9x2 := V9.c2
      have c9x3 := V9.c3
      have l9 := V9.lt
      go_wp2
      all_goals
        go_ret
        first | exact ⟨rfl, (by repeat (first | with_reducible exact H4.out | with_reducible refine bl_alloc ?_ _ | with_reducible refine bl_drew ?_ _))⟩ | exact ⟨ret_b (decide_eq_true (by omega)), (by repeat (first | with_reducible exact H4.out | with_reducible refine bl_alloc ?_ _ | with_reducible refine bl_drew ?_ _))⟩ | exact ⟨ret_b (by simp; omega), (by repeat (first | with_reducible exact H4.out | with_reducible refine bl_alloc ?_ _ | with_reducible refine bl_drew ?_ _))⟩
    cases h3 : bvB x y u v
    · skip
      have C1 := Lib.hid (show ∀ W : World, Calls Try.prog 20 #[box p q s t, box x y u v] W (fun e w' => e = .returned (.tuple #[box 0 0 0 0, .bool false]) ∧ Below W.heap.size W w') from fun W => by have t := implBMeet p q s t x y u v W; rw [e1, e2, e3, e4, hb] at t; exact t)
      go_wp2_with fail
      refine (C1.out _).mono ?_
      rintro e w2 ⟨rfl, B2⟩
      clear C1
      have H2 := Lib.hid (bl_trans (bl_alloc (bl_alloc (H1.out) _) _) B2)
      have V1 : BCell w2 (w1.heap.size) p q s t := ((BCell.new _ (w1.heap.size) p q s t _ (by first | rfl | simp)).alloc _).step B2
      have V2 : BCell w2 (w1.heap.size + 1) x y u v := (BCell.new _ (w1.heap.size + 1) x y u v _ (by first | rfl | simp)).step B2
      clear B2 H1
      have c1x0 := V1.c0
      have c1x1 := V1.c1
      have c1x2 := V1.c2
      have c1x3 := V1.c3
      have l1 := V1.lt
      have c2x0 := V2.c0
      have c2x1 := V2.c1
      have c2x2 := V2.c2
      have c2x3 := V2.c3
      have l2 := V2.lt
      have C2 := Lib.hid (show ∀ W : World, Calls Try.prog 21 #[box p q s t, box x y u v] W (fun e w' => e = .returned (.tuple #[box 0 0 0 0, .bool false]) ∧ Below W.heap.size W w') from fun W => by have t := specBMeet p q s t x y u v W; rw [e1, e2, e3, e4, hb] at t; exact t)
      go_wp2_with fail
      refine (C2.out _).mono ?_
      rintro e w3 ⟨rfl, B3⟩
      clear C2
      have H3 := Lib.hid (bl_trans (bl_alloc (H2.out) _) B3)
      have V3 : BCell w3 w1.heap.size p q s t := (V1.alloc _).step B3
      have V4 : BCell w3 (w1.heap.size + 1) x y u v := (V2.alloc _).step B3
      have V5 : BCell w3 (w2.heap.size) 0 0 0 0 := (BCell.new _ (w2.heap.size) 0 0 0 0 _ (by first | rfl | simp)).step B3
      clear B3 H2 V1 c1x0 c1x1 c1x2 c1x3 l1 V2 c2x0 c2x1 c2x2 c2x3 l2
      have c3x0 := V3.c0
      have c3x1 := V3.c1
      have c3x2 := V3.c2
      have c3x3 := V3.c3
      have l3 := V3.lt
      have c4x0 := V4.c0
      have c4x1 := V4.c1
      have c4x2 := V4.c2
      have c4x3 := V4.c3
      have l4 := V4.lt
      have c5x0 := V5.c0
      have c5x1 := V5.c1
      have c5x2 := V5.c2
      have c5x3 := V5.c3
      have l5 := V5.lt
      have C3 := Lib.hid (show ∀ W : World, Calls Try.prog 14 #[box p q s t] W (fun e w' => e = .returned (.bool true) ∧ Below W.heap.size W w') from fun W => by have t := specBValid p q s t W; rw [h1] at t; exact t)
      go_wp2_with fail
      refine (C3.out _).mono ?_
      rintro e w4 ⟨rfl, B4⟩
      clear C3
      have H4 := Lib.hid (bl_trans (bl_alloc (H3.out) _) B4)
      have V6 : BCell w4 w1.heap.size p q s t := (V3.alloc _).step B4
      have V7 : BCell w4 (w1.heap.size + 1) x y u v := (V4.alloc _).step B4
      have V8 : BCell w4 w2.heap.size 0 0 0 0 := (V5.alloc _).step B4
      have V9 : BCell w4 (w3.heap.size) 0 0 0 0 := (BCell.new _ (w3.heap.size) 0 0 0 0 _ (by first | rfl | simp)).step B4
      clear B4 H3 V3 c3x0 c3x1 c3x2 c3x3 l3 V4 c4x0 c4x1 c4x2 c4x3 l4 V5 c5x0 c5x1 c5x2 c5x3 l5
      have c6x0 := V6.c0
      have c6x1 := V6.c1
      have c6x2 := V6.c2
      have c6x3 := V6.c3
      have l6 := V6.lt
      have c7x0 := V7.c0
      have c7x1 := V7.c1
      have c7x2 := V7.c2
      have c7x3 := V7.c3
      have l7 := V7.lt
      have c8x0 := V8.c0
      have c8x1 := V8.c1
      have c8x2 := V8.c2
      have c8x3 := V8.c3
      have l8 := V8.lt
      have c9x0 := V9.c0
      have c9x1 := V9.c1
      have c9x2 := V9.c2
      have c9x3 := V9.c3
      have l9 := V9.lt
      have C4 := Lib.hid (show ∀ W : World, Calls Try.prog 14 #[box x y u v] W (fun e w' => e = .returned (.bool false) ∧ Below W.heap.size W w') from fun W => by have t := specBValid x y u v W; rw [h3] at t; exact t)
      go_wp2_with fail
      refine (C4.out _).mono ?_
      rintro e w5 ⟨rfl, B5⟩
      clear C4
      have H5 := Lib.hid (bl_trans (H4.out) B5)
      have V10 : BCell w5 w1.heap.size p q s t := V6.step B5
      have V11 : BCell w5 (w1.heap.size + 1) x y u v := V7.step B5
      have V12 : BCell w5 w2.heap.size 0 0 0 0 := V8.step B5
      have V13 : BCell w5 w3.heap.size 0 0 0 0 := V9.step B5
      clear B5 H4 V6 c6x0 c6x1 c6x2 c6x3 l6 V7 c7x0 c7x1 c7x2 c7x3 l7 V8 c8x0 c8x1 c8x2 c8x3 l8 V9 c9x0 c9x1 c9x2 c9x3 l9
      have c10x0 := V10.c0
      have c10x1 := V10.c1
      have c10x2 := V10.c2
      have c10x3 := V10.c3
      have l10 := V10.lt
      have c11x0 := V11.c0
      have c11x1 := V11.c1
      have c11x2 := V11.c2
      have c11x3 := V11.c3
      have l11 := V11.lt
      have c12x0 := V12.c0
      have c12x1 := V12.c1
      have c12x2 := V12.c2
      have c12x3 := V12.c3
      have l12 := V12.lt
      have c13x0 := V13.c0
      have c13x1 := V13.c1
      have c13x2 := V13.c2
      have c13x3 := V13.c3
      have l13 := V13.lt
      go_wp2
      all_goals
        go_ret
        first | exact ⟨rfl, (by repeat (first | with_reducible exact H5.out | with_reducible refine bl_alloc ?_ _ | with_reducible refine bl_drew ?_ _))⟩ | exact ⟨ret_b (decide_eq_true (by omega)), (by repeat (first | with_reducible exact H5.out | with_reducible refine bl_alloc ?_ _ | with_reducible refine bl_drew ?_ _))⟩ | exact ⟨ret_b (by simp; omega), (by repeat (first | with_reducible exact H5.out | with_reducible refine bl_alloc ?_ _ | with_reducible refine bl_drew ?_ _))⟩
    obtain ⟨f1, f2, f3, f4⟩ := mt_none hb h1 h3
    have C1 := Lib.hid (show ∀ W : World, Calls Try.prog 20 #[box p q s t, box x y u v] W (fun e w' => e = .returned (.tuple #[box 0 0 0 0, .bool false]) ∧ Below W.heap.size W w') from fun W => by have t := implBMeet p q s t x y u v W; rw [e1, e2, e3, e4, hb] at t; exact t)
    go_wp2_with fail
    refine (C1.out _).mono ?_
    rintro e w2 ⟨rfl, B2⟩
    clear C1
    have H2 := Lib.hid (bl_trans (bl_alloc (bl_alloc (H1.out) _) _) B2)
    have V1 : BCell w2 (w1.heap.size) p q s t := ((BCell.new _ (w1.heap.size) p q s t _ (by first | rfl | simp)).alloc _).step B2
    have V2 : BCell w2 (w1.heap.size + 1) x y u v := (BCell.new _ (w1.heap.size + 1) x y u v _ (by first | rfl | simp)).step B2
    clear B2 H1
    have c1x0 := V1.c0
    have c1x1 := V1.c1
    have c1x2 := V1.c2
    have c1x3 := V1.c3
    have l1 := V1.lt
    have c2x0 := V2.c0
    have c2x1 := V2.c1
    have c2x2 := V2.c2
    have c2x3 := V2.c3
    have l2 := V2.lt
    have C2 := Lib.hid (show ∀ W : World, Calls Try.prog 21 #[box p q s t, box x y u v] W (fun e w' => e = .returned (.tuple #[box 0 0 0 0, .bool false]) ∧ Below W.heap.size W w') from fun W => by have t := specBMeet p q s t x y u v W; rw [e1, e2, e3, e4, hb] at t; exact t)
    go_wp2_with fail
    refine (C2.out _).mono ?_
    rintro e w3 ⟨rfl, B3⟩
    clear C2
    have H3 := Lib.hid (bl_trans (bl_alloc (H2.out) _) B3)
    have V3 : BCell w3 w1.heap.size p q s t := (V1.alloc _).step B3
    have V4 : BCell w3 (w1.heap.size + 1) x y u v := (V2.alloc _).step B3
    have V5 : BCell w3 (w2.heap.size) 0 0 0 0 := (BCell.new _ (w2.heap.size) 0 0 0 0 _ (by first | rfl | simp)).step B3
    clear B3 H2 V1 c1x0 c1x1 c1x2 c1x3 l1 V2 c2x0 c2x1 c2x2 c2x3 l2
    have c3x0 := V3.c0
    have c3x1 := V3.c1
    have c3x2 := V3.c2
    have c3x3 := V3.c3
    have l3 := V3.lt
    have c4x0 := V4.c0
    have c4x1 := V4.c1
    have c4x2 := V4.c2
    have c4x3 := V4.c3
    have l4 := V4.lt
    have c5x0 := V5.c0
    have c5x1 := V5.c1
    have c5x2 := V5.c2
    have c5x3 := V5.c3
    have l5 := V5.lt
    have C3 := Lib.hid (show ∀ W : World, Calls Try.prog 14 #[box p q s t] W (fun e w' => e = .returned (.bool true) ∧ Below W.heap.size W w') from fun W => by have t := specBValid p q s t W; rw [h1] at t; exact t)
    go_wp2_with fail
    refine (C3.out _).mono ?_
    rintro e w4 ⟨rfl, B4⟩
    clear C3
    have H4 := Lib.hid (bl_trans (bl_alloc (H3.out) _) B4)
    have V6 : BCell w4 w1.heap.size p q s t := (V3.alloc _).step B4
    have V7 : BCell w4 (w1.heap.size + 1) x y u v := (V4.alloc _).step B4
    have V8 : BCell w4 w2.heap.size 0 0 0 0 := (V5.alloc _).step B4
    have V9 : BCell w4 (w3.heap.size) 0 0 0 0 := (BCell.new _ (w3.heap.size) 0 0 0 0 _ (by first | rfl | simp)).step B4
    clear B4 H3 V3 c3x0 c3x1 c3x2 c3x3 l3 V4 c4x0 c4x1 c4x2 c4x3 l4 V5 c5x0 c5x1 c5x2 c5x3 l5
    have c6x0 := V6.c0
    have c6x1 := V6.c1
    have c6x2 := V6.c2
    have c6x3 := V6.c3
    have l6 := V6.lt
    have c7x0 := V7.c0
    have c7x1 := V7.c1
    have c7x2 := V7.c2
    have c7x3 := V7.c3
    have l7 := V7.lt
    have c8x0 := V8.c0
    have c8x1 := V8.c1
    have c8x2 := V8.c2
    have c8x3 := V8.c3
    have l8 := V8.lt
    have c9x0 := V9.c0
    have c9x1 := V9.c1
    have c9x2 := V9.c2
    have c9x3 := V9.c3
    have l9 := V9.lt
    have C4 := Lib.hid (show ∀ W : World, Calls Try.prog 14 #[box x y u v] W (fun e w' => e = .returned (.bool true) ∧ Below W.heap.size W w') from fun W => by have t := specBValid x y u v W; rw [h3] at t; exact t)
    go_wp2_with fail
    refine (C4.out _).mono ?_
    rintro e w5 ⟨rfl, B5⟩
    clear C4
    have H5 := Lib.hid (bl_trans (H4.out) B5)
    have V10 : BCell w5 w1.heap.size p q s t := V6.step B5
    have V11 : BCell w5 (w1.heap.size + 1) x y u v := V7.step B5
    have V12 : BCell w5 w2.heap.size 0 0 0 0 := V8.step B5
    have V13 : BCell w5 w3.heap.size 0 0 0 0 := V9.step B5
    clear B5 H4 V6 c6x0 c6x1 c6x2 c6x3 l6 V7 c7x0 c7x1 c7x2 c7x3 l7 V8 c8x0 c8x1 c8x2 c8x3 l8 V9 c9x0 c9x1 c9x2 c9x3 l9
    have c10x0 := V10.c0
    have c10x1 := V10.c1
    have c10x2 := V10.c2
    have c10x3 := V10.c3
    have l10 := V10.lt
    have c11x0 := V11.c0
    have c11x1 := V11.c1
    have c11x2 := V11.c2
    have c11x3 := V11.c3
    have l11 := V11.lt
    have c12x0 := V12.c0
    have c12x1 := V12.c1
    have c12x2 := V12.c2
    have c12x3 := V12.c3
    have l12 := V12.lt
    have c13x0 := V13.c0
    have c13x1 := V13.c1
    have c13x2 := V13.c2
    have c13x3 := V13.c3
    have l13 := V13.lt
    have C5 := Lib.hid (show ∀ W : World, Calls Try.prog 15 #[box p q s t, vec x y] W (fun e w' => e = .returned (.bool false) ∧ Below W.heap.size W w') from fun W => by have t := implBHas p q s t x y W; rw [f1] at t; exact t)
    go_wp2_with fail
    refine (C5.out _).mono ?_
    rintro e w6 ⟨rfl, B6⟩
    clear C5
    have H6 := Lib.hid (bl_trans (H5.out) B6)
    have V14 : BCell w6 w1.heap.size p q s t := V10.step B6
    have V15 : BCell w6 (w1.heap.size + 1) x y u v := V11.step B6
    have V16 : BCell w6 w2.heap.size 0 0 0 0 := V12.step B6
    have V17 : BCell w6 w3.heap.size 0 0 0 0 := V13.step B6
    clear B6 H5 V10 c10x0 c10x1 c10x2 c10x3 l10 V11 c11x0 c11x1 c11x2 c11x3 l11 V12 c12x0 c12x1 c12x2 c12x3 l12 V13 c13x0 c13x1 c13x2 c13x3 l13
    have c14x0 := V14.c0
    have c14x1 := V14.c1
    have c14x2 := V14.c2
    have c14x3 := V14.c3
    have l14 := V14.lt
    have c15x0 := V15.c0
    have c15x1 := V15.c1
    have c15x2 := V15.c2
    have c15x3 := V15.c3
    have l15 := V15.lt
    have c16x0 := V16.c0
    have c16x1 := V16.c1
    have c16x2 := V16.c2
    have c16x3 := V16.c3
    have l16 := V16.lt
    have c17x0 := V17.c0
    have c17x1 := V17.c1
    have c17x2 := V17.c2
    have c17x3 := V17.c3
    have l17 := V17.lt
    have C6 := Lib.hid (show ∀ W : World, Calls Try.prog 15 #[box p q s t, vec u v] W (fun e w' => e = .returned (.bool false) ∧ Below W.heap.size W w') from fun W => by have t := implBHas p q s t u v W; rw [f2] at t; exact t)
    go_wp2_with fail
    refine (C6.out _).mono ?_
    rintro e w7 ⟨rfl, B7⟩
    clear C6
    have H7 := Lib.hid (bl_trans (H6.out) B7)
    have V18 : BCell w7 w1.heap.size p q s t := V14.step B7
    have V19 : BCell w7 (w1.heap.size + 1) x y u v := V15.step B7
    have V20 : BCell w7 w2.heap.size 0 0 0 0 := V16.step B7
    have V21 : BCell w7 w3.heap.size 0 0 0 0 := V17.step B7
    clear B7 H6 V14 c14x0 c14x1 c14x2 c14x3 l14 V15 c15x0 c15x1 c15x2 c15x3 l15 V16 c16x0 c16x1 c16x2 c16x3 l16 V17 c17x0 c17x1 c17x2 c17x3 l17
    have c18x0 := V18.c0
    have c18x1 := V18.c1
    have c18x2 := V18.c2
    have c18x3 := V18.c3
    have l18 := V18.lt
    have c19x0 := V19.c0
    have c19x1 := V19.c1
    have c19x2 := V19.c2
    have c19x3 := V19.c3
    have l19 := V19.lt
    have c20x0 := V20.c0
    have c20x1 := V20.c1
    have c20x2 := V20.c2
    have c20x3 := V20.c3
    have l20 := V20.lt
    have c21x0 := V21.c0
    have c21x1 := V21.c1
    have c21x2 := V21.c2
    have c21x3 := V21.c3
    have l21 := V21.lt
    have C7 := Lib.hid (show ∀ W : World, Calls Try.prog 15 #[box x y u v, vec p q] W (fun e w' => e = .returned (.bool false) ∧ Below W.heap.size W w') from fun W => by have t := implBHas x y u v p q W; rw [f3] at t; exact t)
    go_wp2_with fail
    refine (C7.out _).mono ?_
    rintro e w8 ⟨rfl, B8⟩
    clear C7
    have H8 := Lib.hid (bl_trans (H7.out) B8)
    have V22 : BCell w8 w1.heap.size p q s t := V18.step B8
    have V23 : BCell w8 (w1.heap.size + 1) x y u v := V19.step B8
    have V24 : BCell w8 w2.heap.size 0 0 0 0 := V20.step B8
    have V25 : BCell w8 w3.heap.size 0 0 0 0 := V21.step B8
    clear B8 H7 V18 c18x0 c18x1 c18x2 c18x3 l18 V19 c19x0 c19x1 c19x2 c19x3 l19 V20 c20x0 c20x1 c20x2 c20x3 l20 V21 c21x0 c21x1 c21x2 c21x3 l21
    have c22x0 := V22.c0
    have c22x1 := V22.c1
    have c22x2 := V22.c2
    have c22x3 := V22.c3
    have l22 := V22.lt
    have c23x0 := V23.c0
    have c23x1 := V23.c1
    have c23x2 := V23.c2
    have c23x3 := V23.c3
    have l23 := V23.lt
    have c24x0 := V24.c0
    have c24x1 := V24.c1
    have c24x2 := V24.c2
    have c24x3 := V24.c3
    have l24 := V24.lt
    have c25x0 := V25.c0
    have c25x1 := V25.c1
    have c25x2 := V25.c2
    have c25x3 := V25.c3
    have l25 := V25.lt
    have C8 := Lib.hid (show ∀ W : World, Calls Try.prog 15 #[box x y u v, vec s t] W (fun e w' => e = .returned (.bool false) ∧ Below W.heap.size W w') from fun W => by have t := implBHas x y u v s t W; rw [f4] at t; exact t)
    go_wp2_with fail
    refine (C8.out _).mono ?_
    rintro e w9 ⟨rfl, B9⟩
    clear C8
    have H9 := Lib.hid (bl_trans (H8.out) B9)
    have V26 : BCell w9 w1.heap.size p q s t := V22.step B9
    have V27 : BCell w9 (w1.heap.size + 1) x y u v := V23.step B9
    have V28 : BCell w9 w2.heap.size 0 0 0 0 := V24.step B9
    have V29 : BCell w9 w3.heap.size 0 0 0 0 := V25.step B9
    clear B9 H8 V22 c22x0 c22x1 c22x2 c22x3 l22 V23 c23x0 c23x1 c23x2 c23x3 l23 V24 c24x0 c24x1 c24x2 c24x3 l24 V25 c25x0 c25x1 c25x2 c25x3 l25
    have c26x0 := V26.c0
    have c26x1 := V26.c1
    have c26x2 := V26.c2
    have c26x3 := V26.c3
    have l26 := V26.lt
    have c27x0 := V27.c0
    have c27x1 := V27.c1
    have c27x2 := V27.c2
    have c27x3 := V27.c3
    have l27 := V27.lt
    have c28x0 := V28.c0
    have c28x1 := V28.c1
    have c28x2 := V28.c2
    have c28x3 := V28.c3
    have l28 := V28.lt
    have c29x0 := V29.c0
    have c29x1 := V29.c1
    have c29x2 := V29.c2
    have c29x3 := V29.c3
    have l29 := V29.lt
    go_wp2
    all_goals
      go_ret
      first | exact ⟨rfl, (by repeat (first | with_reducible exact H9.out | with_reducible refine bl_alloc ?_ _ | with_reducible refine bl_drew ?_ _))⟩ | exact ⟨ret_b (decide_eq_true (by omega)), (by repeat (first | with_reducible exact H9.out | with_reducible refine bl_alloc ?_ _ | with_reducible refine bl_drew ?_ _))⟩ | exact ⟨ret_b (by simp; omega), (by repeat (first | with_reducible exact H9.out | with_reducible refine bl_alloc ?_ _ | with_reducible refine bl_drew ?_ _))⟩
  · obtain ⟨A, E, C, D, e1, e2, e3, e4, eA, eE, eC, eD, h1, h3, h4⟩ := mt_true hb
    clear eA eE eC eD
    have C1 := Lib.hid (show ∀ W : World, Calls Try.prog 20 #[box p q s t, box x y u v] W (fun e w' => e = .returned (.tuple #[box A E C D, .bool true]) ∧ Below W.heap.size W w') from fun W => by have t := implBMeet p q s t x y u v W; rw [e1, e2, e3, e4, hb] at t; exact t)
    go_wp2_with fail
    refine (C1.out _).mono ?_
    rintro e w2 ⟨rfl, B2⟩
    clear C1
    have H2 := Lib.hid (bl_trans (bl_alloc (bl_alloc (H1.out) _) _) B2)
    have V1 : BCell w2 (w1.heap.size) p q s t := ((BCell.new _ (w1.heap.size) p q s t _ (by first | rfl | simp)).alloc _).step B2
    have V2 : BCell w2 (w1.heap.size + 1) x y u v := (BCell.new _ (w1.heap.size + 1) x y u v _ (by first | rfl | simp)).step B2
    clear B2 H1
    have c1x0 := V1.c0
    have c1x1 := V1.c1
    have c1x2 := V1.c2
    have c1x3 := V1.c3
    have l1 := V1.lt
    have c2x0 := V2.c0
    have c2x1 := V2.c1
    have c2x2 := V2.c2
    have c2x3 := V2.c3
    have l2 := V2.lt
    have C2 := Lib.hid (show ∀ W : World, Calls Try.prog 21 #[box p q s t, box x y u v] W (fun e w' => e = .returned (.tuple #[box A E C D, .bool true]) ∧ Below W.heap.size W w') from fun W => by have t := specBMeet p q s t x y u v W; rw [e1, e2, e3, e4, hb] at t; exact t)
    go_wp2_with fail
    refine (C2.out _).mono ?_
    rintro e w3 ⟨rfl, B3⟩
    clear C2
    have H3 := Lib.hid (bl_trans (bl_alloc (H2.out) _) B3)
    have V3 : BCell w3 w1.heap.size p q s t := (V1.alloc _).step B3
    have V4 : BCell w3 (w1.heap.size + 1) x y u v := (V2.alloc _).step B3
    have V5 : BCell w3 (w2.heap.size) A E C D := (BCell.new _ (w2.heap.size) A E C D _ (by first | rfl | simp)).step B3
    clear B3 H2 V1 c1x0 c1x1 c1x2 c1x3 l1 V2 c2x0 c2x1 c2x2 c2x3 l2
    have c3x0 := V3.c0
    have c3x1 := V3.c1
    have c3x2 := V3.c2
    have c3x3 := V3.c3
    have l3 := V3.lt
    have c4x0 := V4.c0
    have c4x1 := V4.c1
    have c4x2 := V4.c2
    have c4x3 := V4.c3
    have l4 := V4.lt
    have c5x0 := V5.c0
    have c5x1 := V5.c1
    have c5x2 := V5.c2
    have c5x3 := V5.c3
    have l5 := V5.lt
    go_wp2
    all_goals
      go_ret
      first | exact ⟨rfl, (by repeat (first | with_reducible exact H3.out | with_reducible refine bl_alloc ?_ _ | with_reducible refine bl_drew ?_ _))⟩ | exact ⟨ret_b (decide_eq_true (by omega)), (by repeat (first | with_reducible exact H3.out | with_reducible refine bl_alloc ?_ _ | with_reducible refine bl_drew ?_ _))⟩ | exact ⟨ret_b (by simp; omega), (by repeat (first | with_reducible exact H3.out | with_reducible refine bl_alloc ?_ _ | with_reducible refine bl_drew ?_ _))⟩

set_option maxHeartbeats 4000000 in
theorem walk_FnTouches (a : Option Addr) (len cap : Nat) (zs : List Int) (w : World) (h : IsRow .u8 w a len cap zs) :
    Calls Try.prog 11 #[.slice a len cap] w fun e w' => e = .returned (.bool true) ∧ Below w.heap.size w w' := by
  have hm := h.bytes.1
  have hm2 := h.bytes.2.1
  unfold maxLen at hm2
  by_cases g : 1048576 < len
  · have g1 : (1048576 : Int) < (len : Int) := by omega
    go_enter Try.func11, Try.ntmps11
    go_wp2
    go_ret
    exact ⟨rfl, Below.refl _ _⟩
  have g1 : (len : Int) ≤ 1048576 := by omega
  go_enter Try.func11, Try.ntmps11
  go_wp2_with fail
  refine (draw_btouch a len cap zs w h).mono ?_
  rintro e w1 ⟨p, q, s, t, x, y, r, ⟨⟨p1, p2⟩, ⟨q1, q2⟩, ⟨s1, s2⟩, t1, t2⟩, ⟨⟨x1, x2⟩, y1, y2⟩, ⟨r1, r2⟩, rfl, B1⟩
  have H1 := Lib.hid B1
  clear B1 h
  cases hb : bvB p q s t
  · have f := tc_no1 (x := x) (y := y) (r := r) hb
    have C1 := Lib.hid (show ∀ W : World, Calls Try.prog 27 #[box p q s t, vec x y, .int .i64 r] W (fun e w' => e = .returned (.bool false) ∧ Below W.heap.size W w') from fun W => by have t := implBTouch p q s t x y r W; rw [f] at t; exact t)
    go_wp2_with fail
    refine (C1.out _).mono ?_
    rintro e w2 ⟨rfl, B2⟩
    clear C1
    have H2 := Lib.hid (bl_trans (bl_alloc (bl_alloc (H1.out) _) _) B2)
    have V1 : BCell w2 (w1.heap.size) p q s t := ((BCell.new _ (w1.heap.size) p q s t _ (by first | rfl | simp)).alloc _).step B2
    have V2 : PCell w2 (w1.heap.size + 1) x y := (PCell.new _ (w1.heap.size + 1) x y _ (by first | rfl | simp)).step B2
    clear B2 H1
    have c1x0 := V1.c0
    have c1x1 := V1.c1
    have c1x2 := V1.c2
    have c1x3 := V1.c3
    have l1 := V1.lt
    have c2x0 := V2.c0
    have c2x1 := V2.c1
    have l2 := V2.lt
    have C2 := Lib.hid (show ∀ W : World, Calls Try.prog 28 #[box p q s t, vec x y, .int .i64 r] W (fun e w' => e = .returned (.bool false) ∧ Below W.heap.size W w') from fun W => by have t := specBTouch p q s t x y r W; rw [f] at t; exact t)
    go_wp2_with fail
    refine (C2.out _).mono ?_
    rintro e w3 ⟨rfl, B3⟩
    clear C2
    have H3 := Lib.hid (bl_trans (H2.out) B3)
    have V3 : BCell w3 w1.heap.size p q s t := V1.step B3
    have V4 : PCell w3 (w1.heap.size + 1) x y := V2.step B3
    clear B3 H2 V1 c1x0 c1x1 c1x2 c1x3 l1 V2 c2x0 c2x1 l2
    have c3x0 := V3.c0
    have c3x1 := V3.c1
    have c3x2 := V3.c2
    have c3x3 := V3.c3
    have l3 := V3.lt
    have c4x0 := V4.c0
    have c4x1 := V4.c1
    have l4 := V4.lt
    have C3 := Lib.hid (show ∀ W : World, Calls Try.prog 14 #[box p q s t] W (fun e w' => e = .returned (.bool false) ∧ Below W.heap.size W w') from fun W => by have t := specBValid p q s t W; rw [hb] at t; exact t)
    go_wp2_with fail
    refine (C3.out _).mono ?_
    rintro e w4 ⟨rfl, B4⟩
    clear C3
    have H4 := Lib.hid (bl_trans (H3.out) B4)
    have V5 : BCell w4 w1.heap.size p q s t := V3.step B4
    have V6 : PCell w4 (w1.heap.size + 1) x y := V4.step B4
    clear B4 H3 V3 c3x0 c3x1 c3x2 c3x3 l3 V4 c4x0 c4x1 l4
    have c5x0 := V5.c0
    have c5x1 := V5.c1
    have c5x2 := V5.c2
    have c5x3 := V5.c3
    have l5 := V5.lt
    have c6x0 := V6.c0
    have c6x1 := V6.c1
    have l6 := V6.lt
    go_wp2
    all_goals
      go_ret
      first | exact ⟨rfl, (by repeat (first | with_reducible exact H4.out | with_reducible refine bl_alloc ?_ _ | with_reducible refine bl_drew ?_ _))⟩ | exact ⟨ret_b (decide_eq_true (by omega)), (by repeat (first | with_reducible exact H4.out | with_reducible refine bl_alloc ?_ _ | with_reducible refine bl_drew ?_ _))⟩ | exact ⟨ret_b (by simp; omega), (by repeat (first | with_reducible exact H4.out | with_reducible refine bl_alloc ?_ _ | with_reducible refine bl_drew ?_ _))⟩
  cases hv : vokB x y
  · have f := tc_no2 (a := p) (b := q) (c := s) (d := t) (r := r) hv
    have C1 := Lib.hid (show ∀ W : World, Calls Try.prog 27 #[box p q s t, vec x y, .int .i64 r] W (fun e w' => e = .returned (.bool false) ∧ Below W.heap.size W w') from fun W => by have t := implBTouch p q s t x y r W; rw [f] at t; exact t)
    go_wp2_with fail
    refine (C1.out _).mono ?_
    rintro e w2 ⟨rfl, B2⟩
    clear C1
    have H2 := Lib.hid (bl_trans (bl_alloc (bl_alloc (H1.out) _) _) B2)
    have V1 : BCell w2 (w1.heap.size) p q s t := ((BCell.new _ (w1.heap.size) p q s t _ (by first | rfl | simp)).alloc _).step B2
    have V2 : PCell w2 (w1.heap.size + 1) x y := (PCell.new _ (w1.heap.size + 1) x y _ (by first | rfl | simp)).step B2
    clear B2 H1
    have c1x0 := V1.c0
    have c1x1 := V1.c1
    have c1x2 := V1.c2
    have c1x3 := V1.c3
    have l1 := V1.lt
    have c2x0 := V2.c0
    have c2x1 := V2.c1
    have l2 := V2.lt
    have C2 := Lib.hid (show ∀ W : World, Calls Try.prog 28 #[box p q s t, vec x y, .int .i64 r] W (fun e w' => e = .returned (.bool false) ∧ Below W.heap.size W w') from fun W => by have t := specBTouch p q s t x y r W; rw [f] at t; exact t)
    go_wp2_with fail
    refine (C2.out _).mono ?_
    rintro e w3 ⟨rfl, B3⟩
    clear C2
    have H3 := Lib.hid (bl_trans (H2.out) B3)
    have V3 : BCell w3 w1.heap.size p q s t := V1.step B3
    have V4 : PCell w3 (w1.heap.size + 1) x y := V2.step B3
    clear B3 H2 V1 c1x0 c1x1 c1x2 c1x3 l1 V2 c2x0 c2x1 l2
    have c3x0 := V3.c0
    have c3x1 := V3.c1
    have c3x2 := V3.c2
    have c3x3 := V3.c3
    have l3 := V3.lt
    have c4x0 := V4.c0
    have c4x1 := V4.c1
    have l4 := V4.lt
    have C3 := Lib.hid (show ∀ W : World, Calls Try.prog 14 #[box p q s t] W (fun e w' => e = .returned (.bool true) ∧ Below W.heap.size W w') from fun W => by have t := specBValid p q s t W; rw [hb] at t; exact t)
    go_wp2_with fail
    refine (C3.out _).mono ?_
    rintro e w4 ⟨rfl, B4⟩
    clear C3
    have H4 := Lib.hid (bl_trans (H3.out) B4)
    have V5 : BCell w4 w1.heap.size p q s t := V3.step B4
    have V6 : PCell w4 (w1.heap.size + 1) x y := V4.step B4
    clear B4 H3 V3 c3x0 c3x1 c3x2 c3x3 l3 V4 c4x0 c4x1 l4
    have c5x0 := V5.c0
    have c5x1 := V5.c1
    have c5x2 := V5.c2
    have c5x3 := V5.c3
    have l5 := V5.lt
    have c6x0 := V6.c0
    have c6x1 := V6.c1
    have l6 := V6.lt
    have C4 := Lib.hid (show ∀ W : World, Calls Try.prog 18 #[vec x y] W (fun e w' => e = .returned (.bool false) ∧ Below W.heap.size W w') from fun W => by have t := specVecOk x y W; rw [hv] at t; exact t)
    go_wp2_with fail
    refine (C4.out _).mono ?_
    rintro e w5 ⟨rfl, B5⟩
    clear C4
    have H5 := Lib.hid (bl_trans (H4.out) B5)
    have V7 : BCell w5 w1.heap.size p q s t := V5.step B5
    have V8 : PCell w5 (w1.heap.size + 1) x y := V6.step B5
    clear B5 H4 V5 c5x0 c5x1 c5x2 c5x3 l5 V6 c6x0 c6x1 l6
    have c7x0 := V7.c0
    have c7x1 := V7.c1
    have c7x2 := V7.c2
    have c7x3 := V7.c3
    have l7 := V7.lt
    have c8x0 := V8.c0
    have c8x1 := V8.c1
    have l8 := V8.lt
    go_wp2
    all_goals
      go_ret
      first | exact ⟨rfl, (by repeat (first | with_reducible exact H5.out | with_reducible refine bl_alloc ?_ _ | with_reducible refine bl_drew ?_ _))⟩ | exact ⟨ret_b (decide_eq_true (by omega)), (by repeat (first | with_reducible exact H5.out | with_reducible refine bl_alloc ?_ _ | with_reducible refine bl_drew ?_ _))⟩ | exact ⟨ret_b (by simp; omega), (by repeat (first | with_reducible exact H5.out | with_reducible refine bl_alloc ?_ _ | with_reducible refine bl_drew ?_ _))⟩
  by_cases k1 : r < 0
  · have f := tc_no3 (a := p) (b := q) (c := s) (d := t) (x := x) (y := y) (inB_no (n := r) (lo := 0) (hi := 1000000) (by omega))
    have C1 := Lib.hid (show ∀ W : World, Calls Try.prog 27 #[box p q s t, vec x y, .int .i64 r] W (fun e w' => e = .returned (.bool false) ∧ Below W.heap.size W w') from fun W => by have t := implBTouch p q s t x y r W; rw [f] at t; exact t)
    go_wp2_with fail
    refine (C1.out _).mono ?_
    rintro e w2 ⟨rfl, B2⟩
    clear C1
    have H2 := Lib.hid (bl_trans (bl_alloc (bl_alloc (H1.out) _) _) B2)
    have V1 : BCell w2 (w1.heap.size) p q s t := ((BCell.new _ (w1.heap.size) p q s t _ (by first | rfl | simp)).alloc _).step B2
    have V2 : PCell w2 (w1.heap.size + 1) x y := (PCell.new _ (w1.heap.size + 1) x y _ (by first | rfl | simp)).step B2
    clear B2 H1
    have c1x0 := V1.c0
    have c1x1 := V1.c1
    have c1x2 := V1.c2
    have c1x3 := V1.c3
    have l1 := V1.lt
    have c2x0 := V2.c0
    have c2x1 := V2.c1
    have l2 := V2.lt
    have C2 := Lib.hid (show ∀ W : World, Calls Try.prog 28 #[box p q s t, vec x y, .int .i64 r] W (fun e w' => e = .returned (.bool false) ∧ Below W.heap.size W w') from fun W => by have t := specBTouch p q s t x y r W; rw [f] at t; exact t)
    go_wp2_with fail
    refine (C2.out _).mono ?_
    rintro e w3 ⟨rfl, B3⟩
    clear C2
    have H3 := Lib.hid (bl_trans (H2.out) B3)
    have V3 : BCell w3 w1.heap.size p q s t := V1.step B3
    have V4 : PCell w3 (w1.heap.size + 1) x y := V2.step B3
    clear B3 H2 V1 c1x0 c1x1 c1x2 c1x3 l1 V2 c2x0 c2x1 l2
    have c3x0 := V3.c0
    have c3x1 := V3.c1
    have c3x2 := V3.c2
    have c3x3 := V3.c3
    have l3 := V3.lt
    have c4x0 := V4.c0
    have c4x1 := V4.c1
    have l4 := V4.lt
    have C3 := Lib.hid (show ∀ W : World, Calls Try.prog 14 #[box p q s t] W (fun e w' => e = .returned (.bool true) ∧ Below W.heap.size W w') from fun W => by have t := specBValid p q s t W; rw [hb] at t; exact t)
    go_wp2_with fail
    refine (C3.out _).mono ?_
    rintro e w4 ⟨rfl, B4⟩
    clear C3
    have H4 := Lib.hid (bl_trans (H3.out) B4)
    have V5 : BCell w4 w1.heap.size p q s t := V3.step B4
    have V6 : PCell w4 (w1.heap.size + 1) x y := V4.step B4
    clear B4 H3 V3 c3x0 c3x1 c3x2 c3x3 l3 V4 c4x0 c4x1 l4
    have c5x0 := V5.c0
    have c5x1 := V5.c1
    have c5x2 := V5.c2
    have c5x3 := V5.c3
    have l5 := V5.lt
    have c6x0 := V6.c0
    have c6x1 := V6.c1
    have l6 := V6.lt
    have C4 := Lib.hid (show ∀ W : World, Calls Try.prog 18 #[vec x y] W (fun e w' => e = .returned (.bool true) ∧ Below W.heap.size W w') from fun W => by have t := specVecOk x y W; rw [hv] at t; exact t)
    go_wp2_with fail
    refine (C4.out _).mono ?_
    rintro e w5 ⟨rfl, B5⟩
    clear C4
    have H5 := Lib.hid (bl_trans (H4.out) B5)
    have V7 : BCell w5 w1.heap.size p q s t := V5.step B5
    have V8 : PCell w5 (w1.heap.size + 1) x y := V6.step B5
    clear B5 H4 V5 c5x0 c5x1 c5x2 c5x3 l5 V6 c6x0 c6x1 l6
    have c7x0 := V7.c0
    have c7x1 := V7.c1
    have c7x2 := V7.c2
    have c7x3 := V7.c3
    have l7 := V7.lt
    have c8x0 := V8.c0
    have c8x1 := V8.c1
    have l8 := V8.lt
    go_wp2
    all_goals
      go_ret
      first | exact ⟨rfl, (by repeat (first | with_reducible exact H5.out | with_reducible refine bl_alloc ?_ _ | with_reducible refine bl_drew ?_ _))⟩ | exact ⟨ret_b (decide_eq_true (by omega)), (by repeat (first | with_reducible exact H5.out | with_reducible refine bl_alloc ?_ _ | with_reducible refine bl_drew ?_ _))⟩ | exact ⟨ret_b (by simp; omega), (by repeat (first | with_reducible exact H5.out | with_reducible refine bl_alloc ?_ _ | with_reducible refine bl_drew ?_ _))⟩
  by_cases k2 : 1000000 < r
  · have f := tc_no3 (a := p) (b := q) (c := s) (d := t) (x := x) (y := y) (inB_no (n := r) (lo := 0) (hi := 1000000) (by omega))
    have C1 := Lib.hid (show ∀ W : World, Calls Try.prog 27 #[box p q s t, vec x y, .int .i64 r] W (fun e w' => e = .returned (.bool false) ∧ Below W.heap.size W w') from fun W => by have t := implBTouch p q s t x y r W; rw [f] at t; exact t)
    go_wp2_with fail
    refine (C1.out _).mono ?_
    rintro e w2 ⟨rfl, B2⟩
    clear C1
    have H2 := Lib.hid (bl_trans (bl_alloc (bl_alloc (H1.out) _) _) B2)
    have V1 : BCell w2 (w1.heap.size) p q s t := ((BCell.new _ (w1.heap.size) p q s t _ (by first | rfl | simp)).alloc _).step B2
    have V2 : PCell w2 (w1.heap.size + 1) x y := (PCell.new _ (w1.heap.size + 1) x y _ (by first | rfl | simp)).step B2
    clear B2 H1
    have c1x0 := V1.c0
    have c1x1 := V1.c1
    have c1x2 := V1.c2
    have c1x3 := V1.c3
    have l1 := V1.lt
    have c2x0 := V2.c0
    have c2x1 := V2.c1
    have l2 := V2.lt
    have C2 := Lib.hid (show ∀ W : World, Calls Try.prog 28 #[box p q s t, vec x y, .int .i64 r] W (fun e w' => e = .returned (.bool false) ∧ Below W.heap.size W w') from fun W => by have t := specBTouch p q s t x y r W; rw [f] at t; exact t)
    go_wp2_with fail
    refine (C2.out _).mono ?_
    rintro e w3 ⟨rfl, B3⟩
    clear C2
    have H3 := Lib.hid (bl_trans (H2.out) B3)
    have V3 : BCell w3 w1.heap.size p q s t := V1.step B3
    have V4 : PCell w3 (w1.heap.size + 1) x y := V2.step B3
    clear B3 H2 V1 c1x0 c1x1 c1x2 c1x3 l1 V2 c2x0 c2x1 l2
    have c3x0 := V3.c0
    have c3x1 := V3.c1
    have c3x2 := V3.c2
    have c3x3 := V3.c3
    have l3 := V3.lt
    have c4x0 := V4.c0
    have c4x1 := V4.c1
    have l4 := V4.lt
    have C3 := Lib.hid (show ∀ W : World, Calls Try.prog 14 #[box p q s t] W (fun e w' => e = .returned (.bool true) ∧ Below W.heap.size W w') from fun W => by have t := specBValid p q s t W; rw [hb] at t; exact t)
    go_wp2_with fail
    refine (C3.out _).mono ?_
    rintro e w4 ⟨rfl, B4⟩
    clear C3
    have H4 := Lib.hid (bl_trans (H3.out) B4)
    have V5 : BCell w4 w1.heap.size p q s t := V3.step B4
    have V6 : PCell w4 (w1.heap.size + 1) x y := V4.step B4
    clear B4 H3 V3 c3x0 c3x1 c3x2 c3x3 l3 V4 c4x0 c4x1 l4
    have c5x0 := V5.c0
    have c5x1 := V5.c1
    have c5x2 := V5.c2
    have c5x3 := V5.c3
    have l5 := V5.lt
    have c6x0 := V6.c0
    have c6x1 := V6.c1
    have l6 := V6.lt
    have C4 := Lib.hid (show ∀ W : World, Calls Try.prog 18 #[vec x y] W (fun e w' => e = .returned (.bool true) ∧ Below W.heap.size W w') from fun W => by have t := specVecOk x y W; rw [hv] at t; exact t)
    go_wp2_with fail
    refine (C4.out _).mono ?_
    rintro e w5 ⟨rfl, B5⟩
    clear C4
    have H5 := Lib.hid (bl_trans (H4.out) B5)
    have V7 : BCell w5 w1.heap.size p q s t := V5.step B5
    have V8 : PCell w5 (w1.heap.size + 1) x y := V6.step B5
    clear B5 H4 V5 c5x0 c5x1 c5x2 c5x3 l5 V6 c6x0 c6x1 l6
    have c7x0 := V7.c0
    have c7x1 := V7.c1
    have c7x2 := V7.c2
    have c7x3 := V7.c3
    have l7 := V7.lt
    have c8x0 := V8.c0
    have c8x1 := V8.c1
    have l8 := V8.lt
    go_wp2
    all_goals
      go_ret
      first | exact ⟨rfl, (by repeat (first | with_reducible exact H5.out | with_reducible refine bl_alloc ?_ _ | with_reducible refine bl_drew ?_ _))⟩ | exact ⟨ret_b (decide_eq_true (by omega)), (by repeat (first | with_reducible exact H5.out | with_reducible refine bl_alloc ?_ _ | with_reducible refine bl_drew ?_ _))⟩ | exact ⟨ret_b (by simp; omega), (by repeat (first | with_reducible exact H5.out | with_reducible refine bl_alloc ?_ _ | with_reducible refine bl_drew ?_ _))⟩
  have gb := bv_fields hb
  have gv := (vok_iff x y).1 hv
  obtain ⟨X, eX⟩ : ∃ X, X = max p (min x s) := ⟨_, rfl⟩
  obtain ⟨Y, eY⟩ : ∃ Y, Y = max q (min y t) := ⟨_, rfl⟩
  have f0 := tc_sq (r := r) hb hv (by omega) (by omega) eX eY
  obtain ⟨n1, n2, n3⟩ := nr_mk hb hv eX.symm eY.symm
  have X1 : -1200000 ≤ X ∧ X ≤ 1200000 := by omega
  have Y1 : -1200000 ≤ Y ∧ Y ≤ 1200000 := by omega
  have rr := mul_bd (a := r) (b := r) (by omega) (by omega) (by omega) (by omega)
  clear eX eY gb gv
  by_cases k3 : dsq X Y x y ≤ r * r
  · have f := f0.trans (decide_eq_true k3)
    clear f0
    have C1 := Lib.hid (show ∀ W : World, Calls Try.prog 27 #[box p q s t, vec x y, .int .i64 r] W (fun e w' => e = .returned (.bool true) ∧ Below W.heap.size W w') from fun W => by have t := implBTouch p q s t x y r W; rw [f] at t; exact t)
    go_wp2_with fail
    refine (C1.out _).mono ?_
    rintro e w2 ⟨rfl, B2⟩
    clear C1
    have H2 := Lib.hid (bl_trans (bl_alloc (bl_alloc (H1.out) _) _) B2)
    have V1 : BCell w2 (w1.heap.size) p q s t := ((BCell.new _ (w1.heap.size) p q s t _ (by first | rfl | simp)).alloc _).step B2
    have V2 : PCell w2 (w1.heap.size + 1) x y := (PCell.new _ (w1.heap.size + 1) x y _ (by first | rfl | simp)).step B2
    clear B2 H1
    have c1x0 := V1.c0
    have c1x1 := V1.c1
    have c1x2 := V1.c2
    have c1x3 := V1.c3
    have l1 := V1.lt
    have c2x0 := V2.c0
    have c2x1 := V2.c1
    have l2 := V2.lt
    have C2 := Lib.hid (show ∀ W : World, Calls Try.prog 28 #[box p q s t, vec x y, .int .i64 r] W (fun e w' => e = .returned (.bool true) ∧ Below W.heap.size W w') from fun W => by have t := specBTouch p q s t x y r W; rw [f] at t; exact t)
    go_wp2_with fail
    refine (C2.out _).mono ?_
    rintro e w3 ⟨rfl, B3⟩
    clear C2
    have H3 := Lib.hid (bl_trans (H2.out) B3)
    have V3 : BCell w3 w1.heap.size p q s t := V1.step B3
    have V4 : PCell w3 (w1.heap.size + 1) x y := V2.step B3
    clear B3 H2 V1 c1x0 c1x1 c1x2 c1x3 l1 V2 c2x0 c2x1 l2
    have c3x0 := V3.c0
    have c3x1 := V3.c1
    have c3x2 := V3.c2
    have c3x3 := V3.c3
    have l3 := V3.lt
    have c4x0 := V4.c0
    have c4x1 := V4.c1
    have l4 := V4.lt
    have C3 := Lib.hid (show ∀ W : World, Calls Try.prog 14 #[box p q s t] W (fun e w' => e = .returned (.bool true) ∧ Below W.heap.size W w') from fun W => by have t := specBValid p q s t W; rw [hb] at t; exact t)
    go_wp2_with fail
    refine (C3.out _).mono ?_
    rintro e w4 ⟨rfl, B4⟩
    clear C3
    have H4 := Lib.hid (bl_trans (H3.out) B4)
    have V5 : BCell w4 w1.heap.size p q s t := V3.step B4
    have V6 : PCell w4 (w1.heap.size + 1) x y := V4.step B4
    clear B4 H3 V3 c3x0 c3x1 c3x2 c3x3 l3 V4 c4x0 c4x1 l4
    have c5x0 := V5.c0
    have c5x1 := V5.c1
    have c5x2 := V5.c2
    have c5x3 := V5.c3
    have l5 := V5.lt
    have c6x0 := V6.c0
    have c6x1 := V6.c1
    have l6 := V6.lt
    have C4 := Lib.hid (show ∀ W : World, Calls Try.prog 18 #[vec x y] W (fun e w' => e = .returned (.bool true) ∧ Below W.heap.size W w') from fun W => by have t := specVecOk x y W; rw [hv] at t; exact t)
    go_wp2_with fail
    refine (C4.out _).mono ?_
    rintro e w5 ⟨rfl, B5⟩
    clear C4
    have H5 := Lib.hid (bl_trans (H4.out) B5)
    have V7 : BCell w5 w1.heap.size p q s t := V5.step B5
    have V8 : PCell w5 (w1.heap.size + 1) x y := V6.step B5
    clear B5 H4 V5 c5x0 c5x1 c5x2 c5x3 l5 V6 c6x0 c6x1 l6
    have c7x0 := V7.c0
    have c7x1 := V7.c1
    have c7x2 := V7.c2
    have c7x3 := V7.c3
    have l7 := V7.lt
    have c8x0 := V8.c0
    have c8x1 := V8.c1
    have l8 := V8.lt
    have C5 := Lib.hid (show ∀ W : World, Calls Try.prog 23 #[box p q s t, vec x y] W (fun e w' => e = .returned (.tuple #[vec X Y, .bool true]) ∧ Below W.heap.size W w') from fun W => by have t := implBNear p q s t x y W; rw [n1, n2, n3] at t; exact t)
    go_wp2_with fail
    refine (C5.out _).mono ?_
    rintro e w6 ⟨rfl, B6⟩
    clear C5
    have H6 := Lib.hid (bl_trans (H5.out) B6)
    have V9 : BCell w6 w1.heap.size p q s t := V7.step B6
    have V10 : PCell w6 (w1.heap.size + 1) x y := V8.step B6
    clear B6 H5 V7 c7x0 c7x1 c7x2 c7x3 l7 V8 c8x0 c8x1 l8
    have c9x0 := V9.c0
    have c9x1 := V9.c1
    have c9x2 := V9.c2
    have c9x3 := V9.c3
    have l9 := V9.lt
    have c10x0 := V10.c0
    have c10x1 := V10.c1
    have l10 := V10.lt
    have C6 := Lib.hid (show ∀ W : World, Calls Try.prog 25 #[vec X Y, vec x y] W (fun e w' => e = .returned (.int .i64 (dsq X Y x y)) ∧ Below W.heap.size W w') from fun W => size_any X Y x y W X1 Y1 ⟨x1, x2⟩ ⟨y1, y2⟩)
    go_wp2_with fail
    refine (C6.out _).mono ?_
    rintro e w7 ⟨rfl, B7⟩
    clear C6
    have H7 := Lib.hid (bl_trans (bl_alloc (H6.out) _) B7)
    have V11 : BCell w7 w1.heap.size p q s t := (V9.alloc _).step B7
    have V12 : PCell w7 (w1.heap.size + 1) x y := (V10.alloc _).step B7
    have V13 : PCell w7 (w6.heap.size) X Y := (PCell.new _ (w6.heap.size) X Y _ (by first | rfl | simp)).step B7
    clear B7 H6 V9 c9x0 c9x1 c9x2 c9x3 l9 V10 c10x0 c10x1 l10
    have c11x0 := V11.c0
    have c11x1 := V11.c1
    have c11x2 := V11.c2
    have c11x3 := V11.c3
    have l11 := V11.lt
    have c12x0 := V12.c0
    have c12x1 := V12.c1
    have l12 := V12.lt
    have c13x0 := V13.c0
    have c13x1 := V13.c1
    have l13 := V13.lt
    go_wp2
    all_goals
      go_ret
      first | exact ⟨rfl, (by repeat (first | with_reducible exact H7.out | with_reducible refine bl_alloc ?_ _ | with_reducible refine bl_drew ?_ _))⟩ | exact ⟨ret_b (decide_eq_true (by omega)), (by repeat (first | with_reducible exact H7.out | with_reducible refine bl_alloc ?_ _ | with_reducible refine bl_drew ?_ _))⟩ | exact ⟨ret_b (by simp; omega), (by repeat (first | with_reducible exact H7.out | with_reducible refine bl_alloc ?_ _ | with_reducible refine bl_drew ?_ _))⟩
  · have f := f0.trans (decide_eq_false k3)
    clear f0
    have C1 := Lib.hid (show ∀ W : World, Calls Try.prog 27 #[box p q s t, vec x y, .int .i64 r] W (fun e w' => e = .returned (.bool false) ∧ Below W.heap.size W w') from fun W => by have t := implBTouch p q s t x y r W; rw [f] at t; exact t)
    go_wp2_with fail
    refine (C1.out _).mono ?_
    rintro e w2 ⟨rfl, B2⟩
    clear C1
    have H2 := Lib.hid (bl_trans (bl_alloc (bl_alloc (H1.out) _) _) B2)
    have V1 : BCell w2 (w1.heap.size) p q s t := ((BCell.new _ (w1.heap.size) p q s t _ (by first | rfl | simp)).alloc _).step B2
    have V2 : PCell w2 (w1.heap.size + 1) x y := (PCell.new _ (w1.heap.size + 1) x y _ (by first | rfl | simp)).step B2
    clear B2 H1
    have c1x0 := V1.c0
    have c1x1 := V1.c1
    have c1x2 := V1.c2
    have c1x3 := V1.c3
    have l1 := V1.lt
    have c2x0 := V2.c0
    have c2x1 := V2.c1
    have l2 := V2.lt
    have C2 := Lib.hid (show ∀ W : World, Calls Try.prog 28 #[box p q s t, vec x y, .int .i64 r] W (fun e w' => e = .returned (.bool false) ∧ Below W.heap.size W w') from fun W => by have t := specBTouch p q s t x y r W; rw [f] at t; exact t)
    go_wp2_with fail
    refine (C2.out _).mono ?_
    rintro e w3 ⟨rfl, B3⟩
    clear C2
    have H3 := Lib.hid (bl_trans (H2.out) B3)
    have V3 : BCell w3 w1.heap.size p q s t := V1.step B3
    have V4 : PCell w3 (w1.heap.size + 1) x y := V2.step B3
    clear B3 H2 V1 c1x0 c1x1 c1x2 c1x3 l1 V2 c2x0 c2x1 l2
    have c3x0 := V3.c0
    have c3x1 := V3.c1
    have c3x2 := V3.c2
    have c3x3 := V3.c3
    have l3 := V3.lt
    have c4x0 := V4.c0
    have c4x1 := V4.c1
    have l4 := V4.lt
    have C3 := Lib.hid (show ∀ W : World, Calls Try.prog 14 #[box p q s t] W (fun e w' => e = .returned (.bool true) ∧ Below W.heap.size W w') from fun W => by have t := specBValid p q s t W; rw [hb] at t; exact t)
    go_wp2_with fail
    refine (C3.out _).mono ?_
    rintro e w4 ⟨rfl, B4⟩
    clear C3
    have H4 := Lib.hid (bl_trans (H3.out) B4)
    have V5 : BCell w4 w1.heap.size p q s t := V3.step B4
    have V6 : PCell w4 (w1.heap.size + 1) x y := V4.step B4
    clear B4 H3 V3 c3x0 c3x1 c3x2 c3x3 l3 V4 c4x0 c4x1 l4
    have c5x0 := V5.c0
    have c5x1 := V5.c1
    have c5x2 := V5.c2
    have c5x3 := V5.c3
    have l5 := V5.lt
    have c6x0 := V6.c0
    have c6x1 := V6.c1
    have l6 := V6.lt
    have C4 := Lib.hid (show ∀ W : World, Calls Try.prog 18 #[vec x y] W (fun e w' => e = .returned (.bool true) ∧ Below W.heap.size W w') from fun W => by have t := specVecOk x y W; rw [hv] at t; exact t)
    go_wp2_with fail
    refine (C4.out _).mono ?_
    rintro e w5 ⟨rfl, B5⟩
    clear C4
    have H5 := Lib.hid (bl_trans (H4.out) B5)
    have V7 : BCell w5 w1.heap.size p q s t := V5.step B5
    have V8 : PCell w5 (w1.heap.size + 1) x y := V6.step B5
    clear B5 H4 V5 c5x0 c5x1 c5x2 c5x3 l5 V6 c6x0 c6x1 l6
    have c7x0 := V7.c0
    have c7x1 := V7.c1
    have c7x2 := V7.c2
    have c7x3 := V7.c3
    have l7 := V7.lt
    have c8x0 := V8.c0
    have c8x1 := V8.c1
    have l8 := V8.lt
    have C5 := Lib.hid (show ∀ W : World, Calls Try.prog 23 #[box p q s t, vec x y] W (fun e w' => e = .returned (.tuple #[vec X Y, .bool true]) ∧ Below W.heap.size W w') from fun W => by have t := implBNear p q s t x y W; rw [n1, n2, n3] at t; exact t)
    go_wp2_with fail
    refine (C5.out _).mono ?_
    rintro e w6 ⟨rfl, B6⟩
    clear C5
    have H6 := Lib.hid (bl_trans (H5.out) B6)
    have V9 : BCell w6 w1.heap.size p q s t := V7.step B6
    have V10 : PCell w6 (w1.heap.size + 1) x y := V8.step B6
    clear B6 H5 V7 c7x0 c7x1 c7x2 c7x3 l7 V8 c8x0 c8x1 l8
    have c9x0 := V9.c0
    have c9x1 := V9.c1
    have c9x2 := V9.c2
    have c9x3 := V9.c3
    have l9 := V9.lt
    have c10x0 := V10.c0
    have c10x1 := V10.c1
    have l10 := V10.lt
    have C6 := Lib.hid (show ∀ W : World, Calls Try.prog 25 #[vec X Y, vec x y] W (fun e w' => e = .returned (.int .i64 (dsq X Y x y)) ∧ Below W.heap.size W w') from fun W => size_any X Y x y W X1 Y1 ⟨x1, x2⟩ ⟨y1, y2⟩)
    go_wp2_with fail
    refine (C6.out _).mono ?_
    rintro e w7 ⟨rfl, B7⟩
    clear C6
    have H7 := Lib.hid (bl_trans (bl_alloc (H6.out) _) B7)
    have V11 : BCell w7 w1.heap.size p q s t := (V9.alloc _).step B7
    have V12 : PCell w7 (w1.heap.size + 1) x y := (V10.alloc _).step B7
    have V13 : PCell w7 (w6.heap.size) X Y := (PCell.new _ (w6.heap.size) X Y _ (by first | rfl | simp)).step B7
    clear B7 H6 V9 c9x0 c9x1 c9x2 c9x3 l9 V10 c10x0 c10x1 l10
    have c11x0 := V11.c0
    have c11x1 := V11.c1
    have c11x2 := V11.c2
    have c11x3 := V11.c3
    have l11 := V11.lt
    have c12x0 := V12.c0
    have c12x1 := V12.c1
    have l12 := V12.lt
    have c13x0 := V13.c0
    have c13x1 := V13.c1
    have l13 := V13.lt
    go_wp2
    all_goals
      go_ret
      first | exact ⟨rfl, (by repeat (first | with_reducible exact H7.out | with_reducible refine bl_alloc ?_ _ | with_reducible refine bl_drew ?_ _))⟩ | exact ⟨ret_b (decide_eq_true (by omega)), (by repeat (first | with_reducible exact H7.out | with_reducible refine bl_alloc ?_ _ | with_reducible refine bl_drew ?_ _))⟩ | exact ⟨ret_b (by simp; omega), (by repeat (first | with_reducible exact H7.out | with_reducible refine bl_alloc ?_ _ | with_reducible refine bl_drew ?_ _))⟩

end Go.Proofs.Ytkkifikdnjajjaa
