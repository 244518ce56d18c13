/-
  The walks of the laws of boxes and points: each returns true at every code.
-/
import Derived.Test.YtmhmlmoohimfmabBoxImpl
import Derived.Test.YtmhmlmoohimfmabDrawBoxC
import Derived.Test.YtmhmlmoohimfmabBoxLaws
namespace Go.Proofs.Ytmhmlmoohimfmab
open Go.RowKit
open M

set_option maxHeartbeats 1000000 in
theorem walk_FnTouchesNear (a : Option Addr) (len cap : Nat) (zs : List Int) (a2 : Option Addr) (len2 cap2 : Nat) (zs2 : List Int) (w : World) (h : IsRow .u8 w a len cap zs) (h2 : IsRow .u8 w a2 len2 cap2 zs2) :
    Calls Try.prog 5 #[.slice a len cap, .slice a2 len2 cap2] w fun e w' => e = .returned (.bool true) ∧ Below w.heap.size w w' := by
  have hm := h.bytes.1
  have hm2 := h.bytes.2.1
  have hm3 := h2.bytes.1
  have hm4 := h2.bytes.2.1
  unfold maxLen at hm2 hm4
  by_cases g : 1048576 < len
  · have g1 : (1048576 : Int) < (len : Int) := by omega
    go_enter Try.func5, Try.ntmps5
    go_wp2
    go_ret
    exact ⟨rfl, Below.refl _ _⟩
  by_cases g2 : 1048576 < len2
  · have g1 : (len : Int) ≤ 1048576 := by omega
    have g3 : (1048576 : Int) < (len2 : Int) := by omega
    go_enter Try.func5, Try.ntmps5
    go_wp2
    go_ret
    exact ⟨rfl, Below.refl _ _⟩
  have g1 : (len : Int) ≤ 1048576 := by omega
  have g3 : (len2 : Int) ≤ 1048576 := by omega
  have g4 : (0 : Int) ≤ (len2 : Int) := by omega
  go_enter Try.func5, Try.ntmps5
  go_wp2_with fail
  refine (draw_bhas a len cap zs w h).mono ?_
  rintro e w1 ⟨p, q, s, t, x, y, ⟨⟨p1, p2⟩, ⟨q1, q2⟩, ⟨s1, s2⟩, t1, t2⟩, ⟨⟨x1, x2⟩, y1, y2⟩, rfl, B1⟩
  have H1 := Lib.hid B1
  clear B1 h h2
  cases hb : bhB p q s t x y
  · have C1 := Lib.hid (show ∀ W : World, Calls Try.prog 14 #[box p q s t, vec x y] W (fun e w' => e = .returned (.bool false) ∧ Below W.heap.size W w') from fun W => by have t := implBHas p q s t x y W; rw [hb] at t; exact t)
    go_wp2_with fail
    refine (C1.out _).mono ?_
    rintro e w2 ⟨rfl, B2⟩
    clear C1
    have H2 := Lib.hid (bl_trans (bl_alloc (bl_alloc (H1.out) _) _) B2)
    have V1 : BCell w2 (w1.heap.size) p q s t := ((BCell.new _ (w1.heap.size) p q s t _ (by first | rfl | simp)).alloc _).step B2
    have V2 : PCell w2 (w1.heap.size + 1) x y := (PCell.new _ (w1.heap.size + 1) x y _ (by first | rfl | simp)).step B2
    clear B2 H1
    have c1x0 := V1.c0
    have c1x1 := V1.c1
    have c1x2 := V1.c2
    have c1x3 := V1.c3
    have l1 := V1.lt
    have c2x0 := V2.c0
    have c2x1 := V2.c1
    have l2 := V2.lt
    have C2 := Lib.hid (show ∀ W : World, Calls Try.prog 16 #[box p q s t, vec x y] W (fun e w' => e = .returned (.bool false) ∧ Below W.heap.size W w') from fun W => by have t := specBHas p q s t x y W; rw [hb] at t; exact t)
    go_wp2_with fail
    refine (C2.out _).mono ?_
    rintro e w3 ⟨rfl, B3⟩
    clear C2
    have H3 := Lib.hid (bl_trans (H2.out) B3)
    have V3 : BCell w3 w1.heap.size p q s t := V1.step B3
    have V4 : PCell w3 (w1.heap.size + 1) x y := V2.step B3
    clear B3 H2 V1 c1x0 c1x1 c1x2 c1x3 l1 V2 c2x0 c2x1 l2
    have c3x0 := V3.c0
    have c3x1 := V3.c1
    have c3x2 := V3.c2
    have c3x3 := V3.c3
    have l3 := V3.lt
    have c4x0 := V4.c0
    have c4x1 := V4.c1
    have l4 := V4.lt
    go_wp2
    all_goals
      go_ret
      first | exact ⟨rfl, (by repeat (first | with_reducible exact H3.out | with_reducible refine bl_alloc ?_ _ | with_reducible refine bl_drew ?_ _))⟩ | exact ⟨ret_b (decide_eq_true (by omega)), (by repeat (first | with_reducible exact H3.out | with_reducible refine bl_alloc ?_ _ | with_reducible refine bl_drew ?_ _))⟩ | exact ⟨ret_b (by simp; omega), (by repeat (first | with_reducible exact H3.out | with_reducible refine bl_alloc ?_ _ | with_reducible refine bl_drew ?_ _))⟩
  have f1 := tc_near hb (m := (len2 : Int) % 1000) (by omega) (by omega)
  have C1 := Lib.hid (show ∀ W : World, Calls Try.prog 14 #[box p q s t, vec x y] W (fun e w' => e = .returned (.bool true) ∧ Below W.heap.size W w') from fun W => by have t := implBHas p q s t x y W; rw [hb] at t; exact t)
  go_wp2_with fail
  refine (C1.out _).mono ?_
  rintro e w2 ⟨rfl, B2⟩
  clear C1
  have H2 := Lib.hid (bl_trans (bl_alloc (bl_alloc (H1.out) _) _) B2)
  have V1 : BCell w2 (w1.heap.size) p q s t := ((BCell.new _ (w1.heap.size) p q s t _ (by first | rfl | simp)).alloc _).step B2
  have V2 : PCell w2 (w1.heap.size + 1) x y := (PCell.new _ (w1.heap.size + 1) x y _ (by first | rfl | simp)).step B2
  clear B2 H1
  have c1x0 := V1.c0
  have c1x1 := V1.c1
  have c1x2 := V1.c2
  have c1x3 := V1.c3
  have l1 := V1.lt
  have c2x0 := V2.c0
  have c2x1 := V2.c1
  have l2 := V2.lt
  have C2 := Lib.hid (show ∀ W : World, Calls Try.prog 16 #[box p q s t, vec x y] W (fun e w' => e = .returned (.bool true) ∧ Below W.heap.size W w') from fun W => by have t := specBHas p q s t x y W; rw [hb] at t; exact t)
  go_wp2_with fail
  refine (C2.out _).mono ?_
  rintro e w3 ⟨rfl, B3⟩
  clear C2
  have H3 := Lib.hid (bl_trans (H2.out) B3)
  have V3 : BCell w3 w1.heap.size p q s t := V1.step B3
  have V4 : PCell w3 (w1.heap.size + 1) x y := V2.step B3
  clear B3 H2 V1 c1x0 c1x1 c1x2 c1x3 l1 V2 c2x0 c2x1 l2
  have c3x0 := V3.c0
  have c3x1 := V3.c1
  have c3x2 := V3.c2
  have c3x3 := V3.c3
  have l3 := V3.lt
  have c4x0 := V4.c0
  have c4x1 := V4.c1
  have l4 := V4.lt
  have C3 := Lib.hid (show ∀ W : World, Calls Try.prog 8 #[box p q s t, vec x y, .int .i64 ((len2 : Int) % 1000)] W (fun e w' => e = .returned (.bool true) ∧ Below W.heap.size W w') from fun W => by have t := implBTouch p q s t x y ((len2 : Int) % 1000) W; rw [f1] at t; exact t)
  go_wp2_with fail
  refine (C3.out _).mono ?_
  rintro e w4 ⟨rfl, B4⟩
  clear C3
  have H4 := Lib.hid (bl_trans (H3.out) B4)
  have V5 : BCell w4 w1.heap.size p q s t := V3.step B4
  have V6 : PCell w4 (w1.heap.size + 1) x y := V4.step B4
  clear B4 H3 V3 c3x0 c3x1 c3x2 c3x3 l3 V4 c4x0 c4x1 l4
  have c5x0 := V5.c0
  have c5x1 := V5.c1
  have c5x2 := V5.c2
  have c5x3 := V5.c3
  have l5 := V5.lt
  have c6x0 := V6.c0
  have c6x1 := V6.c1
  have l6 := V6.lt
  go_wp2
  all_goals
    go_ret
    first | exact ⟨rfl, (by repeat (first | with_reducible exact H4.out | with_reducible refine bl_alloc ?_ _ | with_reducible refine bl_drew ?_ _))⟩ | exact ⟨ret_b (decide_eq_true (by omega)), (by repeat (first | with_reducible exact H4.out | with_reducible refine bl_alloc ?_ _ | with_reducible refine bl_drew ?_ _))⟩ | exact ⟨ret_b (by simp; omega), (by repeat (first | with_reducible exact H4.out | with_reducible refine bl_alloc ?_ _ | with_reducible refine bl_drew ?_ _))⟩

end Go.Proofs.Ytmhmlmoohimfmab
