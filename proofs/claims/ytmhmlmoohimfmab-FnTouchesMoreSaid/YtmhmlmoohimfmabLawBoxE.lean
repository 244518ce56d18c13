/-
  The walk of a law of chapter 3 whose last region draws its order: it returns true at every code.
-/
import Derived.Test.YtmhmlmoohimfmabBoxImpl
import Derived.Test.YtmhmlmoohimfmabDrawBoxC
import Derived.Test.YtmhmlmoohimfmabBoxLaws
import Derived.Test.YtmhmlmoohimfmabLawBoxB
import Derived.LoopN
namespace Go.Proofs.Ytmhmlmoohimfmab
open Go.RowKit
open M

set_option maxHeartbeats 2000000 in
theorem walk_FnTouchesMore (a : Option Addr) (len cap : Nat) (zs : List Int) (a2 : Option Addr) (len2 cap2 : Nat) (zs2 : List Int) (w : World) (h : IsRow .u8 w a len cap zs) (h2 : IsRow .u8 w a2 len2 cap2 zs2) :
    Calls Try.prog 4 #[.slice a len cap, .slice a2 len2 cap2] w fun e w' => e = .returned (.bool true) ∧ Below w.heap.size w w' := by
  have hm := h.bytes.1
  have hm2 := h.bytes.2.1
  have hm3 := h2.bytes.1
  have hm4 := h2.bytes.2.1
  unfold maxLen at hm2 hm4
  by_cases g : 1048576 < len
  · have g1 : (1048576 : Int) < (len : Int) := by omega
    go_enter Try.func4, Try.ntmps4
    go_wp2
    go_ret
    exact ⟨rfl, Below.refl _ _⟩
  by_cases g2 : 1048576 < len2
  · have g1 : (len : Int) ≤ 1048576 := by omega
    have g3 : (1048576 : Int) < (len2 : Int) := by omega
    go_enter Try.func4, Try.ntmps4
    go_wp2
    go_ret
    exact ⟨rfl, Below.refl _ _⟩
  have g1 : (len : Int) ≤ 1048576 := by omega
  have g3 : (len2 : Int) ≤ 1048576 := by omega
  have g4 : (0 : Int) ≤ (len2 : Int) := by omega
  go_enter Try.func4, Try.ntmps4
  go_wp2_with fail
  refine (draw_btouch a len cap zs w h).mono ?_
  rintro e w1 ⟨p, q, s, t, x, y, r, ⟨⟨p1, p2⟩, ⟨q1, q2⟩, ⟨s1, s2⟩, t1, t2⟩, ⟨⟨x1, x2⟩, y1, y2⟩, ⟨r1, r2⟩, rfl, B1⟩
  have H1 := Lib.hid B1
  clear B1 h h2
  cases hb : tcB p q s t x y r
  · have C1 := Lib.hid (show ∀ W : World, Calls Try.prog 8 #[box p q s t, vec x y, .int .i64 r] W (fun e w' => e = .returned (.bool false) ∧ Below W.heap.size W w') from fun W => by have t := implBTouch p q s t x y r W; rw [hb] at t; exact t)
    go_wp2_with fail
    refine (C1.out _).mono ?_
    rintro e w2 ⟨rfl, B2⟩
    clear C1
    have H2 := Lib.hid (bl_trans (bl_alloc (bl_alloc (H1.out) _) _) B2)
    have V1 : BCell w2 (w1.heap.size) p q s t := ((BCell.new _ (w1.heap.size) p q s t _ (by first | rfl | simp)).alloc _).step B2
    have V2 : PCell w2 (w1.heap.size + 1) x y := (PCell.new _ (w1.heap.size + 1) x y _ (by first | rfl | simp)).step B2
    clear B2 H1
    have c1x0 := V1.c0
    have c1x1 := V1.c1
    have c1x2 := V1.c2
    have c1x3 := V1.c3
    have l1 := V1.lt
    have c2x0 := V2.c0
    have c2x1 := V2.c1
    have l2 := V2.lt
    have C2 := Lib.hid (show ∀ W : World, Calls Try.prog 9 #[box p q s t, vec x y, .int .i64 r] W (fun e w' => e = .returned (.bool false) ∧ Below W.heap.size W w') from fun W => by have t := specBTouch p q s t x y r W; rw [hb] at t; exact t)
    go_wp2_with fail
    refine (C2.out _).mono ?_
    rintro e w3 ⟨rfl, B3⟩
    clear C2
    have H3 := Lib.hid (bl_trans (H2.out) B3)
    have V3 : BCell w3 w1.heap.size p q s t := V1.step B3
    have V4 : PCell w3 (w1.heap.size + 1) x y := V2.step B3
    clear B3 H2 V1 c1x0 c1x1 c1x2 c1x3 l1 V2 c2x0 c2x1 l2
    have c3x0 := V3.c0
    have c3x1 := V3.c1
    have c3x2 := V3.c2
    have c3x3 := V3.c3
    have l3 := V3.lt
    have c4x0 := V4.c0
    have c4x1 := V4.c1
    have l4 := V4.lt
    go_wp2
    all_goals
      go_ret
      first | exact ⟨rfl, (by repeat (first | with_reducible exact H3.out | with_reducible refine bl_alloc ?_ _ | with_reducible refine bl_drew ?_ _))⟩ | exact ⟨ret_b (decide_eq_true (by omega)), (by repeat (first | with_reducible exact H3.out | with_reducible refine bl_alloc ?_ _ | with_reducible refine bl_drew ?_ _))⟩ | exact ⟨ret_b (by simp; omega), (by repeat (first | with_reducible exact H3.out | with_reducible refine bl_alloc ?_ _ | with_reducible refine bl_drew ?_ _))⟩
  obtain ⟨h1, hv, ⟨r3, r4⟩, _⟩ := (tc_iff _ _ _ _ _ _ _).1 hb
  have f0 := tc_zero h1 hv
  have e0 : IntKind.i64.wrap (r + (len2 : Int)) = r + (len2 : Int) := IntWalk.i64_in _ (by omega)
  by_cases k : 1000000 < IntKind.i64.wrap (r + (len2 : Int))
  · have f1 := tc_more hb (m := 1000000) (by omega) (by omega)
    clear e0
    cases f3 : bhB p q s t x y
    · have f2 := f0.trans f3
      clear f0
      have C1 := Lib.hid (show ∀ W : World, Calls Try.prog 8 #[box p q s t, vec x y, .int .i64 r] W (fun e w' => e = .returned (.bool true) ∧ Below W.heap.size W w') from fun W => by have t := implBTouch p q s t x y r W; rw [hb] at t; exact t)
      go_wp2_with fail
      refine (C1.out _).mono ?_
      rintro e w2 ⟨rfl, B2⟩
      clear C1
      have H2 := Lib.hid (bl_trans (bl_alloc (bl_alloc (H1.out) _) _) B2)
      have V1 : BCell w2 (w1.heap.size) p q s t := ((BCell.new _ (w1.heap.size) p q s t _ (by first | rfl | simp)).alloc _).step B2
      have V2 : PCell w2 (w1.heap.size + 1) x y := (PCell.new _ (w1.heap.size + 1) x y _ (by first | rfl | simp)).step B2
      clear B2 H1
      have c1x0 := V1.c0
      have c1x1 := V1.c1
      have c1x2 := V1.c2
      have c1x3 := V1.c3
      have l1 := V1.lt
      have c2x0 := V2.c0
      have c2x1 := V2.c1
      have l2 := V2.lt
      have C2 := Lib.hid (show ∀ W : World, Calls Try.prog 9 #[box p q s t, vec x y, .int .i64 r] W (fun e w' => e = .returned (.bool true) ∧ Below W.heap.size W w') from fun W => by have t := specBTouch p q s t x y r W; rw [hb] at t; exact t)
      go_wp2_with fail
      refine (C2.out _).mono ?_
      rintro e w3 ⟨rfl, B3⟩
      clear C2
      have H3 := Lib.hid (bl_trans (H2.out) B3)
      have V3 : BCell w3 w1.heap.size p q s t := V1.step B3
      have V4 : PCell w3 (w1.heap.size + 1) x y := V2.step B3
      clear B3 H2 V1 c1x0 c1x1 c1x2 c1x3 l1 V2 c2x0 c2x1 l2
      have c3x0 := V3.c0
      have c3x1 := V3.c1
      have c3x2 := V3.c2
      have c3x3 := V3.c3
      have l3 := V3.lt
      have c4x0 := V4.c0
      have c4x1 := V4.c1
      have l4 := V4.lt
      go_wp2_with fail
      have O0 : BCell w3 w1.heap.size p q s t := V3
      have O1 : PCell w3 (w1.heap.size + 1) x y := V4
      have Hb := Lib.hid (H3.out)
      clear H3 V3 c3x0 c3x1 c3x2 c3x3 l3 V4 c4x0 c4x1 l4
      have C3 := Lib.hid (show ∀ W : World, Calls Try.prog 8 #[box p q s t, vec x y, .int .i64 1000000] W (fun e w' => e = .returned (.bool true) ∧ Below W.heap.size W w') from fun W => by have t := implBTouch p q s t x y 1000000 W; rw [f1] at t; exact t)
      have C4 := Lib.hid (show ∀ W : World, Calls Try.prog 8 #[box p q s t, vec x y, .int .i64 0] W (fun e w' => e = .returned (.bool false) ∧ Below W.heap.size W w') from fun W => by have t := implBTouch p q s t x y 0 W; rw [f2] at t; exact t)
      have C5 := Lib.hid (show ∀ W : World, Calls Try.prog 14 #[box p q s t, vec x y] W (fun e w' => e = .returned (.bool false) ∧ Below W.heap.size W w') from fun W => by have t := implBHas p q s t x y W; rw [f3] at t; exact t)
      go_region_held3 (fun w' => (w'.cell? ⟨w1.heap.size, 0, none⟩ = some (.int .i64 p) ∧ w'.cell? ⟨w1.heap.size, 1, none⟩ = some (.int .i64 q) ∧ w'.cell? ⟨w1.heap.size, 2, none⟩ = some (.int .i64 s) ∧ w'.cell? ⟨w1.heap.size, 3, none⟩ = some (.int .i64 t)) ∧ (w'.cell? ⟨w1.heap.size + 1, 0, none⟩ = some (.int .i64 x) ∧ w'.cell? ⟨w1.heap.size + 1, 1, none⟩ = some (.int .i64 y)))
        (exact ⟨bc_all (by repeat (first | with_reducible exact O0 | with_reducible refine BCell.alloc ?_ _ | with_reducible refine BCell.drew ?_)), pc_both (by repeat (first | with_reducible exact O1 | with_reducible refine PCell.alloc ?_ _ | with_reducible refine PCell.drew ?_))⟩)
        (first | (go_at_call 8; with_reducible refine (C3.out _).mono ?_; rintro e wn ⟨rfl, Bn⟩; have O0 := BCell.step (by first | with_reducible exact O0 | with_reducible exact O0.drew) Bn; have O1 := PCell.step (by first | with_reducible exact O1 | with_reducible exact O1.drew) Bn; have Hb := Lib.hid (bl_trans (by first | with_reducible exact Hb.out | with_reducible exact bl_drew1 Hb.out) Bn); clear Bn) | (go_at_call 8; with_reducible refine (C4.out _).mono ?_; rintro e wn ⟨rfl, Bn⟩; have O0 := BCell.step (by first | with_reducible exact O0 | with_reducible exact O0.drew) Bn; have O1 := PCell.step (by first | with_reducible exact O1 | with_reducible exact O1.drew) Bn; have Hb := Lib.hid (bl_trans (by first | with_reducible exact Hb.out | with_reducible exact bl_drew1 Hb.out) Bn); clear Bn) | (go_at_call 14; with_reducible refine (C5.out _).mono ?_; rintro e wn ⟨rfl, Bn⟩; have O0 := BCell.step (by first | with_reducible exact O0 | with_reducible exact O0.drew) Bn; have O1 := PCell.step (by first | with_reducible exact O1 | with_reducible exact O1.drew) Bn; have Hb := Lib.hid (bl_trans (by first | with_reducible exact Hb.out | with_reducible exact bl_drew1 Hb.out) Bn); clear Bn))
      all_goals
        go_wp2
        go_ret
        first | exact ⟨rfl, (by repeat (first | with_reducible exact Hb.out | with_reducible refine bl_alloc ?_ _ | with_reducible refine bl_drew1 ?_))⟩ | exact ⟨ret_b (decide_eq_true (by omega)), (by repeat (first | with_reducible exact Hb.out | with_reducible refine bl_alloc ?_ _ | with_reducible refine bl_drew1 ?_))⟩ | exact ⟨ret_b (by simp; omega), (by repeat (first | with_reducible exact Hb.out | with_reducible refine bl_alloc ?_ _ | with_reducible refine bl_drew1 ?_))⟩
    · have f2 := f0.trans f3
      clear f0
      have C1 := Lib.hid (show ∀ W : World, Calls Try.prog 8 #[box p q s t, vec x y, .int .i64 r] W (fun e w' => e = .returned (.bool true) ∧ Below W.heap.size W w') from fun W => by have t := implBTouch p q s t x y r W; rw [hb] at t; exact t)
      go_wp2_with fail
      refine (C1.out _).mono ?_
      rintro e w2 ⟨rfl, B2⟩
      clear C1
      have H2 := Lib.hid (bl_trans (bl_alloc (bl_alloc (H1.out) _) _) B2)
      have V1 : BCell w2 (w1.heap.size) p q s t := ((BCell.new _ (w1.heap.size) p q s t _ (by first | rfl | simp)).alloc _).step B2
      have V2 : PCell w2 (w1.heap.size + 1) x y := (PCell.new _ (w1.heap.size + 1) x y _ (by first | rfl | simp)).step B2
      clear B2 H1
      have c1x0 := V1.c0
      have c1x1 := V1.c1
      have c1x2 := V1.c2
      have c1x3 := V1.c3
      have l1 := V1.lt
      have c2x0 := V2.c0
      have c2x1 := V2.c1
      have l2 := V2.lt
      have C2 := Lib.hid (show ∀ W : World, Calls Try.prog 9 #[box p q s t, vec x y, .int .i64 r] W (fun e w' => e = .returned (.bool true) ∧ Below W.heap.size W w') from fun W => by have t := specBTouch p q s t x y r W; rw [hb] at t; exact t)
      go_wp2_with fail
      refine (C2.out _).mono ?_
      rintro e w3 ⟨rfl, B3⟩
      clear C2
      have H3 := Lib.hid (bl_trans (H2.out) B3)
      have V3 : BCell w3 w1.heap.size p q s t := V1.step B3
      have V4 : PCell w3 (w1.heap.size + 1) x y := V2.step B3
      clear B3 H2 V1 c1x0 c1x1 c1x2 c1x3 l1 V2 c2x0 c2x1 l2
      have c3x0 := V3.c0
      have c3x1 := V3.c1
      have c3x2 := V3.c2
      have c3x3 := V3.c3
      have l3 := V3.lt
      have c4x0 := V4.c0
      have c4x1 := V4.c1
      have l4 := V4.lt
      go_wp2_with fail
      have O0 : BCell w3 w1.heap.size p q s t := V3
      have O1 : PCell w3 (w1.heap.size + 1) x y := V4
      have Hb := Lib.hid (H3.out)
      clear H3 V3 c3x0 c3x1 c3x2 c3x3 l3 V4 c4x0 c4x1 l4
      have C3 := Lib.hid (show ∀ W : World, Calls Try.prog 8 #[box p q s t, vec x y, .int .i64 1000000] W (fun e w' => e = .returned (.bool true) ∧ Below W.heap.size W w') from fun W => by have t := implBTouch p q s t x y 1000000 W; rw [f1] at t; exact t)
      have C4 := Lib.hid (show ∀ W : World, Calls Try.prog 8 #[box p q s t, vec x y, .int .i64 0] W (fun e w' => e = .returned (.bool true) ∧ Below W.heap.size W w') from fun W => by have t := implBTouch p q s t x y 0 W; rw [f2] at t; exact t)
      have C5 := Lib.hid (show ∀ W : World, Calls Try.prog 14 #[box p q s t, vec x y] W (fun e w' => e = .returned (.bool true) ∧ Below W.heap.size W w') from fun W => by have t := implBHas p q s t x y W; rw [f3] at t; exact t)
      go_region_held3 (fun w' => (w'.cell? ⟨w1.heap.size, 0, none⟩ = some (.int .i64 p) ∧ w'.cell? ⟨w1.heap.size, 1, none⟩ = some (.int .i64 q) ∧ w'.cell? ⟨w1.heap.size, 2, none⟩ = some (.int .i64 s) ∧ w'.cell? ⟨w1.heap.size, 3, none⟩ = some (.int .i64 t)) ∧ (w'.cell? ⟨w1.heap.size + 1, 0, none⟩ = some (.int .i64 x) ∧ w'.cell? ⟨w1.heap.size + 1, 1, none⟩ = some (.int .i64 y)))
        (exact ⟨bc_all (by repeat (first | with_reducible exact O0 | with_reducible refine BCell.alloc ?_ _ | with_reducible refine BCell.drew ?_)), pc_both (by repeat (first | with_reducible exact O1 | with_reducible refine PCell.alloc ?_ _ | with_reducible refine PCell.drew ?_))⟩)
        (first | (go_at_call 8; with_reducible refine (C3.out _).mono ?_; rintro e wn ⟨rfl, Bn⟩; have O0 := BCell.step (by first | with_reducible exact O0 | with_reducible exact O0.drew) Bn; have O1 := PCell.step (by first | with_reducible exact O1 | with_reducible exact O1.drew) Bn; have Hb := Lib.hid (bl_trans (by first | with_reducible exact Hb.out | with_reducible exact bl_drew1 Hb.out) Bn); clear Bn) | (go_at_call 8; with_reducible refine (C4.out _).mono ?_; rintro e wn ⟨rfl, Bn⟩; have O0 := BCell.step (by first | with_reducible exact O0 | with_reducible exact O0.drew) Bn; have O1 := PCell.step (by first | with_reducible exact O1 | with_reducible exact O1.drew) Bn; have Hb := Lib.hid (bl_trans (by first | with_reducible exact Hb.out | with_reducible exact bl_drew1 Hb.out) Bn); clear Bn) | (go_at_call 14; with_reducible refine (C5.out _).mono ?_; rintro e wn ⟨rfl, Bn⟩; have O0 := BCell.step (by first | with_reducible exact O0 | with_reducible exact O0.drew) Bn; have O1 := PCell.step (by first | with_reducible exact O1 | with_reducible exact O1.drew) Bn; have Hb := Lib.hid (bl_trans (by first | with_reducible exact Hb.out | with_reducible exact bl_drew1 Hb.out) Bn); clear Bn))
      all_goals
        go_wp2
        go_ret
        first | exact ⟨rfl, (by repeat (first | with_reducible exact Hb.out | with_reducible refine bl_alloc ?_ _ | with_reducible refine bl_drew1 ?_))⟩ | exact ⟨ret_b (decide_eq_true (by omega)), (by repeat (first | with_reducible exact Hb.out | with_reducible refine bl_alloc ?_ _ | with_reducible refine bl_drew1 ?_))⟩ | exact ⟨ret_b (by simp; omega), (by repeat (first | with_reducible exact Hb.out | with_reducible refine bl_alloc ?_ _ | with_reducible refine bl_drew1 ?_))⟩
  · have f1 := tc_more hb (m := IntKind.i64.wrap (r + (len2 : Int))) (by omega) (by omega)
    have k2 : (if 1000000 < IntKind.i64.wrap (r + (len2 : Int)) then (1000000 : Int) else IntKind.i64.wrap (r + (len2 : Int))) = IntKind.i64.wrap (r + (len2 : Int)) := if_neg k
    clear e0 k
    cases f3 : bhB p q s t x y
    · have f2 := f0.trans f3
      clear f0
      have C1 := Lib.hid (show ∀ W : World, Calls Try.prog 8 #[box p q s t, vec x y, .int .i64 r] W (fun e w' => e = .returned (.bool true) ∧ Below W.heap.size W w') from fun W => by have t := implBTouch p q s t x y r W; rw [hb] at t; exact t)
      go_wp2_with fail
      refine (C1.out _).mono ?_
      rintro e w2 ⟨rfl, B2⟩
      clear C1
      have H2 := Lib.hid (bl_trans (bl_alloc (bl_alloc (H1.out) _) _) B2)
      have V1 : BCell w2 (w1.heap.size) p q s t := ((BCell.new _ (w1.heap.size) p q s t _ (by first | rfl | simp)).alloc _).step B2
      have V2 : PCell w2 (w1.heap.size + 1) x y := (PCell.new _ (w1.heap.size + 1) x y _ (by first | rfl | simp)).step B2
      clear B2 H1
      have c1x0 := V1.c0
      have c1x1 := V1.c1
      have c1x2 := V1.c2
      have c1x3 := V1.c3
      have l1 := V1.lt
      have c2x0 := V2.c0
      have c2x1 := V2.c1
      have l2 := V2.lt
      have C2 := Lib.hid (show ∀ W : World, Calls Try.prog 9 #[box p q s t, vec x y, .int .i64 r] W (fun e w' => e = .returned (.bool true) ∧ Below W.heap.size W w') from fun W => by have t := specBTouch p q s t x y r W; rw [hb] at t; exact t)
      go_wp2_with fail
      refine (C2.out _).mono ?_
      rintro e w3 ⟨rfl, B3⟩
      clear C2
      have H3 := Lib.hid (bl_trans (H2.out) B3)
      have V3 : BCell w3 w1.heap.size p q s t := V1.step B3
      have V4 : PCell w3 (w1.heap.size + 1) x y := V2.step B3
      clear B3 H2 V1 c1x0 c1x1 c1x2 c1x3 l1 V2 c2x0 c2x1 l2
      have c3x0 := V3.c0
      have c3x1 := V3.c1
      have c3x2 := V3.c2
      have c3x3 := V3.c3
      have l3 := V3.lt
      have c4x0 := V4.c0
      have c4x1 := V4.c1
      have l4 := V4.lt
      go_wp2_with fail
      have O0 : BCell w3 w1.heap.size p q s t := V3
      have O1 : PCell w3 (w1.heap.size + 1) x y := V4
      have Hb := Lib.hid (H3.out)
      clear H3 V3 c3x0 c3x1 c3x2 c3x3 l3 V4 c4x0 c4x1 l4
      have C3 := Lib.hid (show ∀ W : World, Calls Try.prog 8 #[box p q s t, vec x y, .int .i64 (IntKind.i64.wrap (r + (len2 : Int)))] W (fun e w' => e = .returned (.bool true) ∧ Below W.heap.size W w') from fun W => by have t := implBTouch p q s t x y (IntKind.i64.wrap (r + (len2 : Int))) W; rw [f1] at t; exact t)
      have C4 := Lib.hid (show ∀ W : World, Calls Try.prog 8 #[box p q s t, vec x y, .int .i64 0] W (fun e w' => e = .returned (.bool false) ∧ Below W.heap.size W w') from fun W => by have t := implBTouch p q s t x y 0 W; rw [f2] at t; exact t)
      have C5 := Lib.hid (show ∀ W : World, Calls Try.prog 14 #[box p q s t, vec x y] W (fun e w' => e = .returned (.bool false) ∧ Below W.heap.size W w') from fun W => by have t := implBHas p q s t x y W; rw [f3] at t; exact t)
      go_region_held3 (fun w' => (w'.cell? ⟨w1.heap.size, 0, none⟩ = some (.int .i64 p) ∧ w'.cell? ⟨w1.heap.size, 1, none⟩ = some (.int .i64 q) ∧ w'.cell? ⟨w1.heap.size, 2, none⟩ = some (.int .i64 s) ∧ w'.cell? ⟨w1.heap.size, 3, none⟩ = some (.int .i64 t)) ∧ (w'.cell? ⟨w1.heap.size + 1, 0, none⟩ = some (.int .i64 x) ∧ w'.cell? ⟨w1.heap.size + 1, 1, none⟩ = some (.int .i64 y)))
        (exact ⟨bc_all (by repeat (first | with_reducible exact O0 | with_reducible refine BCell.alloc ?_ _ | with_reducible refine BCell.drew ?_)), pc_both (by repeat (first | with_reducible exact O1 | with_reducible refine PCell.alloc ?_ _ | with_reducible refine PCell.drew ?_))⟩)
        (first | (go_at_call 8; with_reducible refine (C3.out _).mono ?_; rintro e wn ⟨rfl, Bn⟩; have O0 := BCell.step (by first | with_reducible exact O0 | with_reducible exact O0.drew) Bn; have O1 := PCell.step (by first | with_reducible exact O1 | with_reducible exact O1.drew) Bn; have Hb := Lib.hid (bl_trans (by first | with_reducible exact Hb.out | with_reducible exact bl_drew1 Hb.out) Bn); clear Bn) | (go_at_call 8; with_reducible refine (C4.out _).mono ?_; rintro e wn ⟨rfl, Bn⟩; have O0 := BCell.step (by first | with_reducible exact O0 | with_reducible exact O0.drew) Bn; have O1 := PCell.step (by first | with_reducible exact O1 | with_reducible exact O1.drew) Bn; have Hb := Lib.hid (bl_trans (by first | with_reducible exact Hb.out | with_reducible exact bl_drew1 Hb.out) Bn); clear Bn) | (go_at_call 14; with_reducible refine (C5.out _).mono ?_; rintro e wn ⟨rfl, Bn⟩; have O0 := BCell.step (by first | with_reducible exact O0 | with_reducible exact O0.drew) Bn; have O1 := PCell.step (by first | with_reducible exact O1 | with_reducible exact O1.drew) Bn; have Hb := Lib.hid (bl_trans (by first | with_reducible exact Hb.out | with_reducible exact bl_drew1 Hb.out) Bn); clear Bn))
      all_goals
        go_wp2
        go_ret
        first | exact ⟨rfl, (by repeat (first | with_reducible exact Hb.out | with_reducible refine bl_alloc ?_ _ | with_reducible refine bl_drew1 ?_))⟩ | exact ⟨ret_b (decide_eq_true (by omega)), (by repeat (first | with_reducible exact Hb.out | with_reducible refine bl_alloc ?_ _ | with_reducible refine bl_drew1 ?_))⟩ | exact ⟨ret_b (by simp; omega), (by repeat (first | with_reducible exact Hb.out | with_reducible refine bl_alloc ?_ _ | with_reducible refine bl_drew1 ?_))⟩
    · have f2 := f0.trans f3
      clear f0
      have C1 := Lib.hid (show ∀ W : World, Calls Try.prog 8 #[box p q s t, vec x y, .int .i64 r] W (fun e w' => e = .returned (.bool true) ∧ Below W.heap.size W w') from fun W => by have t := implBTouch p q s t x y r W; rw [hb] at t; exact t)
      go_wp2_with fail
      refine (C1.out _).mono ?_
      rintro e w2 ⟨rfl, B2⟩
      clear C1
      have H2 := Lib.hid (bl_trans (bl_alloc (bl_alloc (H1.out) _) _) B2)
      have V1 : BCell w2 (w1.heap.size) p q s t := ((BCell.new _ (w1.heap.size) p q s t _ (by first | rfl | simp)).alloc _).step B2
      have V2 : PCell w2 (w1.heap.size + 1) x y := (PCell.new _ (w1.heap.size + 1) x y _ (by first | rfl | simp)).step B2
      clear B2 H1
      have c1x0 := V1.c0
      have c1x1 := V1.c1
      have c1x2 := V1.c2
      have c1x3 := V1.c3
      have l1 := V1.lt
      have c2x0 := V2.c0
      have c2x1 := V2.c1
      have l2 := V2.lt
      have C2 := Lib.hid (show ∀ W : World, Calls Try.prog 9 #[box p q s t, vec x y, .int .i64 r] W (fun e w' => e = .returned (.bool true) ∧ Below W.heap.size W w') from fun W => by have t := specBTouch p q s t x y r W; rw [hb] at t; exact t)
      go_wp2_with fail
      refine (C2.out _).mono ?_
      rintro e w3 ⟨rfl, B3⟩
      clear C2
      have H3 := Lib.hid (bl_trans (H2.out) B3)
      have V3 : BCell w3 w1.heap.size p q s t := V1.step B3
      have V4 : PCell w3 (w1.heap.size + 1) x y := V2.step B3
      clear B3 H2 V1 c1x0 c1x1 c1x2 c1x3 l1 V2 c2x0 c2x1 l2
      have c3x0 := V3.c0
      have c3x1 := V3.c1
      have c3x2 := V3.c2
      have c3x3 := V3.c3
      have l3 := V3.lt
      have c4x0 := V4.c0
      have c4x1 := V4.c1
      have l4 := V4.lt
      go_wp2_with fail
      have O0 : BCell w3 w1.heap.size p q s t := V3
      have O1 : PCell w3 (w1.heap.size + 1) x y := V4
      have Hb := Lib.hid (H3.out)
      clear H3 V3 c3x0 c3x1 c3x2 c3x3 l3 V4 c4x0 c4x1 l4
      have C3 := Lib.hid (show ∀ W : World, Calls Try.prog 8 #[box p q s t, vec x y, .int .i64 (IntKind.i64.wrap (r + (len2 : Int)))] W (fun e w' => e = .returned (.bool true) ∧ Below W.heap.size W w') from fun W => by have t := implBTouch p q s t x y (IntKind.i64.wrap (r + (len2 : Int))) W; rw [f1] at t; exact t)
      have C4 := Lib.hid (show ∀ W : World, Calls Try.prog 8 #[box p q s t, vec x y, .int .i64 0] W (fun e w' => e = .returned (.bool true) ∧ Below W.heap.size W w') from fun W => by have t := implBTouch p q s t x y 0 W; rw [f2] at t; exact t)
      have C5 := Lib.hid (show ∀ W : World, Calls Try.prog 14 #[box p q s t, vec x y] W (fun e w' => e = .returned (.bool true) ∧ Below W.heap.size W w') from fun W => by have t := implBHas p q s t x y W; rw [f3] at t; exact t)
      go_region_held3 (fun w' => (w'.cell? ⟨w1.heap.size, 0, none⟩ = some (.int .i64 p) ∧ w'.cell? ⟨w1.heap.size, 1, none⟩ = some (.int .i64 q) ∧ w'.cell? ⟨w1.heap.size, 2, none⟩ = some (.int .i64 s) ∧ w'.cell? ⟨w1.heap.size, 3, none⟩ = some (.int .i64 t)) ∧ (w'.cell? ⟨w1.heap.size + 1, 0, none⟩ = some (.int .i64 x) ∧ w'.cell? ⟨w1.heap.size + 1, 1, none⟩ = some (.int .i64 y)))
        (exact ⟨bc_all (by repeat (first | with_reducible exact O0 | with_reducible refine BCell.alloc ?_ _ | with_reducible refine BCell.drew ?_)), pc_both (by repeat (first | with_reducible exact O1 | with_reducible refine PCell.alloc ?_ _ | with_reducible refine PCell.drew ?_))⟩)
        (first | (go_at_call 8; with_reducible refine (C3.out _).mono ?_; rintro e wn ⟨rfl, Bn⟩; have O0 := BCell.step (by first | with_reducible exact O0 | with_reducible exact O0.drew) Bn; have O1 := PCell.step (by first | with_reducible exact O1 | with_reducible exact O1.drew) Bn; have Hb := Lib.hid (bl_trans (by first | with_reducible exact Hb.out | with_reducible exact bl_drew1 Hb.out) Bn); clear Bn) | (go_at_call 8; with_reducible refine (C4.out _).mono ?_; rintro e wn ⟨rfl, Bn⟩; have O0 := BCell.step (by first | with_reducible exact O0 | with_reducible exact O0.drew) Bn; have O1 := PCell.step (by first | with_reducible exact O1 | with_reducible exact O1.drew) Bn; have Hb := Lib.hid (bl_trans (by first | with_reducible exact Hb.out | with_reducible exact bl_drew1 Hb.out) Bn); clear Bn) | (go_at_call 14; with_reducible refine (C5.out _).mono ?_; rintro e wn ⟨rfl, Bn⟩; have O0 := BCell.step (by first | with_reducible exact O0 | with_reducible exact O0.drew) Bn; have O1 := PCell.step (by first | with_reducible exact O1 | with_reducible exact O1.drew) Bn; have Hb := Lib.hid (bl_trans (by first | with_reducible exact Hb.out | with_reducible exact bl_drew1 Hb.out) Bn); clear Bn))
      all_goals
        go_wp2
        go_ret
        first | exact ⟨rfl, (by repeat (first | with_reducible exact Hb.out | with_reducible refine bl_alloc ?_ _ | with_reducible refine bl_drew1 ?_))⟩ | exact ⟨ret_b (decide_eq_true (by omega)), (by repeat (first | with_reducible exact Hb.out | with_reducible refine bl_alloc ?_ _ | with_reducible refine bl_drew1 ?_))⟩ | exact ⟨ret_b (by simp; omega), (by repeat (first | with_reducible exact Hb.out | with_reducible refine bl_alloc ?_ _ | with_reducible refine bl_drew1 ?_))⟩

end Go.Proofs.Ytmhmlmoohimfmab
