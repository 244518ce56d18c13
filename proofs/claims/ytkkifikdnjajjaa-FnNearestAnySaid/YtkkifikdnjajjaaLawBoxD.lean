/-
  The walk of a law of chapter 3 whose last region draws its order: it returns true at every code.
-/
import Derived.Test.YtkkifikdnjajjaaBoxImpl
import Derived.Test.YtkkifikdnjajjaaDrawBoxC
import Derived.Test.YtkkifikdnjajjaaBoxLaws
import Derived.Test.YtkkifikdnjajjaaLawBoxB
import Derived.LoopN
namespace Go.Proofs.Ytkkifikdnjajjaa
open Go.RowKit
open M

set_option maxHeartbeats 2000000 in
theorem walk_FnNearestAny (a : Option Addr) (len cap : Nat) (zs : List Int) (a2 : Option Addr) (len2 cap2 : Nat) (zs2 : List Int) (w : World) (h : IsRow .u8 w a len cap zs) (h2 : IsRow .u8 w a2 len2 cap2 zs2) :
    Calls Try.prog 10 #[.slice a len cap, .slice a2 len2 cap2] w fun e w' => e = .returned (.bool true) ∧ Below w.heap.size w w' := by
  have hm := h.bytes.1
  have hm2 := h.bytes.2.1
  have hm3 := h2.bytes.1
  have hm4 := h2.bytes.2.1
  unfold maxLen at hm2 hm4
  by_cases g : 1048576 < len
  · have g1 : (1048576 : Int) < (len : Int) := by omega
    go_enter Try.func10, Try.ntmps10
    go_wp2
    go_ret
    exact ⟨rfl, Below.refl _ _⟩
  by_cases g2 : 1048576 < len2
  · have g1 : (len : Int) ≤ 1048576 := by omega
    have g3 : (1048576 : Int) < (len2 : Int) := by omega
    go_enter Try.func10, Try.ntmps10
    go_wp2
    go_ret
    exact ⟨rfl, Below.refl _ _⟩
  have g1 : (len : Int) ≤ 1048576 := by omega
  have g3 : (len2 : Int) ≤ 1048576 := by omega
  have g4 : (0 : Int) ≤ (len2 : Int) := by omega
  have h2 := Lib.hid h2
  go_enter Try.func10, Try.ntmps10
  go_wp2_with fail
  refine (draw_bnear a len cap zs w h).mono ?_
  rintro e w1 ⟨p, q, s, t, x, y, ⟨⟨p1, p2⟩, ⟨q1, q2⟩, ⟨s1, s2⟩, t1, t2⟩, ⟨⟨x1, x2⟩, y1, y2⟩, rfl, B1⟩
  have H1 := Lib.hid B1
  clear B1 h
  cases hb : nrB p q s t x y
  · obtain ⟨e1, e2⟩ := nr_no hb
    have C1 := Lib.hid (show ∀ W : World, Calls Try.prog 23 #[box p q s t, vec x y] W (fun e w' => e = .returned (.tuple #[vec 0 0, .bool false]) ∧ Below W.heap.size W w') from fun W => by have t := implBNear p q s t x y W; rw [e1, e2, hb] at t; exact t)
    go_wp2_with fail
    refine (C1.out _).mono ?_
    rintro e w2 ⟨rfl, B2⟩
    clear C1
    have H2 := Lib.hid (bl_trans (bl_alloc (bl_alloc (H1.out) _) _) B2)
    have V1 : BCell w2 (w1.heap.size) p q s t := ((BCell.new _ (w1.heap.size) p q s t _ (by first | rfl | simp)).alloc _).step B2
    have V2 : PCell w2 (w1.heap.size + 1) x y := (PCell.new _ (w1.heap.size + 1) x y _ (by first | rfl | simp)).step B2
    clear B2 H1
    have c1x0 := V1.c0
    have c1x1 := V1.c1
    have c1x2 := V1.c2
    have c1x3 := V1.c3
    have l1 := V1.lt
    have c2x0 := V2.c0
    have c2x1 := V2.c1
    have l2 := V2.lt
    have C2 := Lib.hid (show ∀ W : World, Calls Try.prog 24 #[box p q s t, vec x y] W (fun e w' => e = .returned (.tuple #[vec 0 0, .bool false]) ∧ Below W.heap.size W w') from fun W => by have t := specBNear p q s t x y W; rw [e1, e2, hb] at t; exact t)
    go_wp2_with fail
    refine (C2.out _).mono ?_
    rintro e w3 ⟨rfl, B3⟩
    clear C2
    have H3 := Lib.hid (bl_trans (bl_alloc (H2.out) _) B3)
    have V3 : BCell w3 w1.heap.size p q s t := (V1.alloc _).step B3
    have V4 : PCell w3 (w1.heap.size + 1) x y := (V2.alloc _).step B3
    have V5 : PCell w3 (w2.heap.size) 0 0 := (PCell.new _ (w2.heap.size) 0 0 _ (by first | rfl | simp)).step B3
    clear B3 H2 V1 c1x0 c1x1 c1x2 c1x3 l1 V2 c2x0 c2x1 l2
    have c3x0 := V3.c0
    have c3x1 := V3.c1
    have c3x2 := V3.c2
    have c3x3 := V3.c3
    have l3 := V3.lt
    have c4x0 := V4.c0
    have c4x1 := V4.c1
    have l4 := V4.lt
    have c5x0 := V5.c0
    have c5x1 := V5.c1
    have l5 := V5.lt
    go_wp2
    all_goals
      go_ret
      first | exact ⟨rfl, (by repeat (first | with_reducible exact H3.out | with_reducible refine bl_alloc ?_ _ | with_reducible refine bl_drew ?_ _))⟩ | exact ⟨ret_b (decide_eq_true (by omega)), (by repeat (first | with_reducible exact H3.out | with_reducible refine bl_alloc ?_ _ | with_reducible refine bl_drew ?_ _))⟩ | exact ⟨ret_b (by simp; omega), (by repeat (first | with_reducible exact H3.out | with_reducible refine bl_alloc ?_ _ | with_reducible refine bl_drew ?_ _))⟩
  obtain ⟨X, Y, e1, e2, eX, eY, h1, hv⟩ := nr_true hb
  have gb := bv_fields h1
  have gv := (vok_iff x y).1 hv
  have X1 : -1200000 ≤ X ∧ X ≤ 1200000 := by omega
  have Y1 : -1200000 ≤ Y ∧ Y ≤ 1200000 := by omega
  have qX := Lib.hid eX
  have qY := Lib.hid eY
  clear eX eY
  have C1 := Lib.hid (show ∀ W : World, Calls Try.prog 23 #[box p q s t, vec x y] W (fun e w' => e = .returned (.tuple #[vec X Y, .bool true]) ∧ Below W.heap.size W w') from fun W => by have t := implBNear p q s t x y W; rw [e1, e2, hb] at t; exact t)
  go_wp2_with fail
  refine (C1.out _).mono ?_
  rintro e w2 ⟨rfl, B2⟩
  clear C1
  have H2 := Lib.hid (bl_trans (bl_alloc (bl_alloc (H1.out) _) _) B2)
  have V1 : BCell w2 (w1.heap.size) p q s t := ((BCell.new _ (w1.heap.size) p q s t _ (by first | rfl | simp)).alloc _).step B2
  have V2 : PCell w2 (w1.heap.size + 1) x y := (PCell.new _ (w1.heap.size + 1) x y _ (by first | rfl | simp)).step B2
  clear B2 H1
  have c1x0 := V1.c0
  have c1x1 := V1.c1
  have c1x2 := V1.c2
  have c1x3 := V1.c3
  have l1 := V1.lt
  have c2x0 := V2.c0
  have c2x1 := V2.c1
  have l2 := V2.lt
  have C2 := Lib.hid (show ∀ W : World, Calls Try.prog 24 #[box p q s t, vec x y] W (fun e w' => e = .returned (.tuple #[vec X Y, .bool true]) ∧ Below W.heap.size W w') from fun W => by have t := specBNear p q s t x y W; rw [e1, e2, hb] at t; exact t)
  go_wp2_with fail
  refine (C2.out _).mono ?_
  rintro e w3 ⟨rfl, B3⟩
  clear C2
  have H3 := Lib.hid (bl_trans (bl_alloc (H2.out) _) B3)
  have V3 : BCell w3 w1.heap.size p q s t := (V1.alloc _).step B3
  have V4 : PCell w3 (w1.heap.size + 1) x y := (V2.alloc _).step B3
  have V5 : PCell w3 (w2.heap.size) X Y := (PCell.new _ (w2.heap.size) X Y _ (by first | rfl | simp)).step B3
  clear B3 H2 V1 c1x0 c1x1 c1x2 c1x3 l1 V2 c2x0 c2x1 l2
  have c3x0 := V3.c0
  have c3x1 := V3.c1
  have c3x2 := V3.c2
  have c3x3 := V3.c3
  have l3 := V3.lt
  have c4x0 := V4.c0
  have c4x1 := V4.c1
  have l4 := V4.lt
  have c5x0 := V5.c0
  have c5x1 := V5.c1
  have l5 := V5.lt
  go_wp2_with fail
  refine (draw_bhas a2 len2 cap2 zs2 _ (h2.out.below (bl_alloc (H3.out) _))).mono ?_
  rintro e w4 ⟨p3, q3, s3, t3, m, n, ⟨⟨p4, p5⟩, ⟨q4, q5⟩, ⟨s4, s5⟩, t4, t5⟩, ⟨⟨m1, m2⟩, n1, n2⟩, rfl, B4⟩
  have H4 := Lib.hid (bl_trans (bl_alloc (H3.out) _) B4)
  have V6 : BCell w4 w1.heap.size p q s t := (V3.alloc _).step B4
  have V7 : PCell w4 (w1.heap.size + 1) x y := (V4.alloc _).step B4
  have V8 : PCell w4 w2.heap.size X Y := (V5.alloc _).step B4
  have V9 : PCell w4 (w3.heap.size) X Y := (PCell.new _ (w3.heap.size) X Y _ (by first | rfl | simp)).step B4
  clear B4 H3 V3 c3x0 c3x1 c3x2 c3x3 l3 V4 c4x0 c4x1 l4 V5 c5x0 c5x1 l5
  have c6x0 := V6.c0
  have c6x1 := V6.c1
  have c6x2 := V6.c2
  have c6x3 := V6.c3
  have l6 := V6.lt
  have c7x0 := V7.c0
  have c7x1 := V7.c1
  have l7 := V7.lt
  have c8x0 := V8.c0
  have c8x1 := V8.c1
  have l8 := V8.lt
  have c9x0 := V9.c0
  have c9x1 := V9.c1
  have l9 := V9.lt
  cases kb : nrB p q s t m n
  · obtain ⟨d1, d2⟩ := nr_no kb
    have C3 := Lib.hid (show ∀ W : World, Calls Try.prog 23 #[box p q s t, vec m n] W (fun e w' => e = .returned (.tuple #[vec 0 0, .bool false]) ∧ Below W.heap.size W w') from fun W => by have t := implBNear p q s t m n W; rw [d1, d2, kb] at t; exact t)
    go_wp2_with fail
    refine (C3.out _).mono ?_
    rintro e w5 ⟨rfl, B5⟩
    clear C3
    have H5 := Lib.hid (bl_trans (bl_alloc (bl_alloc (H4.out) _) _) B5)
    have V10 : BCell w5 w1.heap.size p q s t := ((V6.alloc _).alloc _).step B5
    have V11 : PCell w5 (w1.heap.size + 1) x y := ((V7.alloc _).alloc _).step B5
    have V12 : PCell w5 w2.heap.size X Y := ((V8.alloc _).alloc _).step B5
    have V13 : PCell w5 w3.heap.size X Y := ((V9.alloc _).alloc _).step B5
    have V14 : BCell w5 (w4.heap.size) p3 q3 s3 t3 := ((BCell.new _ (w4.heap.size) p3 q3 s3 t3 _ (by first | rfl | simp)).alloc _).step B5
    have V15 : PCell w5 (w4.heap.size + 1) m n := (PCell.new _ (w4.heap.size + 1) m n _ (by first | rfl | simp)).step B5
    clear B5 H4 V6 c6x0 c6x1 c6x2 c6x3 l6 V7 c7x0 c7x1 l7 V8 c8x0 c8x1 l8 V9 c9x0 c9x1 l9
    have c10x0 := V10.c0
    have c10x1 := V10.c1
    have c10x2 := V10.c2
    have c10x3 := V10.c3
    have l10 := V10.lt
    have c11x0 := V11.c0
    have c11x1 := V11.c1
    have l11 := V11.lt
    have c12x0 := V12.c0
    have c12x1 := V12.c1
    have l12 := V12.lt
    have c13x0 := V13.c0
    have c13x1 := V13.c1
    have l13 := V13.lt
    have c14x0 := V14.c0
    have c14x1 := V14.c1
    have c14x2 := V14.c2
    have c14x3 := V14.c3
    have l14 := V14.lt
    have c15x0 := V15.c0
    have c15x1 := V15.c1
    have l15 := V15.lt
    go_wp2_with fail
    have O0 : BCell (w5.alloc (.cells #[.int .i64 0, .int .i64 0] 24)) w1.heap.size p q s t := (V10.alloc (.cells #[.int .i64 0, .int .i64 0] 24))
    have O1 : PCell (w5.alloc (.cells #[.int .i64 0, .int .i64 0] 24)) (w1.heap.size + 1) x y := (V11.alloc (.cells #[.int .i64 0, .int .i64 0] 24))
    have O2 : PCell (w5.alloc (.cells #[.int .i64 0, .int .i64 0] 24)) w2.heap.size X Y := (V12.alloc (.cells #[.int .i64 0, .int .i64 0] 24))
    have O3 : PCell (w5.alloc (.cells #[.int .i64 0, .int .i64 0] 24)) w3.heap.size X Y := (V13.alloc (.cells #[.int .i64 0, .int .i64 0] 24))
    have O4 : BCell (w5.alloc (.cells #[.int .i64 0, .int .i64 0] 24)) w4.heap.size p3 q3 s3 t3 := (V14.alloc (.cells #[.int .i64 0, .int .i64 0] 24))
    have O5 : PCell (w5.alloc (.cells #[.int .i64 0, .int .i64 0] 24)) (w4.heap.size + 1) m n := (V15.alloc (.cells #[.int .i64 0, .int .i64 0] 24))
    have O6 : PCell (w5.alloc (.cells #[.int .i64 0, .int .i64 0] 24)) w5.heap.size 0 0 := (PCell.new w5 (w5.heap.size) 0 0 24 (by first | rfl | simp))
    have Hb := Lib.hid (bl_alloc (H5.out) (.cells #[.int .i64 0, .int .i64 0] 24))
    clear H5 V10 c10x0 c10x1 c10x2 c10x3 l10 V11 c11x0 c11x1 l11 V12 c12x0 c12x1 l12 V13 c13x0 c13x1 l13 V14 c14x0 c14x1 c14x2 c14x3 l14 V15 c15x0 c15x1 l15
    go_region
    all_goals
      go_wp2
      go_ret
      first | exact ⟨rfl, (by repeat (first | with_reducible exact Hb.out | with_reducible refine bl_alloc ?_ _ | with_reducible refine bl_drew1 ?_))⟩ | exact ⟨ret_b (decide_eq_true (by omega)), (by repeat (first | with_reducible exact Hb.out | with_reducible refine bl_alloc ?_ _ | with_reducible refine bl_drew1 ?_))⟩ | exact ⟨ret_b (by simp; omega), (by repeat (first | with_reducible exact Hb.out | with_reducible refine bl_alloc ?_ _ | with_reducible refine bl_drew1 ?_))⟩
  · obtain ⟨K, M_, d1, d2, eK, eM, _, hw⟩ := nr_true kb
    have gw := (vok_iff m n).1 hw
    have K1 : -1200000 ≤ K ∧ K ≤ 1200000 := by omega
    have L1 : -1200000 ≤ M_ ∧ M_ ≤ 1200000 := by omega
    have le := nr_le (z := K) (w := M_) qX.out qY.out (by omega) (by omega)
    clear eK eM qX qY gb gv gw
    have C3 := Lib.hid (show ∀ W : World, Calls Try.prog 23 #[box p q s t, vec m n] W (fun e w' => e = .returned (.tuple #[vec K M_, .bool true]) ∧ Below W.heap.size W w') from fun W => by have t := implBNear p q s t m n W; rw [d1, d2, kb] at t; exact t)
    go_wp2_with fail
    refine (C3.out _).mono ?_
    rintro e w5 ⟨rfl, B5⟩
    clear C3
    have H5 := Lib.hid (bl_trans (bl_alloc (bl_alloc (H4.out) _) _) B5)
    have V10 : BCell w5 w1.heap.size p q s t := ((V6.alloc _).alloc _).step B5
    have V11 : PCell w5 (w1.heap.size + 1) x y := ((V7.alloc _).alloc _).step B5
    have V12 : PCell w5 w2.heap.size X Y := ((V8.alloc _).alloc _).step B5
    have V13 : PCell w5 w3.heap.size X Y := ((V9.alloc _).alloc _).step B5
    have V14 : BCell w5 (w4.heap.size) p3 q3 s3 t3 := ((BCell.new _ (w4.heap.size) p3 q3 s3 t3 _ (by first | rfl | simp)).alloc _).step B5
    have V15 : PCell w5 (w4.heap.size + 1) m n := (PCell.new _ (w4.heap.size + 1) m n _ (by first | rfl | simp)).step B5
    clear B5 H4 V6 c6x0 c6x1 c6x2 c6x3 l6 V7 c7x0 c7x1 l7 V8 c8x0 c8x1 l8 V9 c9x0 c9x1 l9
    have c10x0 := V10.c0
    have c10x1 := V10.c1
    have c10x2 := V10.c2
    have c10x3 := V10.c3
    have l10 := V10.lt
    have c11x0 := V11.c0
    have c11x1 := V11.c1
    have l11 := V11.lt
    have c12x0 := V12.c0
    have c12x1 := V12.c1
    have l12 := V12.lt
    have c13x0 := V13.c0
    have c13x1 := V13.c1
    have l13 := V13.lt
    have c14x0 := V14.c0
    have c14x1 := V14.c1
    have c14x2 := V14.c2
    have c14x3 := V14.c3
    have l14 := V14.lt
    have c15x0 := V15.c0
    have c15x1 := V15.c1
    have l15 := V15.lt
    go_wp2_with fail
    have O0 : BCell (w5.alloc (.cells #[.int .i64 K, .int .i64 M_] 24)) w1.heap.size p q s t := (V10.alloc (.cells #[.int .i64 K, .int .i64 M_] 24))
    have O1 : PCell (w5.alloc (.cells #[.int .i64 K, .int .i64 M_] 24)) (w1.heap.size + 1) x y := (V11.alloc (.cells #[.int .i64 K, .int .i64 M_] 24))
    have O2 : PCell (w5.alloc (.cells #[.int .i64 K, .int .i64 M_] 24)) w2.heap.size X Y := (V12.alloc (.cells #[.int .i64 K, .int .i64 M_] 24))
    have O3 : PCell (w5.alloc (.cells #[.int .i64 K, .int .i64 M_] 24)) w3.heap.size X Y := (V13.alloc (.cells #[.int .i64 K, .int .i64 M_] 24))
    have O4 : BCell (w5.alloc (.cells #[.int .i64 K, .int .i64 M_] 24)) w4.heap.size p3 q3 s3 t3 := (V14.alloc (.cells #[.int .i64 K, .int .i64 M_] 24))
    have O5 : PCell (w5.alloc (.cells #[.int .i64 K, .int .i64 M_] 24)) (w4.heap.size + 1) m n := (V15.alloc (.cells #[.int .i64 K, .int .i64 M_] 24))
    have O6 : PCell (w5.alloc (.cells #[.int .i64 K, .int .i64 M_] 24)) w5.heap.size K M_ := (PCell.new w5 (w5.heap.size) K M_ 24 (by first | rfl | simp))
    have Hb := Lib.hid (bl_alloc (H5.out) (.cells #[.int .i64 K, .int .i64 M_] 24))
    clear H5 V10 c10x0 c10x1 c10x2 c10x3 l10 V11 c11x0 c11x1 l11 V12 c12x0 c12x1 l12 V13 c13x0 c13x1 l13 V14 c14x0 c14x1 c14x2 c14x3 l14 V15 c15x0 c15x1 l15
    have C4 := Lib.hid (show ∀ W : World, Calls Try.prog 25 #[vec K M_, vec x y] W (fun e w' => e = .returned (.int .i64 (dsq K M_ x y)) ∧ Below W.heap.size W w') from fun W => (fun W => size_any K M_ x y W K1 L1 ⟨x1, x2⟩ ⟨y1, y2⟩) W)
    have C5 := Lib.hid (show ∀ W : World, Calls Try.prog 25 #[vec X Y, vec x y] W (fun e w' => e = .returned (.int .i64 (dsq X Y x y)) ∧ Below W.heap.size W w') from fun W => (fun W => size_any X Y x y W X1 Y1 ⟨x1, x2⟩ ⟨y1, y2⟩) W)
    go_region_held3 (fun w' => (w'.cell? ⟨w1.heap.size, 0, none⟩ = some (.int .i64 p) ∧ w'.cell? ⟨w1.heap.size, 1, none⟩ = some (.int .i64 q) ∧ w'.cell? ⟨w1.heap.size, 2, none⟩ = some (.int .i64 s) ∧ w'.cell? ⟨w1.heap.size, 3, none⟩ = some (.int .i64 t)) ∧ (w'.cell? ⟨w1.heap.size + 1, 0, none⟩ = some (.int .i64 x) ∧ w'.cell? ⟨w1.heap.size + 1, 1, none⟩ = some (.int .i64 y)) ∧ (w'.cell? ⟨w2.heap.size, 0, none⟩ = some (.int .i64 X) ∧ w'.cell? ⟨w2.heap.size, 1, none⟩ = some (.int .i64 Y)) ∧ (w'.cell? ⟨w3.heap.size, 0, none⟩ = some (.int .i64 X) ∧ w'.cell? ⟨w3.heap.size, 1, none⟩ = some (.int .i64 Y)) ∧ (w'.cell? ⟨w4.heap.size, 0, none⟩ = some (.int .i64 p3) ∧ w'.cell? ⟨w4.heap.size, 1, none⟩ = some (.int .i64 q3) ∧ w'.cell? ⟨w4.heap.size, 2, none⟩ = some (.int .i64 s3) ∧ w'.cell? ⟨w4.heap.size, 3, none⟩ = some (.int .i64 t3)) ∧ (w'.cell? ⟨w4.heap.size + 1, 0, none⟩ = some (.int .i64 m) ∧ w'.cell? ⟨w4.heap.size + 1, 1, none⟩ = some (.int .i64 n)) ∧ (w'.cell? ⟨w5.heap.size, 0, none⟩ = some (.int .i64 K) ∧ w'.cell? ⟨w5.heap.size, 1, none⟩ = some (.int .i64 M_)))
      (exact ⟨bc_all (by repeat (first | with_reducible exact O0 | with_reducible refine BCell.alloc ?_ _ | with_reducible refine BCell.drew ?_)), pc_both (by repeat (first | with_reducible exact O1 | with_reducible refine PCell.alloc ?_ _ | with_reducible refine PCell.drew ?_)), pc_both (by repeat (first | with_reducible exact O2 | with_reducible refine PCell.alloc ?_ _ | with_reducible refine PCell.drew ?_)), pc_both (by repeat (first | with_reducible exact O3 | with_reducible refine PCell.alloc ?_ _ | with_reducible refine PCell.drew ?_)), bc_all (by repeat (first | with_reducible exact O4 | with_reducible refine BCell.alloc ?_ _ | with_reducible refine BCell.drew ?_)), pc_both (by repeat (first | with_reducible exact O5 | with_reducible refine PCell.alloc ?_ _ | with_reducible refine PCell.drew ?_)), pc_both (by repeat (first | with_reducible exact O6 | with_reducible refine PCell.alloc ?_ _ | with_reducible refine PCell.drew ?_))⟩)
      (first | (go_at_call 25; with_reducible refine (C4.out _).mono ?_; rintro e wn ⟨rfl, Bn⟩; have O0 := BCell.step (by first | with_reducible exact O0 | with_reducible exact O0.drew) Bn; have O1 := PCell.step (by first | with_reducible exact O1 | with_reducible exact O1.drew) Bn; have O2 := PCell.step (by first | with_reducible exact O2 | with_reducible exact O2.drew) Bn; have O3 := PCell.step (by first | with_reducible exact O3 | with_reducible exact O3.drew) Bn; have O4 := BCell.step (by first | with_reducible exact O4 | with_reducible exact O4.drew) Bn; have O5 := PCell.step (by first | with_reducible exact O5 | with_reducible exact O5.drew) Bn; have O6 := PCell.step (by first | with_reducible exact O6 | with_reducible exact O6.drew) Bn; have Hb := Lib.hid (bl_trans (by first | with_reducible exact Hb.out | with_reducible exact bl_drew1 Hb.out) Bn); clear Bn) | (go_at_call 25; with_reducible refine (C5.out _).mono ?_; rintro e wn ⟨rfl, Bn⟩; have O0 := BCell.step (by first | with_reducible exact O0 | with_reducible exact O0.drew) Bn; have O1 := PCell.step (by first | with_reducible exact O1 | with_reducible exact O1.drew) Bn; have O2 := PCell.step (by first | with_reducible exact O2 | with_reducible exact O2.drew) Bn; have O3 := PCell.step (by first | with_reducible exact O3 | with_reducible exact O3.drew) Bn; have O4 := BCell.step (by first | with_reducible exact O4 | with_reducible exact O4.drew) Bn; have O5 := PCell.step (by first | with_reducible exact O5 | with_reducible exact O5.drew) Bn; have O6 := PCell.step (by first | with_reducible exact O6 | with_reducible exact O6.drew) Bn; have Hb := Lib.hid (bl_trans (by first | with_reducible exact Hb.out | with_reducible exact bl_drew1 Hb.out) Bn); clear Bn))
    all_goals
      go_wp2
      go_ret
      first | exact ⟨rfl, (by repeat (first | with_reducible exact Hb.out | with_reducible refine bl_alloc ?_ _ | with_reducible refine bl_drew1 ?_))⟩ | exact ⟨ret_b (decide_eq_true (by omega)), (by repeat (first | with_reducible exact Hb.out | with_reducible refine bl_alloc ?_ _ | with_reducible refine bl_drew1 ?_))⟩ | exact ⟨ret_b (by simp; omega), (by repeat (first | with_reducible exact Hb.out | with_reducible refine bl_alloc ?_ _ | with_reducible refine bl_drew1 ?_))⟩

end Go.Proofs.Ytkkifikdnjajjaa
