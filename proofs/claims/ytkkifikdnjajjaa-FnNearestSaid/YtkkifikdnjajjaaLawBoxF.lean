/-
  The walk of a law of chapter 3 whose last region draws its order: it returns true at every code.
-/
import Derived.Test.YtkkifikdnjajjaaBoxImpl
import Derived.Test.YtkkifikdnjajjaaDrawBoxC
import Derived.Test.YtkkifikdnjajjaaBoxLaws
import Derived.Test.YtkkifikdnjajjaaLawBoxB
import Derived.LoopN
namespace Go.Proofs.Ytkkifikdnjajjaa
open Go.RowKit
open M

set_option maxHeartbeats 2000000 in
theorem walk_FnNearest (a : Option Addr) (len cap : Nat) (zs : List Int) (w : World) (h : IsRow .u8 w a len cap zs) :
    Calls Try.prog 9 #[.slice a len cap] w fun e w' => e = .returned (.bool true) ∧ Below w.heap.size w w' := by
  have hm := h.bytes.1
  have hm2 := h.bytes.2.1
  unfold maxLen at hm2
  by_cases g : 1048576 < len
  · have g1 : (1048576 : Int) < (len : Int) := by omega
    go_enter Try.func9, Try.ntmps9
    go_wp2
    go_ret
    exact ⟨rfl, Below.refl _ _⟩
  have g1 : (len : Int) ≤ 1048576 := by omega
  go_enter Try.func9, Try.ntmps9
  go_wp2_with fail
  refine (draw_bnear a len cap zs w h).mono ?_
  rintro e w1 ⟨p, q, s, t, x, y, ⟨⟨p1, p2⟩, ⟨q1, q2⟩, ⟨s1, s2⟩, t1, t2⟩, ⟨⟨x1, x2⟩, y1, y2⟩, rfl, B1⟩
  have H1 := Lib.hid B1
  clear B1 h
  cases hb : nrB p q s t x y
  · obtain ⟨e1, e2⟩ := nr_no hb
    have C1 := Lib.hid (show ∀ W : World, Calls Try.prog 23 #[box p q s t, vec x y] W (fun e w' => e = .returned (.tuple #[vec 0 0, .bool false]) ∧ Below W.heap.size W w') from fun W => by have t := implBNear p q s t x y W; rw [e1, e2, hb] at t; exact t)
    go_wp2_with fail
    refine (C1.out _).mono ?_
    rintro e w2 ⟨rfl, B2⟩
    clear C1
    have H2 := Lib.hid (bl_trans (bl_alloc (bl_alloc (H1.out) _) _) B2)
    have V1 : BCell w2 (w1.heap.size) p q s t := ((BCell.new _ (w1.heap.size) p q s t _ (by first | rfl | simp)).alloc _).step B2
    have V2 : PCell w2 (w1.heap.size + 1) x y := (PCell.new _ (w1.heap.size + 1) x y _ (by first | rfl | simp)).step B2
    clear B2 H1
    have c1x0 := V1.c0
    have c1x1 := V1.c1
    have c1x2 := V1.c2
    have c1x3 := V1.c3
    have l1 := V1.lt
    have c2x0 := V2.c0
    have c2x1 := V2.c1
    have l2 := V2.lt
    have C2 := Lib.hid (show ∀ W : World, Calls Try.prog 24 #[box p q s t, vec x y] W (fun e w' => e = .returned (.tuple #[vec 0 0, .bool false]) ∧ Below W.heap.size W w') from fun W => by have t := specBNear p q s t x y W; rw [e1, e2, hb] at t; exact t)
    go_wp2_with fail
    refine (C2.out _).mono ?_
    rintro e w3 ⟨rfl, B3⟩
    clear C2
    have H3 := Lib.hid (bl_trans (bl_alloc (H2.out) _) B3)
    have V3 : BCell w3 w1.heap.size p q s t := (V1.alloc _).step B3
    have V4 : PCell w3 (w1.heap.size + 1) x y := (V2.alloc _).step B3
    have V5 : PCell w3 (w2.heap.size) 0 0 := (PCell.new _ (w2.heap.size) 0 0 _ (by first | rfl | simp)).step B3
    clear B3 H2 V1 c1x0 c1x1 c1x2 c1x3 l1 V2 c2x0 c2x1 l2
    have c3x0 := V3.c0
    have c3x1 := V3.c1
    have c3x2 := V3.c2
    have c3x3 := V3.c3
    have l3 := V3.lt
    have c4x0 := V4.c0
    have c4x1 := V4.c1
    have l4 := V4.lt
    have c5x0 := V5.c0
    have c5x1 := V5.c1
    have l5 := V5.lt
    go_wp2
    all_goals
      go_ret
      first | exact ⟨rfl, (by repeat (first | with_reducible exact H3.out | with_reducible refine bl_alloc ?_ _ | with_reducible refine bl_drew ?_ _))⟩ | exact ⟨ret_b (decide_eq_true (by omega)), (by repeat (first | with_reducible exact H3.out | with_reducible refine bl_alloc ?_ _ | with_reducible refine bl_drew ?_ _))⟩ | exact ⟨ret_b (by simp; omega), (by repeat (first | with_reducible exact H3.out | with_reducible refine bl_alloc ?_ _ | with_reducible refine bl_drew ?_ _))⟩
  obtain ⟨X, Y, e1, e2, eX, eY, h1, hv⟩ := nr_true hb
  have gb := bv_fields h1
  have gv := (vok_iff x y).1 hv
  have X1 : -1200000 ≤ X ∧ X ≤ 1200000 := by omega
  have Y1 : -1200000 ≤ Y ∧ Y ≤ 1200000 := by omega
  obtain ⟨i1, i2⟩ := nr_has h1 hv eX eY
  have n0 : ¬ (dsq p q x y < dsq X Y x y) := by have := nr_le (z := p) (w := q) eX eY (by omega) (by omega); omega
  have n1 : ¬ (dsq s t x y < dsq X Y x y) := by have := nr_le (z := s) (w := t) eX eY (by omega) (by omega); omega
  have n2 : ¬ (dsq p t x y < dsq X Y x y) := by have := nr_le (z := p) (w := t) eX eY (by omega) (by omega); omega
  have n3 : ¬ (dsq s q x y < dsq X Y x y) := by have := nr_le (z := s) (w := q) eX eY (by omega) (by omega); omega
  clear eX eY gb gv
  by_cases k1 : X = x
  · have k1 := k1.symm
    subst k1
    by_cases k2 : Y = y
    · have k2 := k2.symm
      subst k2
      clear i2
      have C1 := Lib.hid (show ∀ W : World, Calls Try.prog 23 #[box p q s t, vec x y] W (fun e w' => e = .returned (.tuple #[vec x y, .bool true]) ∧ Below W.heap.size W w') from fun W => by have t := implBNear p q s t x y W; rw [e1, e2, hb] at t; exact t)
      go_wp2_with fail
      refine (C1.out _).mono ?_
      rintro e w2 ⟨rfl, B2⟩
      clear C1
      have H2 := Lib.hid (bl_trans (bl_alloc (bl_alloc (H1.out) _) _) B2)
      have V1 : BCell w2 (w1.heap.size) p q s t := ((BCell.new _ (w1.heap.size) p q s t _ (by first | rfl | simp)).alloc _).step B2
      have V2 : PCell w2 (w1.heap.size + 1) x y := (PCell.new _ (w1.heap.size + 1) x y _ (by first | rfl | simp)).step B2
      clear B2 H1
      have c1x0 := V1.c0
      have c1x1 := V1.c1
      have c1x2 := V1.c2
      have c1x3 := V1.c3
      have l1 := V1.lt
      have c2x0 := V2.c0
      have c2x1 := V2.c1
      have l2 := V2.lt
      have C2 := Lib.hid (show ∀ W : World, Calls Try.prog 24 #[box p q s t, vec x y] W (fun e w' => e = .returned (.tuple #[vec x y, .bool true]) ∧ Below W.heap.size W w') from fun W => by have t := specBNear p q s t x y W; rw [e1, e2, hb] at t; exact t)
      go_wp2_with fail
      refine (C2.out _).mono ?_
      rintro e w3 ⟨rfl, B3⟩
      clear C2
      have H3 := Lib.hid (bl_trans (bl_alloc (H2.out) _) B3)
      have V3 : BCell w3 w1.heap.size p q s t := (V1.alloc _).step B3
      have V4 : PCell w3 (w1.heap.size + 1) x y := (V2.alloc _).step B3
      have V5 : PCell w3 (w2.heap.size) x y := (PCell.new _ (w2.heap.size) x y _ (by first | rfl | simp)).step B3
      clear B3 H2 V1 c1x0 c1x1 c1x2 c1x3 l1 V2 c2x0 c2x1 l2
      have c3x0 := V3.c0
      have c3x1 := V3.c1
      have c3x2 := V3.c2
      have c3x3 := V3.c3
      have l3 := V3.lt
      have c4x0 := V4.c0
      have c4x1 := V4.c1
      have l4 := V4.lt
      have c5x0 := V5.c0
      have c5x1 := V5.c1
      have l5 := V5.lt
      go_wp2_with fail
      have O0 : BCell ((w3.alloc (.cells #[.int .i64 x, .int .i64 y] 24)).alloc (.cells #[.int .i64 p, .int .i64 q, .int .i64 s, .int .i64 t, .int .i64 p, .int .i64 t, .int .i64 s, .int .i64 q] 24)) w1.heap.size p q s t := ((V3.alloc (.cells #[.int .i64 x, .int .i64 y] 24)).alloc (.cells #[.int .i64 p, .int .i64 q, .int .i64 s, .int .i64 t, .int .i64 p, .int .i64 t, .int .i64 s, .int .i64 q] 24))
      have O1 : PCell ((w3.alloc (.cells #[.int .i64 x, .int .i64 y] 24)).alloc (.cells #[.int .i64 p, .int .i64 q, .int .i64 s, .int .i64 t, .int .i64 p, .int .i64 t, .int .i64 s, .int .i64 q] 24)) (w1.heap.size + 1) x y := ((V4.alloc (.cells #[.int .i64 x, .int .i64 y] 24)).alloc (.cells #[.int .i64 p, .int .i64 q, .int .i64 s, .int .i64 t, .int .i64 p, .int .i64 t, .int .i64 s, .int .i64 q] 24))
      have O2 : PCell ((w3.alloc (.cells #[.int .i64 x, .int .i64 y] 24)).alloc (.cells #[.int .i64 p, .int .i64 q, .int .i64 s, .int .i64 t, .int .i64 p, .int .i64 t, .int .i64 s, .int .i64 q] 24)) w2.heap.size x y := ((V5.alloc (.cells #[.int .i64 x, .int .i64 y] 24)).alloc (.cells #[.int .i64 p, .int .i64 q, .int .i64 s, .int .i64 t, .int .i64 p, .int .i64 t, .int .i64 s, .int .i64 q] 24))
      have O3 : PCell ((w3.alloc (.cells #[.int .i64 x, .int .i64 y] 24)).alloc (.cells #[.int .i64 p, .int .i64 q, .int .i64 s, .int .i64 t, .int .i64 p, .int .i64 t, .int .i64 s, .int .i64 q] 24)) w3.heap.size x y := ((PCell.new w3 (w3.heap.size) x y 24 (by first | rfl | simp)).alloc (.cells #[.int .i64 p, .int .i64 q, .int .i64 s, .int .i64 t, .int .i64 p, .int .i64 t, .int .i64 s, .int .i64 q] 24))
      have O4 : QCell ((w3.alloc (.cells #[.int .i64 x, .int .i64 y] 24)).alloc (.cells #[.int .i64 p, .int .i64 q, .int .i64 s, .int .i64 t, .int .i64 p, .int .i64 t, .int .i64 s, .int .i64 q] 24)) (w3.heap.size + 1) p q s t p t s q := (QCell.new (w3.alloc (.cells #[.int .i64 x, .int .i64 y] 24)) (w3.heap.size + 1) p q s t p t s q 24 (by first | rfl | simp))
      have Hb := Lib.hid (bl_alloc (bl_alloc (H3.out) (.cells #[.int .i64 x, .int .i64 y] 24)) (.cells #[.int .i64 p, .int .i64 q, .int .i64 s, .int .i64 t, .int .i64 p, .int .i64 t, .int .i64 s, .int .i64 q] 24))
      clear H3 V3 c3x0 c3x1 c3x2 c3x3 l3 V4 c4x0 c4x1 l4 V5 c5x0 c5x1 l5
      refine wp_loop_rounds 5 ?_
      rw [rounds_succ]
      go_wp2_with fail
      have C3 := Lib.hid (show ∀ W : World, Calls Try.prog 25 #[vec p q, vec x y] W (fun e w' => e = .returned (.int .i64 (dsq p q x y)) ∧ Below W.heap.size W w') from fun W => (fun W => size_any p q x y W ⟨p1, p2⟩ ⟨q1, q2⟩ ⟨x1, x2⟩ ⟨y1, y2⟩) W)
      have C4 := Lib.hid (show ∀ W : World, Calls Try.prog 25 #[vec x y, vec x y] W (fun e w' => e = .returned (.int .i64 (dsq x y x y)) ∧ Below W.heap.size W w') from fun W => (fun W => size_any x y x y W X1 Y1 ⟨x1, x2⟩ ⟨y1, y2⟩) W)
      go_region_held3 (fun w' => (w'.cell? ⟨w1.heap.size, 0, none⟩ = some (.int .i64 p) ∧ w'.cell? ⟨w1.heap.size, 1, none⟩ = some (.int .i64 q) ∧ w'.cell? ⟨w1.heap.size, 2, none⟩ = some (.int .i64 s) ∧ w'.cell? ⟨w1.heap.size, 3, none⟩ = some (.int .i64 t)) ∧ (w'.cell? ⟨w1.heap.size + 1, 0, none⟩ = some (.int .i64 x) ∧ w'.cell? ⟨w1.heap.size + 1, 1, none⟩ = some (.int .i64 y)) ∧ (w'.cell? ⟨w2.heap.size, 0, none⟩ = some (.int .i64 x) ∧ w'.cell? ⟨w2.heap.size, 1, none⟩ = some (.int .i64 y)) ∧ (w'.cell? ⟨w3.heap.size, 0, none⟩ = some (.int .i64 x) ∧ w'.cell? ⟨w3.heap.size, 1, none⟩ = some (.int .i64 y)) ∧ (w'.cell? ⟨w3.heap.size + 1, 0, none⟩ = some (.int .i64 p) ∧ w'.cell? ⟨w3.heap.size + 1, 1, none⟩ = some (.int .i64 q) ∧ w'.cell? ⟨w3.heap.size + 1, 2, none⟩ = some (.int .i64 s) ∧ w'.cell? ⟨w3.heap.size + 1, 3, none⟩ = some (.int .i64 t) ∧ w'.cell? ⟨w3.heap.size + 1, 4, none⟩ = some (.int .i64 p) ∧ w'.cell? ⟨w3.heap.size + 1, 5, none⟩ = some (.int .i64 t) ∧ w'.cell? ⟨w3.heap.size + 1, 6, none⟩ = some (.int .i64 s) ∧ w'.cell? ⟨w3.heap.size + 1, 7, none⟩ = some (.int .i64 q)))
        (exact ⟨bc_all (by repeat (first | with_reducible exact O0 | with_reducible refine BCell.alloc ?_ _ | with_reducible refine BCell.drew ?_)), pc_both (by repeat (first | with_reducible exact O1 | with_reducible refine PCell.alloc ?_ _ | with_reducible refine PCell.drew ?_)), pc_both (by repeat (first | with_reducible exact O2 | with_reducible refine PCell.alloc ?_ _ | with_reducible refine PCell.drew ?_)), pc_both (by repeat (first | with_reducible exact O3 | with_reducible refine PCell.alloc ?_ _ | with_reducible refine PCell.drew ?_)), qc_all (by repeat (first | with_reducible exact O4 | with_reducible refine QCell.alloc ?_ _ | with_reducible refine QCell.drew ?_))⟩)
        (first | (go_at_call 25; with_reducible refine (C3.out _).mono ?_; rintro e wn ⟨rfl, Bn⟩; have O0 := BCell.step (by first | with_reducible exact O0 | with_reducible exact O0.drew) Bn; have O1 := PCell.step (by first | with_reducible exact O1 | with_reducible exact O1.drew) Bn; have O2 := PCell.step (by first | with_reducible exact O2 | with_reducible exact O2.drew) Bn; have O3 := PCell.step (by first | with_reducible exact O3 | with_reducible exact O3.drew) Bn; have O4 := QCell.step (by first | with_reducible exact O4 | with_reducible exact O4.drew) Bn; have Hb := Lib.hid (bl_trans (by first | with_reducible exact Hb.out | with_reducible exact bl_drew1 Hb.out) Bn); clear Bn) | (go_at_call 25; with_reducible refine (C4.out _).mono ?_; rintro e wn ⟨rfl, Bn⟩; have O0 := BCell.step (by first | with_reducible exact O0 | with_reducible exact O0.drew) Bn; have O1 := PCell.step (by first | with_reducible exact O1 | with_reducible exact O1.drew) Bn; have O2 := PCell.step (by first | with_reducible exact O2 | with_reducible exact O2.drew) Bn; have O3 := PCell.step (by first | with_reducible exact O3 | with_reducible exact O3.drew) Bn; have O4 := QCell.step (by first | with_reducible exact O4 | with_reducible exact O4.drew) Bn; have Hb := Lib.hid (bl_trans (by first | with_reducible exact Hb.out | with_reducible exact bl_drew1 Hb.out) Bn); clear Bn))
      go_wp2_with fail
      rw [rounds_succ]
      go_wp2_with fail
      have C5 := Lib.hid (show ∀ W : World, Calls Try.prog 25 #[vec s t, vec x y] W (fun e w' => e = .returned (.int .i64 (dsq s t x y)) ∧ Below W.heap.size W w') from fun W => (fun W => size_any s t x y W ⟨s1, s2⟩ ⟨t1, t2⟩ ⟨x1, x2⟩ ⟨y1, y2⟩) W)
      have C6 := Lib.hid (show ∀ W : World, Calls Try.prog 25 #[vec x y, vec x y] W (fun e w' => e = .returned (.int .i64 (dsq x y x y)) ∧ Below W.heap.size W w') from fun W => (fun W => size_any x y x y W X1 Y1 ⟨x1, x2⟩ ⟨y1, y2⟩) W)
      go_region_held3 (fun w' => (w'.cell? ⟨w1.heap.size, 0, none⟩ = some (.int .i64 p) ∧ w'.cell? ⟨w1.heap.size, 1, none⟩ = some (.int .i64 q) ∧ w'.cell? ⟨w1.heap.size, 2, none⟩ = some (.int .i64 s) ∧ w'.cell? ⟨w1.heap.size, 3, none⟩ = some (.int .i64 t)) ∧ (w'.cell? ⟨w1.heap.size + 1, 0, none⟩ = some (.int .i64 x) ∧ w'.cell? ⟨w1.heap.size + 1, 1, none⟩ = some (.int .i64 y)) ∧ (w'.cell? ⟨w2.heap.size, 0, none⟩ = some (.int .i64 x) ∧ w'.cell? ⟨w2.heap.size, 1, none⟩ = some (.int .i64 y)) ∧ (w'.cell? ⟨w3.heap.size, 0, none⟩ = some (.int .i64 x) ∧ w'.cell? ⟨w3.heap.size, 1, none⟩ = some (.int .i64 y)) ∧ (w'.cell? ⟨w3.heap.size + 1, 0, none⟩ = some (.int .i64 p) ∧ w'.cell? ⟨w3.heap.size + 1, 1, none⟩ = some (.int .i64 q) ∧ w'.cell? ⟨w3.heap.size + 1, 2, none⟩ = some (.int .i64 s) ∧ w'.cell? ⟨w3.heap.size + 1, 3, none⟩ = some (.int .i64 t) ∧ w'.cell? ⟨w3.heap.size + 1, 4, none⟩ = some (.int .i64 p) ∧ w'.cell? ⟨w3.heap.size + 1, 5, none⟩ = some (.int .i64 t) ∧ w'.cell? ⟨w3.heap.size + 1, 6, none⟩ = some (.int .i64 s) ∧ w'.cell? ⟨w3.heap.size + 1, 7, none⟩ = some (.int .i64 q)))
        (exact ⟨bc_all (by repeat (first | with_reducible exact O0 | with_reducible refine BCell.alloc ?_ _ | with_reducible refine BCell.drew ?_)), pc_both (by repeat (first | with_reducible exact O1 | with_reducible refine PCell.alloc ?_ _ | with_reducible refine PCell.drew ?_)), pc_both (by repeat (first | with_reducible exact O2 | with_reducible refine PCell.alloc ?_ _ | with_reducible refine PCell.drew ?_)), pc_both (by repeat (first | with_reducible exact O3 | with_reducible refine PCell.alloc ?_ _ | with_reducible refine PCell.drew ?_)), qc_all (by repeat (first | with_reducible exact O4 | with_reducible refine QCell.alloc ?_ _ | with_reducible refine QCell.drew ?_))⟩)
        (first | (go_at_call 25; with_reducible refine (C5.out _).mono ?_; rintro e wn ⟨rfl, Bn⟩; have O0 := BCell.step (by first | with_reducible exact O0 | with_reducible exact O0.drew) Bn; have O1 := PCell.step (by first | with_reducible exact O1 | with_reducible exact O1.drew) Bn; have O2 := PCell.step (by first | with_reducible exact O2 | with_reducible exact O2.drew) Bn; have O3 := PCell.step (by first | with_reducible exact O3 | with_reducible exact O3.drew) Bn; have O4 := QCell.step (by first | with_reducible exact O4 | with_reducible exact O4.drew) Bn; have Hb := Lib.hid (bl_trans (by first | with_reducible exact Hb.out | with_reducible exact bl_drew1 Hb.out) Bn); clear Bn) | (go_at_call 25; with_reducible refine (C6.out _).mono ?_; rintro e wn ⟨rfl, Bn⟩; have O0 := BCell.step (by first | with_reducible exact O0 | with_reducible exact O0.drew) Bn; have O1 := PCell.step (by first | with_reducible exact O1 | with_reducible exact O1.drew) Bn; have O2 := PCell.step (by first | with_reducible exact O2 | with_reducible exact O2.drew) Bn; have O3 := PCell.step (by first | with_reducible exact O3 | with_reducible exact O3.drew) Bn; have O4 := QCell.step (by first | with_reducible exact O4 | with_reducible exact O4.drew) Bn; have Hb := Lib.hid (bl_trans (by first | with_reducible exact Hb.out | with_reducible exact bl_drew1 Hb.out) Bn); clear Bn))
      go_wp2_with fail
      rw [rounds_succ]
      go_wp2_with fail
      have C7 := Lib.hid (show ∀ W : World, Calls Try.prog 25 #[vec p t, vec x y] W (fun e w' => e = .returned (.int .i64 (dsq p t x y)) ∧ Below W.heap.size W w') from fun W => (fun W => size_any p t x y W ⟨p1, p2⟩ ⟨t1, t2⟩ ⟨x1, x2⟩ ⟨y1, y2⟩) W)
      have C8 := Lib.hid (show ∀ W : World, Calls Try.prog 25 #[vec x y, vec x y] W (fun e w' => e = .returned (.int .i64 (dsq x y x y)) ∧ Below W.heap.size W w') from fun W => (fun W => size_any x y x y W X1 Y1 ⟨x1, x2⟩ ⟨y1, y2⟩) W)
      go_region_held3 (fun w' => (w'.cell? ⟨w1.heap.size, 0, none⟩ = some (.int .i64 p) ∧ w'.cell? ⟨w1.heap.size, 1, none⟩ = some (.int .i64 q) ∧ w'.cell? ⟨w1.heap.size, 2, none⟩ = some (.int .i64 s) ∧ w'.cell? ⟨w1.heap.size, 3, none⟩ = some (.int .i64 t)) ∧ (w'.cell? ⟨w1.heap.size + 1, 0, none⟩ = some (.int .i64 x) ∧ w'.cell? ⟨w1.heap.size + 1, 1, none⟩ = some (.int .i64 y)) ∧ (w'.cell? ⟨w2.heap.size, 0, none⟩ = some (.int .i64 x) ∧ w'.cell? ⟨w2.heap.size, 1, none⟩ = some (.int .i64 y)) ∧ (w'.cell? ⟨w3.heap.size, 0, none⟩ = some (.int .i64 x) ∧ w'.cell? ⟨w3.heap.size, 1, none⟩ = some (.int .i64 y)) ∧ (w'.cell? ⟨w3.heap.size + 1, 0, none⟩ = some (.int .i64 p) ∧ w'.cell? ⟨w3.heap.size + 1, 1, none⟩ = some (.int .i64 q) ∧ w'.cell? ⟨w3.heap.size + 1, 2, none⟩ = some (.int .i64 s) ∧ w'.cell? ⟨w3.heap.size + 1, 3, none⟩ = some (.int .i64 t) ∧ w'.cell? ⟨w3.heap.size + 1, 4, none⟩ = some (.int .i64 p) ∧ w'.cell? ⟨w3.heap.size + 1, 5, none⟩ = some (.int .i64 t) ∧ w'.cell? ⟨w3.heap.size + 1, 6, none⟩ = some (.int .i64 s) ∧ w'.cell? ⟨w3.heap.size + 1, 7, none⟩ = some (.int .i64 q)))
        (exact ⟨bc_all (by repeat (first | with_reducible exact O0 | with_reducible refine BCell.alloc ?_ _ | with_reducible refine BCell.drew ?_)), pc_both (by repeat (first | with_reducible exact O1 | with_reducible refine PCell.alloc ?_ _ | with_reducible refine PCell.drew ?_)), pc_both (by repeat (first | with_reducible exact O2 | with_reducible refine PCell.alloc ?_ _ | with_reducible refine PCell.drew ?_)), pc_both (by repeat (first | with_reducible exact O3 | with_reducible refine PCell.alloc ?_ _ | with_reducible refine PCell.drew ?_)), qc_all (by repeat (first | with_reducible exact O4 | with_reducible refine QCell.alloc ?_ _ | with_reducible refine QCell.drew ?_))⟩)
        (first | (go_at_call 25; with_reducible refine (C7.out _).mono ?_; rintro e wn ⟨rfl, Bn⟩; have O0 := BCell.step (by first | with_reducible exact O0 | with_reducible exact O0.drew) Bn; have O1 := PCell.step (by first | with_reducible exact O1 | with_reducible exact O1.drew) Bn; have O2 := PCell.step (by first | with_reducible exact O2 | with_reducible exact O2.drew) Bn; have O3 := PCell.step (by first | with_reducible exact O3 | with_reducible exact O3.drew) Bn; have O4 := QCell.step (by first | with_reducible exact O4 | with_reducible exact O4.drew) Bn; have Hb := Lib.hid (bl_trans (by first | with_reducible exact Hb.out | with_reducible exact bl_drew1 Hb.out) Bn); clear Bn) | (go_at_call 25; with_reducible refine (C8.out _).mono ?_; rintro e wn ⟨rfl, Bn⟩; have O0 := BCell.step (by first | with_reducible exact O0 | with_reducible exact O0.drew) Bn; have O1 := PCell.step (by first | with_reducible exact O1 | with_reducible exact O1.drew) Bn; have O2 := PCell.step (by first | with_reducible exact O2 | with_reducible exact O2.drew) Bn; have O3 := PCell.step (by first | with_reducible exact O3 | with_reducible exact O3.drew) Bn; have O4 := QCell.step (by first | with_reducible exact O4 | with_reducible exact O4.drew) Bn; have Hb := Lib.hid (bl_trans (by first | with_reducible exact Hb.out | with_reducible exact bl_drew1 Hb.out) Bn); clear Bn))
      go_wp2_with fail
      rw [rounds_succ]
      go_wp2_with fail
      have C9 := Lib.hid (show ∀ W : World, Calls Try.prog 25 #[vec s q, vec x y] W (fun e w' => e = .returned (.int .i64 (dsq s q x y)) ∧ Below W.heap.size W w') from fun W => (fun W => size_any s q x y W ⟨s1, s2⟩ ⟨q1, q2⟩ ⟨x1, x2⟩ ⟨y1, y2⟩) W)
      have C10 := Lib.hid (show ∀ W : World, Calls Try.prog 25 #[vec x y, vec x y] W (fun e w' => e = .returned (.int .i64 (dsq x y x y)) ∧ Below W.heap.size W w') from fun W => (fun W => size_any x y x y W X1 Y1 ⟨x1, x2⟩ ⟨y1, y2⟩) W)
      go_region_held3 (fun w' => (w'.cell? ⟨w1.heap.size, 0, none⟩ = some (.int .i64 p) ∧ w'.cell? ⟨w1.heap.size, 1, none⟩ = some (.int .i64 q) ∧ w'.cell? ⟨w1.heap.size, 2, none⟩ = some (.int .i64 s) ∧ w'.cell? ⟨w1.heap.size, 3, none⟩ = some (.int .i64 t)) ∧ (w'.cell? ⟨w1.heap.size + 1, 0, none⟩ = some (.int .i64 x) ∧ w'.cell? ⟨w1.heap.size + 1, 1, none⟩ = some (.int .i64 y)) ∧ (w'.cell? ⟨w2.heap.size, 0, none⟩ = some (.int .i64 x) ∧ w'.cell? ⟨w2.heap.size, 1, none⟩ = some (.int .i64 y)) ∧ (w'.cell? ⟨w3.heap.size, 0, none⟩ = some (.int .i64 x) ∧ w'.cell? ⟨w3.heap.size, 1, none⟩ = some (.int .i64 y)) ∧ (w'.cell? ⟨w3.heap.size + 1, 0, none⟩ = some (.int .i64 p) ∧ w'.cell? ⟨w3.heap.size + 1, 1, none⟩ = some (.int .i64 q) ∧ w'.cell? ⟨w3.heap.size + 1, 2, none⟩ = some (.int .i64 s) ∧ w'.cell? ⟨w3.heap.size + 1, 3, none⟩ = some (.int .i64 t) ∧ w'.cell? ⟨w3.heap.size + 1, 4, none⟩ = some (.int .i64 p) ∧ w'.cell? ⟨w3.heap.size + 1, 5, none⟩ = some (.int .i64 t) ∧ w'.cell? ⟨w3.heap.size + 1, 6, none⟩ = some (.int .i64 s) ∧ w'.cell? ⟨w3.heap.size + 1, 7, none⟩ = some (.int .i64 q)))
        (exact ⟨bc_all (by repeat (first | with_reducible exact O0 | with_reducible refine BCell.alloc ?_ _ | with_reducible refine BCell.drew ?_)), pc_both (by repeat (first | with_reducible exact O1 | with_reducible refine PCell.alloc ?_ _ | with_reducible refine PCell.drew ?_)), pc_both (by repeat (first | with_reducible exact O2 | with_reducible refine PCell.alloc ?_ _ | with_reducible refine PCell.drew ?_)), pc_both (by repeat (first | with_reducible exact O3 | with_reducible refine PCell.alloc ?_ _ | with_reducible refine PCell.drew ?_)), qc_all (by repeat (first | with_reducible exact O4 | with_reducible refine QCell.alloc ?_ _ | with_reducible refine QCell.drew ?_))⟩)
        (first | (go_at_call 25; with_reducible refine (C9.out _).mono ?_; rintro e wn ⟨rfl, Bn⟩; have O0 := BCell.step (by first | with_reducible exact O0 | with_reducible exact O0.drew) Bn; have O1 := PCell.step (by first | with_reducible exact O1 | with_reducible exact O1.drew) Bn; have O2 := PCell.step (by first | with_reducible exact O2 | with_reducible exact O2.drew) Bn; have O3 := PCell.step (by first | with_reducible exact O3 | with_reducible exact O3.drew) Bn; have O4 := QCell.step (by first | with_reducible exact O4 | with_reducible exact O4.drew) Bn; have Hb := Lib.hid (bl_trans (by first | with_reducible exact Hb.out | with_reducible exact bl_drew1 Hb.out) Bn); clear Bn) | (go_at_call 25; with_reducible refine (C10.out _).mono ?_; rintro e wn ⟨rfl, Bn⟩; have O0 := BCell.step (by first | with_reducible exact O0 | with_reducible exact O0.drew) Bn; have O1 := PCell.step (by first | with_reducible exact O1 | with_reducible exact O1.drew) Bn; have O2 := PCell.step (by first | with_reducible exact O2 | with_reducible exact O2.drew) Bn; have O3 := PCell.step (by first | with_reducible exact O3 | with_reducible exact O3.drew) Bn; have O4 := QCell.step (by first | with_reducible exact O4 | with_reducible exact O4.drew) Bn; have Hb := Lib.hid (bl_trans (by first | with_reducible exact Hb.out | with_reducible exact bl_drew1 Hb.out) Bn); clear Bn))
      go_wp2_with fail
      rw [rounds_succ]
      go_wp2_with fail
      have C11 := Lib.hid (show ∀ W : World, Calls Try.prog 15 #[box p q s t, vec x y] W (fun e w' => e = .returned (.bool true) ∧ Below W.heap.size W w') from fun W => by have t := implBHas p q s t x y W; rw [i1] at t; exact t)
      go_region_held3 (fun w' => (w'.cell? ⟨w1.heap.size, 0, none⟩ = some (.int .i64 p) ∧ w'.cell? ⟨w1.heap.size, 1, none⟩ = some (.int .i64 q) ∧ w'.cell? ⟨w1.heap.size, 2, none⟩ = some (.int .i64 s) ∧ w'.cell? ⟨w1.heap.size, 3, none⟩ = some (.int .i64 t)) ∧ (w'.cell? ⟨w1.heap.size + 1, 0, none⟩ = some (.int .i64 x) ∧ w'.cell? ⟨w1.heap.size + 1, 1, none⟩ = some (.int .i64 y)) ∧ (w'.cell? ⟨w2.heap.size, 0, none⟩ = some (.int .i64 x) ∧ w'.cell? ⟨w2.heap.size, 1, none⟩ = some (.int .i64 y)) ∧ (w'.cell? ⟨w3.heap.size, 0, none⟩ = some (.int .i64 x) ∧ w'.cell? ⟨w3.heap.size, 1, none⟩ = some (.int .i64 y)) ∧ (w'.cell? ⟨w3.heap.size + 1, 0, none⟩ = some (.int .i64 p) ∧ w'.cell? ⟨w3.heap.size + 1, 1, none⟩ = some (.int .i64 q) ∧ w'.cell? ⟨w3.heap.size + 1, 2, none⟩ = some (.int .i64 s) ∧ w'.cell? ⟨w3.heap.size + 1, 3, none⟩ = some (.int .i64 t) ∧ w'.cell? ⟨w3.heap.size + 1, 4, none⟩ = some (.int .i64 p) ∧ w'.cell? ⟨w3.heap.size + 1, 5, none⟩ = some (.int .i64 t) ∧ w'.cell? ⟨w3.heap.size + 1, 6, none⟩ = some (.int .i64 s) ∧ w'.cell? ⟨w3.heap.size + 1, 7, none⟩ = some (.int .i64 q)))
        (exact ⟨bc_all (by repeat (first | with_reducible exact O0 | with_reducible refine BCell.alloc ?_ _ | with_reducible refine BCell.drew ?_)), pc_both (by repeat (first | with_reducible exact O1 | with_reducible refine PCell.alloc ?_ _ | with_reducible refine PCell.drew ?_)), pc_both (by repeat (first | with_reducible exact O2 | with_reducible refine PCell.alloc ?_ _ | with_reducible refine PCell.drew ?_)), pc_both (by repeat (first | with_reducible exact O3 | with_reducible refine PCell.alloc ?_ _ | with_reducible refine PCell.drew ?_)), qc_all (by repeat (first | with_reducible exact O4 | with_reducible refine QCell.alloc ?_ _ | with_reducible refine QCell.drew ?_))⟩)
        (first | (go_at_call 15; with_reducible refine (C11.out _).mono ?_; rintro e wn ⟨rfl, Bn⟩; have O0 := BCell.step (by first | with_reducible exact O0 | with_reducible exact O0.drew) Bn; have O1 := PCell.step (by first | with_reducible exact O1 | with_reducible exact O1.drew) Bn; have O2 := PCell.step (by first | with_reducible exact O2 | with_reducible exact O2.drew) Bn; have O3 := PCell.step (by first | with_reducible exact O3 | with_reducible exact O3.drew) Bn; have O4 := QCell.step (by first | with_reducible exact O4 | with_reducible exact O4.drew) Bn; have Hb := Lib.hid (bl_trans (by first | with_reducible exact Hb.out | with_reducible exact bl_drew1 Hb.out) Bn); clear Bn))
      all_goals
        go_wp2
        go_ret
        first | exact ⟨rfl, (by repeat (first | with_reducible exact Hb.out | with_reducible refine bl_alloc ?_ _ | with_reducible refine bl_drew1 ?_))⟩ | exact ⟨ret_b (decide_eq_true (by omega)), (by repeat (first | with_reducible exact Hb.out | with_reducible refine bl_alloc ?_ _ | with_reducible refine bl_drew1 ?_))⟩ | exact ⟨ret_b (by simp; omega), (by repeat (first | with_reducible exact Hb.out | with_reducible refine bl_alloc ?_ _ | with_reducible refine bl_drew1 ?_))⟩
    · have j2 := bool_false (fun g => k2 (i2.1 g).2)
      have k3 : (Y == y) = false := beq_eq_false_iff_ne.2 k2
      clear i2
      have C1 := Lib.hid (show ∀ W : World, Calls Try.prog 23 #[box p q s t, vec x y] W (fun e w' => e = .returned (.tuple #[vec x Y, .bool true]) ∧ Below W.heap.size W w') from fun W => by have t := implBNear p q s t x y W; rw [e1, e2, hb] at t; exact t)
      go_wp2_with fail
      refine (C1.out _).mono ?_
      rintro e w2 ⟨rfl, B2⟩
      clear C1
      have H2 := Lib.hid (bl_trans (bl_alloc (bl_alloc (H1.out) _) _) B2)
      have V1 : BCell w2 (w1.heap.size) p q s t := ((BCell.new _ (w1.heap.size) p q s t _ (by first | rfl | simp)).alloc _).step B2
      have V2 : PCell w2 (w1.heap.size + 1) x y := (PCell.new _ (w1.heap.size + 1) x y _ (by first | rfl | simp)).step B2
      clear B2 H1
      have c1x0 := V1.c0
      have c1x1 := V1.c1
      have c1x2 := V1.c2
      have c1x3 := V1.c3
      have l1 := V1.lt
      have c2x0 := V2.c0
      have c2x1 := V2.c1
      have l2 := V2.lt
      have C2 := Lib.hid (show ∀ W : World, Calls Try.prog 24 #[box p q s t, vec x y] W (fun e w' => e = .returned (.tuple #[vec x Y, .bool true]) ∧ Below W.heap.size W w') from fun W => by have t := specBNear p q s t x y W; rw [e1, e2, hb] at t; exact t)
      go_wp2_with fail
      refine (C2.out _).mono ?_
      rintro e w3 ⟨rfl, B3⟩
      clear C2
      have H3 := Lib.hid (bl_trans (bl_alloc (H2.out) _) B3)
      have V3 : BCell w3 w1.heap.size p q s t := (V1.alloc _).step B3
      have V4 : PCell w3 (w1.heap.size + 1) x y := (V2.alloc _).step B3
      have V5 : PCell w3 (w2.heap.size) x Y := (PCell.new _ (w2.heap.size) x Y _ (by first | rfl | simp)).step B3
      clear B3 H2 V1 c1x0 c1x1 c1x2 c1x3 l1 V2 c2x0 c2x1 l2
      have c3x0 := V3.c0
      have c3x1 := V3.c1
      have c3x2 := V3.c2
      have c3x3 := V3.c3
      have l3 := V3.lt
      have c4x0 := V4.c0
      have c4x1 := V4.c1
      have l4 := V4.lt
      have c5x0 := V5.c0
      have c5x1 := V5.c1
      have l5 := V5.lt
      go_wp2_with fail
      have O0 : BCell ((w3.alloc (.cells #[.int .i64 x, .int .i64 Y] 24)).alloc (.cells #[.int .i64 p, .int .i64 q, .int .i64 s, .int .i64 t, .int .i64 p, .int .i64 t, .int .i64 s, .int .i64 q] 24)) w1.heap.size p q s t := ((V3.alloc (.cells #[.int .i64 x, .int .i64 Y] 24)).alloc (.cells #[.int .i64 p, .int .i64 q, .int .i64 s, .int .i64 t, .int .i64 p, .int .i64 t, .int .i64 s, .int .i64 q] 24))
      have O1 : PCell ((w3.alloc (.cells #[.int .i64 x, .int .i64 Y] 24)).alloc (.cells #[.int .i64 p, .int .i64 q, .int .i64 s, .int .i64 t, .int .i64 p, .int .i64 t, .int .i64 s, .int .i64 q] 24)) (w1.heap.size + 1) x y := ((V4.alloc (.cells #[.int .i64 x, .int .i64 Y] 24)).alloc (.cells #[.int .i64 p, .int .i64 q, .int .i64 s, .int .i64 t, .int .i64 p, .int .i64 t, .int .i64 s, .int .i64 q] 24))
      have O2 : PCell ((w3.alloc (.cells #[.int .i64 x, .int .i64 Y] 24)).alloc (.cells #[.int .i64 p, .int .i64 q, .int .i64 s, .int .i64 t, .int .i64 p, .int .i64 t, .int .i64 s, .int .i64 q] 24)) w2.heap.size x Y := ((V5.alloc (.cells #[.int .i64 x, .int .i64 Y] 24)).alloc (.cells #[.int .i64 p, .int .i64 q, .int .i64 s, .int .i64 t, .int .i64 p, .int .i64 t, .int .i64 s, .int .i64 q] 24))
      have O3 : PCell ((w3.alloc (.cells #[.int .i64 x, .int .i64 Y] 24)).alloc (.cells #[.int .i64 p, .int .i64 q, .int .i64 s, .int .i64 t, .int .i64 p, .int .i64 t, .int .i64 s, .int .i64 q] 24)) w3.heap.size x Y := ((PCell.new w3 (w3.heap.size) x Y 24 (by first | rfl | simp)).alloc (.cells #[.int .i64 p, .int .i64 q, .int .i64 s, .int .i64 t, .int .i64 p, .int .i64 t, .int .i64 s, .int .i64 q] 24))
      have O4 : QCell ((w3.alloc (.cells #[.int .i64 x, .int .i64 Y] 24)).alloc (.cells #[.int .i64 p, .int .i64 q, .int .i64 s, .int .i64 t, .int .i64 p, .int .i64 t, .int .i64 s, .int .i64 q] 24)) (w3.heap.size + 1) p q s t p t s q := (QCell.new (w3.alloc (.cells #[.int .i64 x, .int .i64 Y] 24)) (w3.heap.size + 1) p q s t p t s q 24 (by first | rfl | simp))
      have Hb := Lib.hid (bl_alloc (bl_alloc (H3.out) (.cells #[.int .i64 x, .int .i64 Y] 24)) (.cells #[.int .i64 p, .int .i64 q, .int .i64 s, .int .i64 t, .int .i64 p, .int .i64 t, .int .i64 s, .int .i64 q] 24))
      clear H3 V3 c3x0 c3x1 c3x2 c3x3 l3 V4 c4x0 c4x1 l4 V5 c5x0 c5x1 l5
      refine wp_loop_rounds 5 ?_
      rw [rounds_succ]
      go_wp2_with fail
      have C3 := Lib.hid (show ∀ W : World, Calls Try.prog 25 #[vec p q, vec x y] W (fun e w' => e = .returned (.int .i64 (dsq p q x y)) ∧ Below W.heap.size W w') from fun W => (fun W => size_any p q x y W ⟨p1, p2⟩ ⟨q1, q2⟩ ⟨x1, x2⟩ ⟨y1, y2⟩) W)
      have C4 := Lib.hid (show ∀ W : World, Calls Try.prog 25 #[vec x Y, vec x y] W (fun e w' => e = .returned (.int .i64 (dsq x Y x y)) ∧ Below W.heap.size W w') from fun W => (fun W => size_any x Y x y W X1 Y1 ⟨x1, x2⟩ ⟨y1, y2⟩) W)
      go_region_held3 (fun w' => (w'.cell? ⟨w1.heap.size, 0, none⟩ = some (.int .i64 p) ∧ w'.cell? ⟨w1.heap.size, 1, none⟩ = some (.int .i64 q) ∧ w'.cell? ⟨w1.heap.size, 2, none⟩ = some (.int .i64 s) ∧ w'.cell? ⟨w1.heap.size, 3, none⟩ = some (.int .i64 t)) ∧ (w'.cell? ⟨w1.heap.size + 1, 0, none⟩ = some (.int .i64 x) ∧ w'.cell? ⟨w1.heap.size + 1, 1, none⟩ = some (.int .i64 y)) ∧ (w'.cell? ⟨w2.heap.size, 0, none⟩ = some (.int .i64 x) ∧ w'.cell? ⟨w2.heap.size, 1, none⟩ = some (.int .i64 Y)) ∧ (w'.cell? ⟨w3.heap.size, 0, none⟩ = some (.int .i64 x) ∧ w'.cell? ⟨w3.heap.size, 1, none⟩ = some (.int .i64 Y)) ∧ (w'.cell? ⟨w3.heap.size + 1, 0, none⟩ = some (.int .i64 p) ∧ w'.cell? ⟨w3.heap.size + 1, 1, none⟩ = some (.int .i64 q) ∧ w'.cell? ⟨w3.heap.size + 1, 2, none⟩ = some (.int .i64 s) ∧ w'.cell? ⟨w3.heap.size + 1, 3, none⟩ = some (.int .i64 t) ∧ w'.cell? ⟨w3.heap.size + 1, 4, none⟩ = some (.int .i64 p) ∧ w'.cell? ⟨w3.heap.size + 1, 5, none⟩ = some (.int .i64 t) ∧ w'.cell? ⟨w3.heap.size + 1, 6, none⟩ = some (.int .i64 s) ∧ w'.cell? ⟨w3.heap.size + 1, 7, none⟩ = some (.int .i64 q)))
        (exact ⟨bc_all (by repeat (first | with_reducible exact O0 | with_reducible refine BCell.alloc ?_ _ | with_reducible refine BCell.drew ?_)), pc_both (by repeat (first | with_reducible exact O1 | with_reducible refine PCell.alloc ?_ _ | with_reducible refine PCell.drew ?_)), pc_both (by repeat (first | with_reducible exact O2 | with_reducible refine PCell.alloc ?_ _ | with_reducible refine PCell.drew ?_)), pc_both (by repeat (first | with_reducible exact O3 | with_reducible refine PCell.alloc ?_ _ | with_reducible refine PCell.drew ?_)), qc_all (by repeat (first | with_reducible exact O4 | with_reducible refine QCell.alloc ?_ _ | with_reducible refine QCell.drew ?_))⟩)
        (first | (go_at_call 25; with_reducible refine (C3.out _).mono ?_; rintro e wn ⟨rfl, Bn⟩; have O0 := BCell.step (by first | with_reducible exact O0 | with_reducible exact O0.drew) Bn; have O1 := PCell.step (by first | with_reducible exact O1 | with_reducible exact O1.drew) Bn; have O2 := PCell.step (by first | with_reducible exact O2 | with_reducible exact O2.drew) Bn; have O3 := PCell.step (by first | with_reducible exact O3 | with_reducible exact O3.drew) Bn; have O4 := QCell.step (by first | with_reducible exact O4 | with_reducible exact O4.drew) Bn; have Hb := Lib.hid (bl_trans (by first | with_reducible exact Hb.out | with_reducible exact bl_drew1 Hb.out) Bn); clear Bn) | (go_at_call 25; with_reducible refine (C4.out _).mono ?_; rintro e wn ⟨rfl, Bn⟩; have O0 := BCell.step (by first | with_reducible exact O0 | with_reducible exact O0.drew) Bn; have O1 := PCell.step (by first | with_reducible exact O1 | with_reducible exact O1.drew) Bn; have O2 := PCell.step (by first | with_reducible exact O2 | with_reducible exact O2.drew) Bn; have O3 := PCell.step (by first | with_reducible exact O3 | with_reducible exact O3.drew) Bn; have O4 := QCell.step (by first | with_reducible exact O4 | with_reducible exact O4.drew) Bn; have Hb := Lib.hid (bl_trans (by first | with_reducible exact Hb.out | with_reducible exact bl_drew1 Hb.out) Bn); clear Bn))
      go_wp2_with fail
      rw [rounds_succ]
      go_wp2_with fail
      have C5 := Lib.hid (show ∀ W : World, Calls Try.prog 25 #[vec s t, vec x y] W (fun e w' => e = .returned (.int .i64 (dsq s t x y)) ∧ Below W.heap.size W w') from fun W => (fun W => size_any s t x y W ⟨s1, s2⟩ ⟨t1, t2⟩ ⟨x1, x2⟩ ⟨y1, y2⟩) W)
      have C6 := Lib.hid (show ∀ W : World, Calls Try.prog 25 #[vec x Y, vec x y] W (fun e w' => e = .returned (.int .i64 (dsq x Y x y)) ∧ Below W.heap.size W w') from fun W => (fun W => size_any x Y x y W X1 Y1 ⟨x1, x2⟩ ⟨y1, y2⟩) W)
      go_region_held3 (fun w' => (w'.cell? ⟨w1.heap.size, 0, none⟩ = some (.int .i64 p) ∧ w'.cell? ⟨w1.heap.size, 1, none⟩ = some (.int .i64 q) ∧ w'.cell? ⟨w1.heap.size, 2, none⟩ = some (.int .i64 s) ∧ w'.cell? ⟨w1.heap.size, 3, none⟩ = some (.int .i64 t)) ∧ (w'.cell? ⟨w1.heap.size + 1, 0, none⟩ = some (.int .i64 x) ∧ w'.cell? ⟨w1.heap.size + 1, 1, none⟩ = some (.int .i64 y)) ∧ (w'.cell? ⟨w2.heap.size, 0, none⟩ = some (.int .i64 x) ∧ w'.cell? ⟨w2.heap.size, 1, none⟩ = some (.int .i64 Y)) ∧ (w'.cell? ⟨w3.heap.size, 0, none⟩ = some (.int .i64 x) ∧ w'.cell? ⟨w3.heap.size, 1, none⟩ = some (.int .i64 Y)) ∧ (w'.cell? ⟨w3.heap.size + 1, 0, none⟩ = some (.int .i64 p) ∧ w'.cell? ⟨w3.heap.size + 1, 1, none⟩ = some (.int .i64 q) ∧ w'.cell? ⟨w3.heap.size + 1, 2, none⟩ = some (.int .i64 s) ∧ w'.cell? ⟨w3.heap.size + 1, 3, none⟩ = some (.int .i64 t) ∧ w'.cell? ⟨w3.heap.size + 1, 4, none⟩ = some (.int .i64 p) ∧ w'.cell? ⟨w3.heap.size + 1, 5, none⟩ = some (.int .i64 t) ∧ w'.cell? ⟨w3.heap.size + 1, 6, none⟩ = some (.int .i64 s) ∧ w'.cell? ⟨w3.heap.size + 1, 7, none⟩ = some (.int .i64 q)))
        (exact ⟨bc_all (by repeat (first | with_reducible exact O0 | with_reducible refine BCell.alloc ?_ _ | with_reducible refine BCell.drew ?_)), pc_both (by repeat (first | with_reducible exact O1 | with_reducible refine PCell.alloc ?_ _ | with_reducible refine PCell.drew ?_)), pc_both (by repeat (first | with_reducible exact O2 | with_reducible refine PCell.alloc ?_ _ | with_reducible refine PCell.drew ?_)), pc_both (by repeat (first | with_reducible exact O3 | with_reducible refine PCell.alloc ?_ _ | with_reducible refine PCell.drew ?_)), qc_all (by repeat (first | with_reducible exact O4 | with_reducible refine QCell.alloc ?_ _ | with_reducible refine QCell.drew ?_))⟩)
        (first | (go_at_call 25; with_reducible refine (C5.out _).mono ?_; rintro e wn ⟨rfl, Bn⟩; have O0 := BCell.step (by first | with_reducible exact O0 | with_reducible exact O0.drew) Bn; have O1 := PCell.step (by first | with_reducible exact O1 | with_reducible exact O1.drew) Bn; have O2 := PCell.step (by first | with_reducible exact O2 | with_reducible exact O2.drew) Bn; have O3 := PCell.step (by first | with_reducible exact O3 | with_reducible exact O3.drew) Bn; have O4 := QCell.step (by first | with_reducible exact O4 | with_reducible exact O4.drew) Bn; have Hb := Lib.hid (bl_trans (by first | with_reducible exact Hb.out | with_reducible exact bl_drew1 Hb.out) Bn); clear Bn) | (go_at_call 25; with_reducible refine (C6.out _).mono ?_; rintro e wn ⟨rfl, Bn⟩; have O0 := BCell.step (by first | with_reducible exact O0 | with_reducible exact O0.drew) Bn; have O1 := PCell.step (by first | with_reducible exact O1 | with_reducible exact O1.drew) Bn; have O2 := PCell.step (by first | with_reducible exact O2 | with_reducible exact O2.drew) Bn; have O3 := PCell.step (by first | with_reducible exact O3 | with_reducible exact O3.drew) Bn; have O4 := QCell.step (by first | with_reducible exact O4 | with_reducible exact O4.drew) Bn; have Hb := Lib.hid (bl_trans (by first | with_reducible exact Hb.out | with_reducible exact bl_drew1 Hb.out) Bn); clear Bn))
      go_wp2_with fail
      rw [rounds_succ]
      go_wp2_with fail
      have C7 := Lib.hid (show ∀ W : World, Calls Try.prog 25 #[vec p t, vec x y] W (fun e w' => e = .returned (.int .i64 (dsq p t x y)) ∧ Below W.heap.size W w') from fun W => (fun W => size_any p t x y W ⟨p1, p2⟩ ⟨t1, t2⟩ ⟨x1, x2⟩ ⟨y1, y2⟩) W)
      have C8 := Lib.hid (show ∀ W : World, Calls Try.prog 25 #[vec x Y, vec x y] W (fun e w' => e = .returned (.int .i64 (dsq x Y x y)) ∧ Below W.heap.size W w') from fun W => (fun W => size_any x Y x y W X1 Y1 ⟨x1, x2⟩ ⟨y1, y2⟩) W)
      go_region_held3 (fun w' => (w'.cell? ⟨w1.heap.size, 0, none⟩ = some (.int .i64 p) ∧ w'.cell? ⟨w1.heap.size, 1, none⟩ = some (.int .i64 q) ∧ w'.cell? ⟨w1.heap.size, 2, none⟩ = some (.int .i64 s) ∧ w'.cell? ⟨w1.heap.size, 3, none⟩ = some (.int .i64 t)) ∧ (w'.cell? ⟨w1.heap.size + 1, 0, none⟩ = some (.int .i64 x) ∧ w'.cell? ⟨w1.heap.size + 1, 1, none⟩ = some (.int .i64 y)) ∧ (w'.cell? ⟨w2.heap.size, 0, none⟩ = some (.int .i64 x) ∧ w'.cell? ⟨w2.heap.size, 1, none⟩ = some (.int .i64 Y)) ∧ (w'.cell? ⟨w3.heap.size, 0, none⟩ = some (.int .i64 x) ∧ w'.cell? ⟨w3.heap.size, 1, none⟩ = some (.int .i64 Y)) ∧ (w'.cell? ⟨w3.heap.size + 1, 0, none⟩ = some (.int .i64 p) ∧ w'.cell? ⟨w3.heap.size + 1, 1, none⟩ = some (.int .i64 q) ∧ w'.cell? ⟨w3.heap.size + 1, 2, none⟩ = some (.int .i64 s) ∧ w'.cell? ⟨w3.heap.size + 1, 3, none⟩ = some (.int .i64 t) ∧ w'.cell? ⟨w3.heap.size + 1, 4, none⟩ = some (.int .i64 p) ∧ w'.cell? ⟨w3.heap.size + 1, 5, none⟩ = some (.int .i64 t) ∧ w'.cell? ⟨w3.heap.size + 1, 6, none⟩ = some (.int .i64 s) ∧ w'.cell? ⟨w3.heap.size + 1, 7, none⟩ = some (.int .i64 q)))
        (exact ⟨bc_all (by repeat (first | with_reducible exact O0 | with_reducible refine BCell.alloc ?_ _ | with_reducible refine BCell.drew ?_)), pc_both (by repeat (first | with_reducible exact O1 | with_reducible refine PCell.alloc ?_ _ | with_reducible refine PCell.drew ?_)), pc_both (by repeat (first | with_reducible exact O2 | with_reducible refine PCell.alloc ?_ _ | with_reducible refine PCell.drew ?_)), pc_both (by repeat (first | with_reducible exact O3 | with_reducible refine PCell.alloc ?_ _ | with_reducible refine PCell.drew ?_)), qc_all (by repeat (first | with_reducible exact O4 | with_reducible refine QCell.alloc ?_ _ | with_reducible refine QCell.drew ?_))⟩)
        (first | (go_at_call 25; with_reducible refine (C7.out _).mono ?_; rintro e wn ⟨rfl, Bn⟩; have O0 := BCell.step (by first | with_reducible exact O0 | with_reducible exact O0.drew) Bn; have O1 := PCell.step (by first | with_reducible exact O1 | with_reducible exact O1.drew) Bn; have O2 := PCell.step (by first | with_reducible exact O2 | with_reducible exact O2.drew) Bn; have O3 := PCell.step (by first | with_reducible exact O3 | with_reducible exact O3.drew) Bn; have O4 := QCell.step (by first | with_reducible exact O4 | with_reducible exact O4.drew) Bn; have Hb := Lib.hid (bl_trans (by first | with_reducible exact Hb.out | with_reducible exact bl_drew1 Hb.out) Bn); clear Bn) | (go_at_call 25; with_reducible refine (C8.out _).mono ?_; rintro e wn ⟨rfl, Bn⟩; have O0 := BCell.step (by first | with_reducible exact O0 | with_reducible exact O0.drew) Bn; have O1 := PCell.step (by first | with_reducible exact O1 | with_reducible exact O1.drew) Bn; have O2 := PCell.step (by first | with_reducible exact O2 | with_reducible exact O2.drew) Bn; have O3 := PCell.step (by first | with_reducible exact O3 | with_reducible exact O3.drew) Bn; have O4 := QCell.step (by first | with_reducible exact O4 | with_reducible exact O4.drew) Bn; have Hb := Lib.hid (bl_trans (by first | with_reducible exact Hb.out | with_reducible exact bl_drew1 Hb.out) Bn); clear Bn))
      go_wp2_with fail
      rw [rounds_succ]
      go_wp2_with fail
      have C9 := Lib.hid (show ∀ W : World, Calls Try.prog 25 #[vec s q, vec x y] W (fun e w' => e = .returned (.int .i64 (dsq s q x y)) ∧ Below W.heap.size W w') from fun W => (fun W => size_any s q x y W ⟨s1, s2⟩ ⟨q1, q2⟩ ⟨x1, x2⟩ ⟨y1, y2⟩) W)
      have C10 := Lib.hid (show ∀ W : World, Calls Try.prog 25 #[vec x Y, vec x y] W (fun e w' => e = .returned (.int .i64 (dsq x Y x y)) ∧ Below W.heap.size W w') from fun W => (fun W => size_any x Y x y W X1 Y1 ⟨x1, x2⟩ ⟨y1, y2⟩) W)
      go_region_held3 (fun w' => (w'.cell? ⟨w1.heap.size, 0, none⟩ = some (.int .i64 p) ∧ w'.cell? ⟨w1.heap.size, 1, none⟩ = some (.int .i64 q) ∧ w'.cell? ⟨w1.heap.size, 2, none⟩ = some (.int .i64 s) ∧ w'.cell? ⟨w1.heap.size, 3, none⟩ = some (.int .i64 t)) ∧ (w'.cell? ⟨w1.heap.size + 1, 0, none⟩ = some (.int .i64 x) ∧ w'.cell? ⟨w1.heap.size + 1, 1, none⟩ = some (.int .i64 y)) ∧ (w'.cell? ⟨w2.heap.size, 0, none⟩ = some (.int .i64 x) ∧ w'.cell? ⟨w2.heap.size, 1, none⟩ = some (.int .i64 Y)) ∧ (w'.cell? ⟨w3.heap.size, 0, none⟩ = some (.int .i64 x) ∧ w'.cell? ⟨w3.heap.size, 1, none⟩ = some (.int .i64 Y)) ∧ (w'.cell? ⟨w3.heap.size + 1, 0, none⟩ = some (.int .i64 p) ∧ w'.cell? ⟨w3.heap.size + 1, 1, none⟩ = some (.int .i64 q) ∧ w'.cell? ⟨w3.heap.size + 1, 2, none⟩ = some (.int .i64 s) ∧ w'.cell? ⟨w3.heap.size + 1, 3, none⟩ = some (.int .i64 t) ∧ w'.cell? ⟨w3.heap.size + 1, 4, none⟩ = some (.int .i64 p) ∧ w'.cell? ⟨w3.heap.size + 1, 5, none⟩ = some (.int .i64 t) ∧ w'.cell? ⟨w3.heap.size + 1, 6, none⟩ = some (.int .i64 s) ∧ w'.cell? ⟨w3.heap.size + 1, 7, none⟩ = some (.int .i64 q)))
        (exact ⟨bc_all (by repeat (first | with_reducible exact O0 | with_reducible refine BCell.alloc ?_ _ | with_reducible refine BCell.drew ?_)), pc_both (by repeat (first | with_reducible exact O1 | with_reducible refine PCell.alloc ?_ _ | with_reducible refine PCell.drew ?_)), pc_both (by repeat (first | with_reducible exact O2 | with_reducible refine PCell.alloc ?_ _ | with_reducible refine PCell.drew ?_)), pc_both (by repeat (first | with_reducible exact O3 | with_reducible refine PCell.alloc ?_ _ | with_reducible refine PCell.drew ?_)), qc_all (by repeat (first | with_reducible exact O4 | with_reducible refine QCell.alloc ?_ _ | with_reducible refine QCell.drew ?_))⟩)
        (first | (go_at_call 25; with_reducible refine (C9.out _).mono ?_; rintro e wn ⟨rfl, Bn⟩; have O0 := BCell.step (by first | with_reducible exact O0 | with_reducible exact O0.drew) Bn; have O1 := PCell.step (by first | with_reducible exact O1 | with_reducible exact O1.drew) Bn; have O2 := PCell.step (by first | with_reducible exact O2 | with_reducible exact O2.drew) Bn; have O3 := PCell.step (by first | with_reducible exact O3 | with_reducible exact O3.drew) Bn; have O4 := QCell.step (by first | with_reducible exact O4 | with_reducible exact O4.drew) Bn; have Hb := Lib.hid (bl_trans (by first | with_reducible exact Hb.out | with_reducible exact bl_drew1 Hb.out) Bn); clear Bn) | (go_at_call 25; with_reducible refine (C10.out _).mono ?_; rintro e wn ⟨rfl, Bn⟩; have O0 := BCell.step (by first | with_reducible exact O0 | with_reducible exact O0.drew) Bn; have O1 := PCell.step (by first | with_reducible exact O1 | with_reducible exact O1.drew) Bn; have O2 := PCell.step (by first | with_reducible exact O2 | with_reducible exact O2.drew) Bn; have O3 := PCell.step (by first | with_reducible exact O3 | with_reducible exact O3.drew) Bn; have O4 := QCell.step (by first | with_reducible exact O4 | with_reducible exact O4.drew) Bn; have Hb := Lib.hid (bl_trans (by first | with_reducible exact Hb.out | with_reducible exact bl_drew1 Hb.out) Bn); clear Bn))
      go_wp2_with fail
      rw [rounds_succ]
      go_wp2_with fail
      have C11 := Lib.hid (show ∀ W : World, Calls Try.prog 15 #[box p q s t, vec x Y] W (fun e w' => e = .returned (.bool true) ∧ Below W.heap.size W w') from fun W => by have t := implBHas p q s t x Y W; rw [i1] at t; exact t)
      have C12 := Lib.hid (show ∀ W : World, Calls Try.prog 15 #[box p q s t, vec x y] W (fun e w' => e = .returned (.bool false) ∧ Below W.heap.size W w') from fun W => by have t := implBHas p q s t x y W; rw [j2] at t; exact t)
      go_region_held3 (fun w' => (w'.cell? ⟨w1.heap.size, 0, none⟩ = some (.int .i64 p) ∧ w'.cell? ⟨w1.heap.size, 1, none⟩ = some (.int .i64 q) ∧ w'.cell? ⟨w1.heap.size, 2, none⟩ = some (.int .i64 s) ∧ w'.cell? ⟨w1.heap.size, 3, none⟩ = some (.int .i64 t)) ∧ (w'.cell? ⟨w1.heap.size + 1, 0, none⟩ = some (.int .i64 x) ∧ w'.cell? ⟨w1.heap.size + 1, 1, none⟩ = some (.int .i64 y)) ∧ (w'.cell? ⟨w2.heap.size, 0, none⟩ = some (.int .i64 x) ∧ w'.cell? ⟨w2.heap.size, 1, none⟩ = some (.int .i64 Y)) ∧ (w'.cell? ⟨w3.heap.size, 0, none⟩ = some (.int .i64 x) ∧ w'.cell? ⟨w3.heap.size, 1, none⟩ = some (.int .i64 Y)) ∧ (w'.cell? ⟨w3.heap.size + 1, 0, none⟩ = some (.int .i64 p) ∧ w'.cell? ⟨w3.heap.size + 1, 1, none⟩ = some (.int .i64 q) ∧ w'.cell? ⟨w3.heap.size + 1, 2, none⟩ = some (.int .i64 s) ∧ w'.cell? ⟨w3.heap.size + 1, 3, none⟩ = some (.int .i64 t) ∧ w'.cell? ⟨w3.heap.size + 1, 4, none⟩ = some (.int .i64 p) ∧ w'.cell? ⟨w3.heap.size + 1, 5, none⟩ = some (.int .i64 t) ∧ w'.cell? ⟨w3.heap.size + 1, 6, none⟩ = some (.int .i64 s) ∧ w'.cell? ⟨w3.heap.size + 1, 7, none⟩ = some (.int .i64 q)))
        (exact ⟨bc_all (by repeat (first | with_reducible exact O0 | with_reducible refine BCell.alloc ?_ _ | with_reducible refine BCell.drew ?_)), pc_both (by repeat (first | with_reducible exact O1 | with_reducible refine PCell.alloc ?_ _ | with_reducible refine PCell.drew ?_)), pc_both (by repeat (first | with_reducible exact O2 | with_reducible refine PCell.alloc ?_ _ | with_reducible refine PCell.drew ?_)), pc_both (by repeat (first | with_reducible exact O3 | with_reducible refine PCell.alloc ?_ _ | with_reducible refine PCell.drew ?_)), qc_all (by repeat (first | with_reducible exact O4 | with_reducible refine QCell.alloc ?_ _ | with_reducible refine QCell.drew ?_))⟩)
        (first | (go_at_call 15; with_reducible refine (C11.out _).mono ?_; rintro e wn ⟨rfl, Bn⟩; have O0 := BCell.step (by first | with_reducible exact O0 | with_reducible exact O0.drew) Bn; have O1 := PCell.step (by first | with_reducible exact O1 | with_reducible exact O1.drew) Bn; have O2 := PCell.step (by first | with_reducible exact O2 | with_reducible exact O2.drew) Bn; have O3 := PCell.step (by first | with_reducible exact O3 | with_reducible exact O3.drew) Bn; have O4 := QCell.step (by first | with_reducible exact O4 | with_reducible exact O4.drew) Bn; have Hb := Lib.hid (bl_trans (by first | with_reducible exact Hb.out | with_reducible exact bl_drew1 Hb.out) Bn); clear Bn) | (go_at_call 15; with_reducible refine (C12.out _).mono ?_; rintro e wn ⟨rfl, Bn⟩; have O0 := BCell.step (by first | with_reducible exact O0 | with_reducible exact O0.drew) Bn; have O1 := PCell.step (by first | with_reducible exact O1 | with_reducible exact O1.drew) Bn; have O2 := PCell.step (by first | with_reducible exact O2 | with_reducible exact O2.drew) Bn; have O3 := PCell.step (by first | with_reducible exact O3 | with_reducible exact O3.drew) Bn; have O4 := QCell.step (by first | with_reducible exact O4 | with_reducible exact O4.drew) Bn; have Hb := Lib.hid (bl_trans (by first | with_reducible exact Hb.out | with_reducible exact bl_drew1 Hb.out) Bn); clear Bn))
      all_goals
        go_wp2
        go_ret
        first | exact ⟨rfl, (by repeat (first | with_reducible exact Hb.out | with_reducible refine bl_alloc ?_ _ | with_reducible refine bl_drew1 ?_))⟩ | exact ⟨ret_b (decide_eq_true (by omega)), (by repeat (first | with_reducible exact Hb.out | with_reducible refine bl_alloc ?_ _ | with_reducible refine bl_drew1 ?_))⟩ | exact ⟨ret_b (by simp; omega), (by repeat (first | with_reducible exact Hb.out | with_reducible refine bl_alloc ?_ _ | with_reducible refine bl_drew1 ?_))⟩
  · have j2 := bool_false (fun g => k1 (i2.1 g).1)
    have k3 : (X == x) = false := beq_eq_false_iff_ne.2 k1
    clear i2
    have C1 := Lib.hid (show ∀ W : World, Calls Try.prog 23 #[box p q s t, vec x y] W (fun e w' => e = .returned (.tuple #[vec X Y, .bool true]) ∧ Below W.heap.size W w') from fun W => by have t := implBNear p q s t x y W; rw [e1, e2, hb] at t; exact t)
    go_wp2_with fail
    refine (C1.out _).mono ?_
    rintro e w2 ⟨rfl, B2⟩
    clear C1
    have H2 := Lib.hid (bl_trans (bl_alloc (bl_alloc (H1.out) _) _) B2)
    have V1 : BCell w2 (w1.heap.size) p q s t := ((BCell.new _ (w1.heap.size) p q s t _ (by first | rfl | simp)).alloc _).step B2
    have V2 : PCell w2 (w1.heap.size + 1) x y := (PCell.new _ (w1.heap.size + 1) x y _ (by first | rfl | simp)).step B2
    clear B2 H1
    have c1x0 := V1.c0
    have c1x1 := V1.c1
    have c1x2 := V1.c2
    have c1x3 := V1.c3
    have l1 := V1.lt
    have c2x0 := V2.c0
    have c2x1 := V2.c1
    have l2 := V2.lt
    have C2 := Lib.hid (show ∀ W : World, Calls Try.prog 24 #[box p q s t, vec x y] W (fun e w' => e = .returned (.tuple #[vec X Y, .bool true]) ∧ Below W.heap.size W w') from fun W => by have t := specBNear p q s t x y W; rw [e1, e2, hb] at t; exact t)
    go_wp2_with fail
    refine (C2.out _).mono ?_
    rintro e w3 ⟨rfl, B3⟩
    clear C2
    have H3 := Lib.hid (bl_trans (bl_alloc (H2.out) _) B3)
    have V3 : BCell w3 w1.heap.size p q s t := (V1.alloc _).step B3
    have V4 : PCell w3 (w1.heap.size + 1) x y := (V2.alloc _).step B3
    have V5 : PCell w3 (w2.heap.size) X Y := (PCell.new _ (w2.heap.size) X Y _ (by first | rfl | simp)).step B3
    clear B3 H2 V1 c1x0 c1x1 c1x2 c1x3 l1 V2 c2x0 c2x1 l2
    have c3x0 := V3.c0
    have c3x1 := V3.c1
    have c3x2 := V3.c2
    have c3x3 := V3.c3
    have l3 := V3.lt
    have c4x0 := V4.c0
    have c4x1 := V4.c1
    have l4 := V4.lt
    have c5x0 := V5.c0
    have c5x1 := V5.c1
    have l5 := V5.lt
    go_wp2_with fail
    have O0 : BCell ((w3.alloc (.cells #[.int .i64 X, .int .i64 Y] 24)).alloc (.cells #[.int .i64 p, .int .i64 q, .int .i64 s, .int .i64 t, .int .i64 p, .int .i64 t, .int .i64 s, .int .i64 q] 24)) w1.heap.size p q s t := ((V3.alloc (.cells #[.int .i64 X, .int .i64 Y] 24)).alloc (.cells #[.int .i64 p, .int .i64 q, .int .i64 s, .int .i64 t, .int .i64 p, .int .i64 t, .int .i64 s, .int .i64 q] 24))
    have O1 : PCell ((w3.alloc (.cells #[.int .i64 X, .int .i64 Y] 24)).alloc (.cells #[.int .i64 p, .int .i64 q, .int .i64 s, .int .i64 t, .int .i64 p, .int .i64 t, .int .i64 s, .int .i64 q] 24)) (w1.heap.size + 1) x y := ((V4.alloc (.cells #[.int .i64 X, .int .i64 Y] 24)).alloc (.cells #[.int .i64 p, .int .i64 q, .int .i64 s, .int .i64 t, .int .i64 p, .int .i64 t, .int .i64 s, .int .i64 q] 24))
    have O2 : PCell ((w3.alloc (.cells #[.int .i64 X, .int .i64 Y] 24)).alloc (.cells #[.int .i64 p, .int .i64 q, .int .i64 s, .int .i64 t, .int .i64 p, .int .i64 t, .int .i64 s, .int .i64 q] 24)) w2.heap.size X Y := ((V5.alloc (.cells #[.int .i64 X, .int .i64 Y] 24)).alloc (.cells #[.int .i64 p, .int .i64 q, .int .i64 s, .int .i64 t, .int .i64 p, .int .i64 t, .int .i64 s, .int .i64 q] 24))
    have O3 : PCell ((w3.alloc (.cells #[.int .i64 X, .int .i64 Y] 24)).alloc (.cells #[.int .i64 p, .int .i64 q, .int .i64 s, .int .i64 t, .int .i64 p, .int .i64 t, .int .i64 s, .int .i64 q] 24)) w3.heap.size X Y := ((PCell.new w3 (w3.heap.size) X Y 24 (by first | rfl | simp)).alloc (.cells #[.int .i64 p, .int .i64 q, .int .i64 s, .int .i64 t, .int .i64 p, .int .i64 t, .int .i64 s, .int .i64 q] 24))
    have O4 : QCell ((w3.alloc (.cells #[.int .i64 X, .int .i64 Y] 24)).alloc (.cells #[.int .i64 p, .int .i64 q, .int .i64 s, .int .i64 t, .int .i64 p, .int .i64 t, .int .i64 s, .int .i64 q] 24)) (w3.heap.size + 1) p q s t p t s q := (QCell.new (w3.alloc (.cells #[.int .i64 X, .int .i64 Y] 24)) (w3.heap.size + 1) p q s t p t s q 24 (by first | rfl | simp))
    have Hb := Lib.hid (bl_alloc (bl_alloc (H3.out) (.cells #[.int .i64 X, .int .i64 Y] 24)) (.cells #[.int .i64 p, .int .i64 q, .int .i64 s, .int .i64 t, .int .i64 p, .int .i64 t, .int .i64 s, .int .i64 q] 24))
    clear H3 V3 c3x0 c3x1 c3x2 c3x3 l3 V4 c4x0 c4x1 l4 V5 c5x0 c5x1 l5
    refine wp_loop_rounds 5 ?_
    rw [rounds_succ]
    go_wp2_with fail
    have C3 := Lib.hid (show ∀ W : World, Calls Try.prog 25 #[vec p q, vec x y] W (fun e w' => e = .returned (.int .i64 (dsq p q x y)) ∧ Below W.heap.size W w') from fun W => (fun W => size_any p q x y W ⟨p1, p2⟩ ⟨q1, q2⟩ ⟨x1, x2⟩ ⟨y1, y2⟩) W)
    have C4 := Lib.hid (show ∀ W : World, Calls Try.prog 25 #[vec X Y, vec x y] W (fun e w' => e = .returned (.int .i64 (dsq X Y x y)) ∧ Below W.heap.size W w') from fun W => (fun W => size_any X Y x y W X1 Y1 ⟨x1, x2⟩ ⟨y1, y2⟩) W)
    go_region_held3 (fun w' => (w'.cell? ⟨w1.heap.size, 0, none⟩ = some (.int .i64 p) ∧ w'.cell? ⟨w1.heap.size, 1, none⟩ = some (.int .i64 q) ∧ w'.cell? ⟨w1.heap.size, 2, none⟩ = some (.int .i64 s) ∧ w'.cell? ⟨w1.heap.size, 3, none⟩ = some (.int .i64 t)) ∧ (w'.cell? ⟨w1.heap.size + 1, 0, none⟩ = some (.int .i64 x) ∧ w'.cell? ⟨w1.heap.size + 1, 1, none⟩ = some (.int .i64 y)) ∧ (w'.cell? ⟨w2.heap.size, 0, none⟩ = some (.int .i64 X) ∧ w'.cell? ⟨w2.heap.size, 1, none⟩ = some (.int .i64 Y)) ∧ (w'.cell? ⟨w3.heap.size, 0, none⟩ = some (.int .i64 X) ∧ w'.cell? ⟨w3.heap.size, 1, none⟩ = some (.int .i64 Y)) ∧ (w'.cell? ⟨w3.heap.size + 1, 0, none⟩ = some (.int .i64 p) ∧ w'.cell? ⟨w3.heap.size + 1, 1, none⟩ = some (.int .i64 q) ∧ w'.cell? ⟨w3.heap.size + 1, 2, none⟩ = some (.int .i64 s) ∧ w'.cell? ⟨w3.heap.size + 1, 3, none⟩ = some (.int .i64 t) ∧ w'.cell? ⟨w3.heap.size + 1, 4, none⟩ = some (.int .i64 p) ∧ w'.cell? ⟨w3.heap.size + 1, 5, none⟩ = some (.int .i64 t) ∧ w'.cell? ⟨w3.heap.size + 1, 6, none⟩ = some (.int .i64 s) ∧ w'.cell? ⟨w3.heap.size + 1, 7, none⟩ = some (.int .i64 q)))
      (exact ⟨bc_all (by repeat (first | with_reducible exact O0 | with_reducible refine BCell.alloc ?_ _ | with_reducible refine BCell.drew ?_)), pc_both (by repeat (first | with_reducible exact O1 | with_reducible refine PCell.alloc ?_ _ | with_reducible refine PCell.drew ?_)), pc_both (by repeat (first | with_reducible exact O2 | with_reducible refine PCell.alloc ?_ _ | with_reducible refine PCell.drew ?_)), pc_both (by repeat (first | with_reducible exact O3 | with_reducible refine PCell.alloc ?_ _ | with_reducible refine PCell.drew ?_)), qc_all (by repeat (first | with_reducible exact O4 | with_reducible refine QCell.alloc ?_ _ | with_reducible refine QCell.drew ?_))⟩)
      (first | (go_at_call 25; with_reducible refine (C3.out _).mono ?_; rintro e wn ⟨rfl, Bn⟩; have O0 := BCell.step (by first | with_reducible exact O0 | with_reducible exact O0.drew) Bn; have O1 := PCell.step (by first | with_reducible exact O1 | with_reducible exact O1.drew) Bn; have O2 := PCell.step (by first | with_reducible exact O2 | with_reducible exact O2.drew) Bn; have O3 := PCell.step (by first | with_reducible exact O3 | with_reducible exact O3.drew) Bn; have O4 := QCell.step (by first | with_reducible exact O4 | with_reducible exact O4.drew) Bn; have Hb := Lib.hid (bl_trans (by first | with_reducible exact Hb.out | with_reducible exact bl_drew1 Hb.out) Bn); clear Bn) | (go_at_call 25; with_reducible refine (C4.out _).mono ?_; rintro e wn ⟨rfl, Bn⟩; have O0 := BCell.step (by first | with_reducible exact O0 | with_reducible exact O0.drew) Bn; have O1 := PCell.step (by first | with_reducible exact O1 | with_reducible exact O1.drew) Bn; have O2 := PCell.step (by first | with_reducible exact O2 | with_reducible exact O2.drew) Bn; have O3 := PCell.step (by first | with_reducible exact O3 | with_reducible exact O3.drew) Bn; have O4 := QCell.step (by first | with_reducible exact O4 | with_reducible exact O4.drew) Bn; have Hb := Lib.hid (bl_trans (by first | with_reducible exact Hb.out | with_reducible exact bl_drew1 Hb.out) Bn); clear Bn))
    go_wp2_with fail
    rw [rounds_succ]
    go_wp2_with fail
    have C5 := Lib.hid (show ∀ W : World, Calls Try.prog 25 #[vec s t, vec x y] W (fun e w' => e = .returned (.int .i64 (dsq s t x y)) ∧ Below W.heap.size W w') from fun W => (fun W => size_any s t x y W ⟨s1, s2⟩ ⟨t1, t2⟩ ⟨x1, x2⟩ ⟨y1, y2⟩) W)
    have C6 := Lib.hid (show ∀ W : World, Calls Try.prog 25 #[vec X Y, vec x y] W (fun e w' => e = .returned (.int .i64 (dsq X Y x y)) ∧ Below W.heap.size W w') from fun W => (fun W => size_any X Y x y W X1 Y1 ⟨x1, x2⟩ ⟨y1, y2⟩) W)
    go_region_held3 (fun w' => (w'.cell? ⟨w1.heap.size, 0, none⟩ = some (.int .i64 p) ∧ w'.cell? ⟨w1.heap.size, 1, none⟩ = some (.int .i64 q) ∧ w'.cell? ⟨w1.heap.size, 2, none⟩ = some (.int .i64 s) ∧ w'.cell? ⟨w1.heap.size, 3, none⟩ = some (.int .i64 t)) ∧ (w'.cell? ⟨w1.heap.size + 1, 0, none⟩ = some (.int .i64 x) ∧ w'.cell? ⟨w1.heap.size + 1, 1, none⟩ = some (.int .i64 y)) ∧ (w'.cell? ⟨w2.heap.size, 0, none⟩ = some (.int .i64 X) ∧ w'.cell? ⟨w2.heap.size, 1, none⟩ = some (.int .i64 Y)) ∧ (w'.cell? ⟨w3.heap.size, 0, none⟩ = some (.int .i64 X) ∧ w'.cell? ⟨w3.heap.size, 1, none⟩ = some (.int .i64 Y)) ∧ (w'.cell? ⟨w3.heap.size + 1, 0, none⟩ = some (.int .i64 p) ∧ w'.cell? ⟨w3.heap.size + 1, 1, none⟩ = some (.int .i64 q) ∧ w'.cell? ⟨w3.heap.size + 1, 2, none⟩ = some (.int .i64 s) ∧ w'.cell? ⟨w3.heap.size + 1, 3, none⟩ = some (.int .i64 t) ∧ w'.cell? ⟨w3.heap.size + 1, 4, none⟩ = some (.int .i64 p) ∧ w'.cell? ⟨w3.heap.size + 1, 5, none⟩ = some (.int .i64 t) ∧ w'.cell? ⟨w3.heap.size + 1, 6, none⟩ = some (.int .i64 s) ∧ w'.cell? ⟨w3.heap.size + 1, 7, none⟩ = some (.int .i64 q)))
      (exact ⟨bc_all (by repeat (first | with_reducible exact O0 | with_reducible refine BCell.alloc ?_ _ | with_reducible refine BCell.drew ?_)), pc_both (by repeat (first | with_reducible exact O1 | with_reducible refine PCell.alloc ?_ _ | with_reducible refine PCell.drew ?_)), pc_both (by repeat (first | with_reducible exact O2 | with_reducible refine PCell.alloc ?_ _ | with_reducible refine PCell.drew ?_)), pc_both (by repeat (first | with_reducible exact O3 | with_reducible refine PCell.alloc ?_ _ | with_reducible refine PCell.drew ?_)), qc_all (by repeat (first | with_reducible exact O4 | with_reducible refine QCell.alloc ?_ _ | with_reducible refine QCell.drew ?_))⟩)
      (first | (go_at_call 25; with_reducible refine (C5.out _).mono ?_; rintro e wn ⟨rfl, Bn⟩; have O0 := BCell.step (by first | with_reducible exact O0 | with_reducible exact O0.drew) Bn; have O1 := PCell.step (by first | with_reducible exact O1 | with_reducible exact O1.drew) Bn; have O2 := PCell.step (by first | with_reducible exact O2 | with_reducible exact O2.drew) Bn; have O3 := PCell.step (by first | with_reducible exact O3 | with_reducible exact O3.drew) Bn; have O4 := QCell.step (by first | with_reducible exact O4 | with_reducible exact O4.drew) Bn; have Hb := Lib.hid (bl_trans (by first | with_reducible exact Hb.out | with_reducible exact bl_drew1 Hb.out) Bn); clear Bn) | (go_at_call 25; with_reducible refine (C6.out _).mono ?_; rintro e wn ⟨rfl, Bn⟩; have O0 := BCell.step (by first | with_reducible exact O0 | with_reducible exact O0.drew) Bn; have O1 := PCell.step (by first | with_reducible exact O1 | with_reducible exact O1.drew) Bn; have O2 := PCell.step (by first | with_reducible exact O2 | with_reducible exact O2.drew) Bn; have O3 := PCell.step (by first | with_reducible exact O3 | with_reducible exact O3.drew) Bn; have O4 := QCell.step (by first | with_reducible exact O4 | with_reducible exact O4.drew) Bn; have Hb := Lib.hid (bl_trans (by first | with_reducible exact Hb.out | with_reducible exact bl_drew1 Hb.out) Bn); clear Bn))
    go_wp2_with fail
    rw [rounds_succ]
    go_wp2_with fail
    have C7 := Lib.hid (show ∀ W : World, Calls Try.prog 25 #[vec p t, vec x y] W (fun e w' => e = .returned (.int .i64 (dsq p t x y)) ∧ Below W.heap.size W w') from fun W => (fun W => size_any p t x y W ⟨p1, p2⟩ ⟨t1, t2⟩ ⟨x1, x2⟩ ⟨y1, y2⟩) W)
    have C8 := Lib.hid (show ∀ W : World, Calls Try.prog 25 #[vec X Y, vec x y] W (fun e w' => e = .returned (.int .i64 (dsq X Y x y)) ∧ Below W.heap.size W w') from fun W => (fun W => size_any X Y x y W X1 Y1 ⟨x1, x2⟩ ⟨y1, y2⟩) W)
    go_region_held3 (fun w' => (w'.cell? ⟨w1.heap.size, 0, none⟩ = some (.int .i64 p) ∧ w'.cell? ⟨w1.heap.size, 1, none⟩ = some (.int .i64 q) ∧ w'.cell? ⟨w1.heap.size, 2, none⟩ = some (.int .i64 s) ∧ w'.cell? ⟨w1.heap.size, 3, none⟩ = some (.int .i64 t)) ∧ (w'.cell? ⟨w1.heap.size + 1, 0, none⟩ = some (.int .i64 x) ∧ w'.cell? ⟨w1.heap.size + 1, 1, none⟩ = some (.int .i64 y)) ∧ (w'.cell? ⟨w2.heap.size, 0, none⟩ = some (.int .i64 X) ∧ w'.cell? ⟨w2.heap.size, 1, none⟩ = some (.int .i64 Y)) ∧ (w'.cell? ⟨w3.heap.size, 0, none⟩ = some (.int .i64 X) ∧ w'.cell? ⟨w3.heap.size, 1, none⟩ = some (.int .i64 Y)) ∧ (w'.cell? ⟨w3.heap.size + 1, 0, none⟩ = some (.int .i64 p) ∧ w'.cell? ⟨w3.heap.size + 1, 1, none⟩ = some (.int .i64 q) ∧ w'.cell? ⟨w3.heap.size + 1, 2, none⟩ = some (.int .i64 s) ∧ w'.cell? ⟨w3.heap.size + 1, 3, none⟩ = some (.int .i64 t) ∧ w'.cell? ⟨w3.heap.size + 1, 4, none⟩ = some (.int .i64 p) ∧ w'.cell? ⟨w3.heap.size + 1, 5, none⟩ = some (.int .i64 t) ∧ w'.cell? ⟨w3.heap.size + 1, 6, none⟩ = some (.int .i64 s) ∧ w'.cell? ⟨w3.heap.size + 1, 7, none⟩ = some (.int .i64 q)))
      (exact ⟨bc_all (by repeat (first | with_reducible exact O0 | with_reducible refine BCell.alloc ?_ _ | with_reducible refine BCell.drew ?_)), pc_both (by repeat (first | with_reducible exact O1 | with_reducible refine PCell.alloc ?_ _ | with_reducible refine PCell.drew ?_)), pc_both (by repeat (first | with_reducible exact O2 | with_reducible refine PCell.alloc ?_ _ | with_reducible refine PCell.drew ?_)), pc_both (by repeat (first | with_reducible exact O3 | with_reducible refine PCell.alloc ?_ _ | with_reducible refine PCell.drew ?_)), qc_all (by repeat (first | with_reducible exact O4 | with_reducible refine QCell.alloc ?_ _ | with_reducible refine QCell.drew ?_))⟩)
      (first | (go_at_call 25; with_reducible refine (C7.out _).mono ?_; rintro e wn ⟨rfl, Bn⟩; have O0 := BCell.step (by first | with_reducible exact O0 | with_reducible exact O0.drew) Bn; have O1 := PCell.step (by first | with_reducible exact O1 | with_reducible exact O1.drew) Bn; have O2 := PCell.step (by first | with_reducible exact O2 | with_reducible exact O2.drew) Bn; have O3 := PCell.step (by first | with_reducible exact O3 | with_reducible exact O3.drew) Bn; have O4 := QCell.step (by first | with_reducible exact O4 | with_reducible exact O4.drew) Bn; have Hb := Lib.hid (bl_trans (by first | with_reducible exact Hb.out | with_reducible exact bl_drew1 Hb.out) Bn); clear Bn) | (go_at_call 25; with_reducible refine (C8.out _).mono ?_; rintro e wn ⟨rfl, Bn⟩; have O0 := BCell.step (by first | with_reducible exact O0 | with_reducible exact O0.drew) Bn; have O1 := PCell.step (by first | with_reducible exact O1 | with_reducible exact O1.drew) Bn; have O2 := PCell.step (by first | with_reducible exact O2 | with_reducible exact O2.drew) Bn; have O3 := PCell.step (by first | with_reducible exact O3 | with_reducible exact O3.drew) Bn; have O4 := QCell.step (by first | with_reducible exact O4 | with_reducible exact O4.drew) Bn; have Hb := Lib.hid (bl_trans (by first | with_reducible exact Hb.out | with_reducible exact bl_drew1 Hb.out) Bn); clear Bn))
    go_wp2_with fail
    rw [rounds_succ]
    go_wp2_with fail
    have C9 := Lib.hid (show ∀ W : World, Calls Try.prog 25 #[vec s q, vec x y] W (fun e w' => e = .returned (.int .i64 (dsq s q x y)) ∧ Below W.heap.size W w') from fun W => (fun W => size_any s q x y W ⟨s1, s2⟩ ⟨q1, q2⟩ ⟨x1, x2⟩ ⟨y1, y2⟩) W)
    have C10 := Lib.hid (show ∀ W : World, Calls Try.prog 25 #[vec X Y, vec x y] W (fun e w' => e = .returned (.int .i64 (dsq X Y x y)) ∧ Below W.heap.size W w') from fun W => (fun W => size_any X Y x y W X1 Y1 ⟨x1, x2⟩ ⟨y1, y2⟩) W)
    go_region_held3 (fun w' => (w'.cell? ⟨w1.heap.size, 0, none⟩ = some (.int .i64 p) ∧ w'.cell? ⟨w1.heap.size, 1, none⟩ = some (.int .i64 q) ∧ w'.cell? ⟨w1.heap.size, 2, none⟩ = some (.int .i64 s) ∧ w'.cell? ⟨w1.heap.size, 3, none⟩ = some (.int .i64 t)) ∧ (w'.cell? ⟨w1.heap.size + 1, 0, none⟩ = some (.int .i64 x) ∧ w'.cell? ⟨w1.heap.size + 1, 1, none⟩ = some (.int .i64 y)) ∧ (w'.cell? ⟨w2.heap.size, 0, none⟩ = some (.int .i64 X) ∧ w'.cell? ⟨w2.heap.size, 1, none⟩ = some (.int .i64 Y)) ∧ (w'.cell? ⟨w3.heap.size, 0, none⟩ = some (.int .i64 X) ∧ w'.cell? ⟨w3.heap.size, 1, none⟩ = some (.int .i64 Y)) ∧ (w'.cell? ⟨w3.heap.size + 1, 0, none⟩ = some (.int .i64 p) ∧ w'.cell? ⟨w3.heap.size + 1, 1, none⟩ = some (.int .i64 q) ∧ w'.cell? ⟨w3.heap.size + 1, 2, none⟩ = some (.int .i64 s) ∧ w'.cell? ⟨w3.heap.size + 1, 3, none⟩ = some (.int .i64 t) ∧ w'.cell? ⟨w3.heap.size + 1, 4, none⟩ = some (.int .i64 p) ∧ w'.cell? ⟨w3.heap.size + 1, 5, none⟩ = some (.int .i64 t) ∧ w'.cell? ⟨w3.heap.size + 1, 6, none⟩ = some (.int .i64 s) ∧ w'.cell? ⟨w3.heap.size + 1, 7, none⟩ = some (.int .i64 q)))
      (exact ⟨bc_all (by repeat (first | with_reducible exact O0 | with_reducible refine BCell.alloc ?_ _ | with_reducible refine BCell.drew ?_)), pc_both (by repeat (first | with_reducible exact O1 | with_reducible refine PCell.alloc ?_ _ | with_reducible refine PCell.drew ?_)), pc_both (by repeat (first | with_reducible exact O2 | with_reducible refine PCell.alloc ?_ _ | with_reducible refine PCell.drew ?_)), pc_both (by repeat (first | with_reducible exact O3 | with_reducible refine PCell.alloc ?_ _ | with_reducible refine PCell.drew ?_)), qc_all (by repeat (first | with_reducible exact O4 | with_reducible refine QCell.alloc ?_ _ | with_reducible refine QCell.drew ?_))⟩)
      (first | (go_at_call 25; with_reducible refine (C9.out _).mono ?_; rintro e wn ⟨rfl, Bn⟩; have O0 := BCell.step (by first | with_reducible exact O0 | with_reducible exact O0.drew) Bn; have O1 := PCell.step (by first | with_reducible exact O1 | with_reducible exact O1.drew) Bn; have O2 := PCell.step (by first | with_reducible exact O2 | with_reducible exact O2.drew) Bn; have O3 := PCell.step (by first | with_reducible exact O3 | with_reducible exact O3.drew) Bn; have O4 := QCell.step (by first | with_reducible exact O4 | with_reducible exact O4.drew) Bn; have Hb := Lib.hid (bl_trans (by first | with_reducible exact Hb.out | with_reducible exact bl_drew1 Hb.out) Bn); clear Bn) | (go_at_call 25; with_reducible refine (C10.out _).mono ?_; rintro e wn ⟨rfl, Bn⟩; have O0 := BCell.step (by first | with_reducible exact O0 | with_reducible exact O0.drew) Bn; have O1 := PCell.step (by first | with_reducible exact O1 | with_reducible exact O1.drew) Bn; have O2 := PCell.step (by first | with_reducible exact O2 | with_reducible exact O2.drew) Bn; have O3 := PCell.step (by first | with_reducible exact O3 | with_reducible exact O3.drew) Bn; have O4 := QCell.step (by first | with_reducible exact O4 | with_reducible exact O4.drew) Bn; have Hb := Lib.hid (bl_trans (by first | with_reducible exact Hb.out | with_reducible exact bl_drew1 Hb.out) Bn); clear Bn))
    go_wp2_with fail
    rw [rounds_succ]
    go_wp2_with fail
    have C11 := Lib.hid (show ∀ W : World, Calls Try.prog 15 #[box p q s t, vec X Y] W (fun e w' => e = .returned (.bool true) ∧ Below W.heap.size W w') from fun W => by have t := implBHas p q s t X Y W; rw [i1] at t; exact t)
    have C12 := Lib.hid (show ∀ W : World, Calls Try.prog 15 #[box p q s t, vec x y] W (fun e w' => e = .returned (.bool false) ∧ Below W.heap.size W w') from fun W => by have t := implBHas p q s t x y W; rw [j2] at t; exact t)
    go_region_held3 (fun w' => (w'.cell? ⟨w1.heap.size, 0, none⟩ = some (.int .i64 p) ∧ w'.cell? ⟨w1.heap.size, 1, none⟩ = some (.int .i64 q) ∧ w'.cell? ⟨w1.heap.size, 2, none⟩ = some (.int .i64 s) ∧ w'.cell? ⟨w1.heap.size, 3, none⟩ = some (.int .i64 t)) ∧ (w'.cell? ⟨w1.heap.size + 1, 0, none⟩ = some (.int .i64 x) ∧ w'.cell? ⟨w1.heap.size + 1, 1, none⟩ = some (.int .i64 y)) ∧ (w'.cell? ⟨w2.heap.size, 0, none⟩ = some (.int .i64 X) ∧ w'.cell? ⟨w2.heap.size, 1, none⟩ = some (.int .i64 Y)) ∧ (w'.cell? ⟨w3.heap.size, 0, none⟩ = some (.int .i64 X) ∧ w'.cell? ⟨w3.heap.size, 1, none⟩ = some (.int .i64 Y)) ∧ (w'.cell? ⟨w3.heap.size + 1, 0, none⟩ = some (.int .i64 p) ∧ w'.cell? ⟨w3.heap.size + 1, 1, none⟩ = some (.int .i64 q) ∧ w'.cell? ⟨w3.heap.size + 1, 2, none⟩ = some (.int .i64 s) ∧ w'.cell? ⟨w3.heap.size + 1, 3, none⟩ = some (.int .i64 t) ∧ w'.cell? ⟨w3.heap.size + 1, 4, none⟩ = some (.int .i64 p) ∧ w'.cell? ⟨w3.heap.size + 1, 5, none⟩ = some (.int .i64 t) ∧ w'.cell? ⟨w3.heap.size + 1, 6, none⟩ = some (.int .i64 s) ∧ w'.cell? ⟨w3.heap.size + 1, 7, none⟩ = some (.int .i64 q)))
      (exact ⟨bc_all (by repeat (first | with_reducible exact O0 | with_reducible refine BCell.alloc ?_ _ | with_reducible refine BCell.drew ?_)), pc_both (by repeat (first | with_reducible exact O1 | with_reducible refine PCell.alloc ?_ _ | with_reducible refine PCell.drew ?_)), pc_both (by repeat (first | with_reducible exact O2 | with_reducible refine PCell.alloc ?_ _ | with_reducible refine PCell.drew ?_)), pc_both (by repeat (first | with_reducible exact O3 | with_reducible refine PCell.alloc ?_ _ | with_reducible refine PCell.drew ?_)), qc_all (by repeat (first | with_reducible exact O4 | with_reducible refine QCell.alloc ?_ _ | with_reducible refine QCell.drew ?_))⟩)
      (first | (go_at_call 15; with_reducible refine (C11.out _).mono ?_; rintro e wn ⟨rfl, Bn⟩; have O0 := BCell.step (by first | with_reducible exact O0 | with_reducible exact O0.drew) Bn; have O1 := PCell.step (by first | with_reducible exact O1 | with_reducible exact O1.drew) Bn; have O2 := PCell.step (by first | with_reducible exact O2 | with_reducible exact O2.drew) Bn; have O3 := PCell.step (by first | with_reducible exact O3 | with_reducible exact O3.drew) Bn; have O4 := QCell.step (by first | with_reducible exact O4 | with_reducible exact O4.drew) Bn; have Hb := Lib.hid (bl_trans (by first | with_reducible exact Hb.out | with_reducible exact bl_drew1 Hb.out) Bn); clear Bn) | (go_at_call 15; with_reducible refine (C12.out _).mono ?_; rintro e wn ⟨rfl, Bn⟩; have O0 := BCell.step (by first | with_reducible exact O0 | with_reducible exact O0.drew) Bn; have O1 := PCell.step (by first | with_reducible exact O1 | with_reducible exact O1.drew) Bn; have O2 := PCell.step (by first | with_reducible exact O2 | with_reducible exact O2.drew) Bn; have O3 := PCell.step (by first | with_reducible exact O3 | with_reducible exact O3.drew) Bn; have O4 := QCell.step (by first | with_reducible exact O4 | with_reducible exact O4.drew) Bn; have Hb := Lib.hid (bl_trans (by first | with_reducible exact Hb.out | with_reducible exact bl_drew1 Hb.out) Bn); clear Bn))
    all_goals
      go_wp2
      go_ret
      first | exact ⟨rfl, (by repeat (first | with_reducible exact Hb.out | with_reducible refine bl_alloc ?_ _ | with_reducible refine bl_drew1 ?_))⟩ | exact ⟨ret_b (decide_eq_true (by omega)), (by repeat (first | with_reducible exact Hb.out | with_reducible refine bl_alloc ?_ _ | with_reducible refine bl_drew1 ?_))⟩ | exact ⟨ret_b (by simp; omega), (by repeat (first | with_reducible exact Hb.out | with_reducible refine bl_alloc ?_ _ | with_reducible refine bl_drew1 ?_))⟩

end Go.Proofs.Ytkkifikdnjajjaa
