/-
  The walk of a law of chapter 3 whose last region draws its order: it returns true at every code.
-/
import Derived.Test.YtkkifikdnjajjaaBoxImpl
import Derived.Test.YtkkifikdnjajjaaDrawBoxC
import Derived.Test.YtkkifikdnjajjaaBoxLaws
import Derived.Test.YtkkifikdnjajjaaLawBoxB
import Derived.LoopN
namespace Go.Proofs.Ytkkifikdnjajjaa
open Go.RowKit
open M

set_option maxHeartbeats 8000000 in
theorem walk_FnMeetPoint (a : Option Addr) (len cap : Nat) (zs : List Int) (a2 : Option Addr) (len2 cap2 : Nat) (zs2 : List Int) (w : World) (h : IsRow .u8 w a len cap zs) (h2 : IsRow .u8 w a2 len2 cap2 zs2) :
    Calls Try.prog 6 #[.slice a len cap, .slice a2 len2 cap2] w fun e w' => e = .returned (.bool true) ∧ Below w.heap.size w w' := by
  have hm := h.bytes.1
  have hm2 := h.bytes.2.1
  have hm3 := h2.bytes.1
  have hm4 := h2.bytes.2.1
  unfold maxLen at hm2 hm4
  by_cases g : 1048576 < len
  · have g1 : (1048576 : Int) < (len : Int) := by omega
    go_enter Try.func6, Try.ntmps6
    go_wp2
    go_ret
    exact ⟨rfl, Below.refl _ _⟩
  by_cases g2 : 1048576 < len2
  · have g1 : (len : Int) ≤ 1048576 := by omega
    have g3 : (1048576 : Int) < (len2 : Int) := by omega
    go_enter Try.func6, Try.ntmps6
    go_wp2
    go_ret
    exact ⟨rfl, Below.refl _ _⟩
  have g1 : (len : Int) ≤ 1048576 := by omega
  have g3 : (len2 : Int) ≤ 1048576 := by omega
  have g4 : (0 : Int) ≤ (len2 : Int) := by omega
  have h2 := Lib.hid h2
  go_enter Try.func6, Try.ntmps6
  go_wp2_with fail
  refine (draw_bmeet a len cap zs w h).mono ?_
  rintro e w1 ⟨p, q, s, t, x, y, u, v, ⟨⟨p1, p2⟩, ⟨q1, q2⟩, ⟨s1, s2⟩, t1, t2⟩, ⟨⟨x1, x2⟩, ⟨y1, y2⟩, ⟨u1, u2⟩, v1, v2⟩, rfl, B1⟩
  have H1 := Lib.hid B1
  clear B1 h
  cases hb : mtB p q s t x y u v
  · obtain ⟨e1, e2, e3, e4⟩ := mt_no hb
    have C1 := Lib.hid (show ∀ W : World, Calls Try.prog 20 #[box p q s t, box x y u v] W (fun e w' => e = .returned (.tuple #[box 0 0 0 0, .bool false]) ∧ Below W.heap.size W w') from fun W => by have t := implBMeet p q s t x y u v W; rw [e1, e2, e3, e4, hb] at t; exact t)
    go_wp2_with fail
    refine (C1.out _).mono ?_
    rintro e w2 ⟨rfl, B2⟩
    clear C1
    have H2 := Lib.hid (bl_trans (bl_alloc (bl_alloc (H1.out) _) _) B2)
    have V1 : BCell w2 (w1.heap.size) p q s t := ((BCell.new _ (w1.heap.size) p q s t _ (by first | rfl | simp)).alloc _).step B2
    have V2 : BCell w2 (w1.heap.size + 1) x y u v := (BCell.new _ (w1.heap.size + 1) x y u v _ (by first | rfl | simp)).step B2
    clear B2 H1
    have c1x0 := V1.c0
    have c1x1 := V1.c1
    have c1x2 := V1.c2
    have c1x3 := V1.c3
    have l1 := V1.lt
    have c2x0 := V2.c0
    have c2x1 := V2.c1
    have c2x2 := V2.c2
    have c2x3 := V2.c3
    have l2 := V2.lt
    have C2 := Lib.hid (show ∀ W : World, Calls Try.prog 21 #[box p q s t, box x y u v] W (fun e w' => e = .returned (.tuple #[box 0 0 0 0, .bool false]) ∧ Below W.heap.size W w') from fun W => by have t := specBMeet p q s t x y u v W; rw [e1, e2, e3, e4, hb] at t; exact t)
    go_wp2_with fail
    refine (C2.out _).mono ?_
    rintro e w3 ⟨rfl, B3⟩
    clear C2
    have H3 := Lib.hid (bl_trans (bl_alloc (H2.out) _) B3)
    have V3 : BCell w3 w1.heap.size p q s t := (V1.alloc _).step B3
    have V4 : BCell w3 (w1.heap.size + 1) x y u v := (V2.alloc _).step B3
    have V5 : BCell w3 (w2.heap.size) 0 0 0 0 := (BCell.new _ (w2.heap.size) 0 0 0 0 _ (by first | rfl | simp)).step B3
    clear B3 H2 V1 c1x0 c1x1 c1x2 c1x3 l1 V2 c2x0 c2x1 c2x2 c2x3 l2
    have c3x0 := V3.c0
    have c3x1 := V3.c1
    have c3x2 := V3.c2
    have c3x3 := V3.c3
    have l3 := V3.lt
    have c4x0 := V4.c0
    have c4x1 := V4.c1
    have c4x2 := V4.c2
    have c4x3 := V4.c3
    have l4 := V4.lt
    have c5x0 := V5.c0
    have c5x1 := V5.c1
    have c5x2 := V5.c2
    have c5x3 := V5.c3
    have l5 := V5.lt
    go_wp2
    all_goals
      go_ret
      first | exact ⟨rfl, (by repeat (first | with_reducible exact H3.out | with_reducible refine bl_alloc ?_ _ | with_reducible refine bl_drew ?_ _))⟩ | exact ⟨ret_b (decide_eq_true (by omega)), (by repeat (first | with_reducible exact H3.out | with_reducible refine bl_alloc ?_ _ | with_reducible refine bl_drew ?_ _))⟩ | exact ⟨ret_b (by simp; omega), (by repeat (first | with_reducible exact H3.out | with_reducible refine bl_alloc ?_ _ | with_reducible refine bl_drew ?_ _))⟩
  obtain ⟨A, E, C, D, e1, e2, e3, e4, eA, eE, eC, eD, h1, h3, h4⟩ := mt_true hb
  obtain ⟨⟨i1, i2⟩, i3, i4⟩ := mt_in h1 h3 h4 eA eE eC eD
  have qA := Lib.hid eA
  have qE := Lib.hid eE
  have qC := Lib.hid eC
  have qD := Lib.hid eD
  clear eA eE eC eD
  have C1 := Lib.hid (show ∀ W : World, Calls Try.prog 20 #[box p q s t, box x y u v] W (fun e w' => e = .returned (.tuple #[box A E C D, .bool true]) ∧ Below W.heap.size W w') from fun W => by have t := implBMeet p q s t x y u v W; rw [e1, e2, e3, e4, hb] at t; exact t)
  go_wp2_with fail
  refine (C1.out _).mono ?_
  rintro e w2 ⟨rfl, B2⟩
  clear C1
  have H2 := Lib.hid (bl_trans (bl_alloc (bl_alloc (H1.out) _) _) B2)
  have V1 : BCell w2 (w1.heap.size) p q s t := ((BCell.new _ (w1.heap.size) p q s t _ (by first | rfl | simp)).alloc _).step B2
  have V2 : BCell w2 (w1.heap.size + 1) x y u v := (BCell.new _ (w1.heap.size + 1) x y u v _ (by first | rfl | simp)).step B2
  clear B2 H1
  have c1x0 := V1.c0
  have c1x1 := V1.c1
  have c1x2 := V1.c2
  have c1x3 := V1.c3
  have l1 := V1.lt
  have c2x0 := V2.c0
  have c2x1 := V2.c1
  have c2x2 := V2.c2
  have c2x3 := V2.c3
  have l2 := V2.lt
  have C2 := Lib.hid (show ∀ W : World, Calls Try.prog 21 #[box p q s t, box x y u v] W (fun e w' => e = .returned (.tuple #[box A E C D, .bool true]) ∧ Below W.heap.size W w') from fun W => by have t := specBMeet p q s t x y u v W; rw [e1, e2, e3, e4, hb] at t; exact t)
  go_wp2_with fail
  refine (C2.out _).mono ?_
  rintro e w3 ⟨rfl, B3⟩
  clear C2
  have H3 := Lib.hid (bl_trans (bl_alloc (H2.out) _) B3)
  have V3 : BCell w3 w1.heap.size p q s t := (V1.alloc _).step B3
  have V4 : BCell w3 (w1.heap.size + 1) x y u v := (V2.alloc _).step B3
  have V5 : BCell w3 (w2.heap.size) A E C D := (BCell.new _ (w2.heap.size) A E C D _ (by first | rfl | simp)).step B3
  clear B3 H2 V1 c1x0 c1x1 c1x2 c1x3 l1 V2 c2x0 c2x1 c2x2 c2x3 l2
  have c3x0 := V3.c0
  have c3x1 := V3.c1
  have c3x2 := V3.c2
  have c3x3 := V3.c3
  have l3 := V3.lt
  have c4x0 := V4.c0
  have c4x1 := V4.c1
  have c4x2 := V4.c2
  have c4x3 := V4.c3
  have l4 := V4.lt
  have c5x0 := V5.c0
  have c5x1 := V5.c1
  have c5x2 := V5.c2
  have c5x3 := V5.c3
  have l5 := V5.lt
  go_wp2_with fail
  refine (draw_bhas a2 len2 cap2 zs2 _ (h2.out.below (bl_alloc (H3.out) _))).mono ?_
  rintro e w4 ⟨p3, q3, s3, t3, m, n, ⟨⟨p4, p5⟩, ⟨q4, q5⟩, ⟨s4, s5⟩, t4, t5⟩, ⟨⟨m1, m2⟩, n1, n2⟩, rfl, B4⟩
  have H4 := Lib.hid (bl_trans (bl_alloc (H3.out) _) B4)
  have V6 : BCell w4 w1.heap.size p q s t := (V3.alloc _).step B4
  have V7 : BCell w4 (w1.heap.size + 1) x y u v := (V4.alloc _).step B4
  have V8 : BCell w4 w2.heap.size A E C D := (V5.alloc _).step B4
  have V9 : BCell w4 (w3.heap.size) A E C D := (BCell.new _ (w3.heap.size) A E C D _ (by first | rfl | simp)).step B4
  clear B4 H3 V3 c3x0 c3x1 c3x2 c3x3 l3 V4 c4x0 c4x1 c4x2 c4x3 l4 V5 c5x0 c5x1 c5x2 c5x3 l5
  have c6x0 := V6.c0
  have c6x1 := V6.c1
  have c6x2 := V6.c2
  have c6x3 := V6.c3
  have l6 := V6.lt
  have c7x0 := V7.c0
  have c7x1 := V7.c1
  have c7x2 := V7.c2
  have c7x3 := V7.c3
  have l7 := V7.lt
  have c8x0 := V8.c0
  have c8x1 := V8.c1
  have c8x2 := V8.c2
  have c8x3 := V8.c3
  have l8 := V8.lt
  have c9x0 := V9.c0
  have c9x1 := V9.c1
  have c9x2 := V9.c2
  have c9x3 := V9.c3
  have l9 := V9.lt
  go_wp2_with fail
  have O0 : BCell ((w4.alloc (.cells #[.int .i64 p3, .int .i64 q3, .int .i64 s3, .int .i64 t3] 26)).alloc (.cells #[.int .i64 m, .int .i64 n] 24)) w1.heap.size p q s t := ((V6.alloc (.cells #[.int .i64 p3, .int .i64 q3, .int .i64 s3, .int .i64 t3] 26)).alloc (.cells #[.int .i64 m, .int .i64 n] 24))
  have O1 : BCell ((w4.alloc (.cells #[.int .i64 p3, .int .i64 q3, .int .i64 s3, .int .i64 t3] 26)).alloc (.cells #[.int .i64 m, .int .i64 n] 24)) (w1.heap.size + 1) x y u v := ((V7.alloc (.cells #[.int .i64 p3, .int .i64 q3, .int .i64 s3, .int .i64 t3] 26)).alloc (.cells #[.int .i64 m, .int .i64 n] 24))
  have O2 : BCell ((w4.alloc (.cells #[.int .i64 p3, .int .i64 q3, .int .i64 s3, .int .i64 t3] 26)).alloc (.cells #[.int .i64 m, .int .i64 n] 24)) w2.heap.size A E C D := ((V8.alloc (.cells #[.int .i64 p3, .int .i64 q3, .int .i64 s3, .int .i64 t3] 26)).alloc (.cells #[.int .i64 m, .int .i64 n] 24))
  have O3 : BCell ((w4.alloc (.cells #[.int .i64 p3, .int .i64 q3, .int .i64 s3, .int .i64 t3] 26)).alloc (.cells #[.int .i64 m, .int .i64 n] 24)) w3.heap.size A E C D := ((V9.alloc (.cells #[.int .i64 p3, .int .i64 q3, .int .i64 s3, .int .i64 t3] 26)).alloc (.cells #[.int .i64 m, .int .i64 n] 24))
  have O4 : BCell ((w4.alloc (.cells #[.int .i64 p3, .int .i64 q3, .int .i64 s3, .int .i64 t3] 26)).alloc (.cells #[.int .i64 m, .int .i64 n] 24)) w4.heap.size p3 q3 s3 t3 := ((BCell.new w4 (w4.heap.size) p3 q3 s3 t3 26 (by first | rfl | simp)).alloc (.cells #[.int .i64 m, .int .i64 n] 24))
  have O5 : PCell ((w4.alloc (.cells #[.int .i64 p3, .int .i64 q3, .int .i64 s3, .int .i64 t3] 26)).alloc (.cells #[.int .i64 m, .int .i64 n] 24)) (w4.heap.size + 1) m n := (PCell.new (w4.alloc (.cells #[.int .i64 p3, .int .i64 q3, .int .i64 s3, .int .i64 t3] 26)) (w4.heap.size + 1) m n 24 (by first | rfl | simp))
  have Hb := Lib.hid (bl_alloc (bl_alloc (H4.out) (.cells #[.int .i64 p3, .int .i64 q3, .int .i64 s3, .int .i64 t3] 26)) (.cells #[.int .i64 m, .int .i64 n] 24))
  clear H4 V6 c6x0 c6x1 c6x2 c6x3 l6 V7 c7x0 c7x1 c7x2 c7x3 l7 V8 c8x0 c8x1 c8x2 c8x3 l8 V9 c9x0 c9x1 c9x2 c9x3 l9
  have pt := mt_point (x := m) (y := n) h1 h3 h4 qA.out qE.out qC.out qD.out
  clear qA qE qC qD
  cases ka : bhB p q s t m n
  · have po : bhB A E C D m n = false := by rw [pt, ka, Bool.false_and]
    clear pt
    refine wp_region_held_drew (S := fun w' => (w'.cell? ⟨w1.heap.size, 0, none⟩ = some (.int .i64 p) ∧ w'.cell? ⟨w1.heap.size, 1, none⟩ = some (.int .i64 q) ∧ w'.cell? ⟨w1.heap.size, 2, none⟩ = some (.int .i64 s) ∧ w'.cell? ⟨w1.heap.size, 3, none⟩ = some (.int .i64 t)) ∧ (w'.cell? ⟨w2.heap.size, 0, none⟩ = some (.int .i64 A) ∧ w'.cell? ⟨w2.heap.size, 1, none⟩ = some (.int .i64 E) ∧ w'.cell? ⟨w2.heap.size, 2, none⟩ = some (.int .i64 C) ∧ w'.cell? ⟨w2.heap.size, 3, none⟩ = some (.int .i64 D)) ∧ (w'.cell? ⟨w4.heap.size + 1, 0, none⟩ = some (.int .i64 m) ∧ w'.cell? ⟨w4.heap.size + 1, 1, none⟩ = some (.int .i64 n))) (by kernel_rfl) ⟨bc_all (by repeat (first | with_reducible exact O0 | with_reducible refine BCell.alloc ?_ _ | with_reducible refine BCell.drew ?_)), bc_all (by repeat (first | with_reducible exact O2 | with_reducible refine BCell.alloc ?_ _ | with_reducible refine BCell.drew ?_)), pc_both (by repeat (first | with_reducible exact O5 | with_reducible refine PCell.alloc ?_ _ | with_reducible refine PCell.drew ?_))⟩ (fun hHeld => ?_)
    refine wpAnyH_take (i := 0) (oi := _) (v := ?_) rfl (by kernel_rfl) (by kernel_rfl) (by kernel_rfl) (fun _ _ _ h => h) (Or.inl ⟨by rfl, ?_⟩) hHeld ?_
    rotate_left
    · intro w hSw
      try dsimp only at hSw
      go_simp
      all_goals with_reducible rfl
    simp only [Act.put, List.getElem_toArray, List.getElem_cons_zero, List.setIfInBounds_toArray, List.set_cons_zero, List.set_cons_succ]
    refine wpAnyH_take (i := 1) (oi := _) (v := ?_) rfl (by kernel_rfl) (by kernel_rfl) (by kernel_rfl) (fun _ _ _ h => h) (Or.inl ⟨by rfl, ?_⟩) hHeld ?_
    rotate_left
    · intro w hSw
      try dsimp only at hSw
      go_simp
      all_goals with_reducible rfl
    simp only [Act.put, List.getElem_toArray, List.getElem_cons_succ, List.getElem_cons_zero, List.setIfInBounds_toArray, List.set_cons_zero, List.set_cons_succ]
    refine wpAnyH_take (i := 3) (oi := _) (v := ?_) rfl (by kernel_rfl) (by kernel_rfl) (by kernel_rfl) (fun _ _ _ h => h) (Or.inl ⟨by rfl, ?_⟩) hHeld ?_
    rotate_left
    · intro w hSw
      try dsimp only at hSw
      go_simp
      all_goals with_reducible rfl
    simp only [Act.put, List.getElem_toArray, List.getElem_cons_succ, List.getElem_cons_zero, List.setIfInBounds_toArray, List.set_cons_zero, List.set_cons_succ]
    refine wpAnyH_take (i := 4) (oi := _) (v := ?_) rfl (by kernel_rfl) (by kernel_rfl) (by kernel_rfl) (fun _ _ _ h => h) (Or.inl ⟨by rfl, ?_⟩) hHeld ?_
    rotate_left
    · intro w hSw
      try dsimp only at hSw
      go_simp
      all_goals with_reducible rfl
    simp only [Act.put, List.getElem_toArray, List.getElem_cons_succ, List.getElem_cons_zero, List.setIfInBounds_toArray, List.set_cons_zero, List.set_cons_succ]
    have C3 := Lib.hid (show ∀ W : World, Calls Try.prog 15 #[box A E C D, vec m n] W (fun e w' => e = .returned (.bool false) ∧ Below W.heap.size W w') from fun W => by have t := implBHas A E C D m n W; rw [po] at t; exact t)
    refine wpAnyH_ready (rs := [2]) (by kernel_rfl) (by simp) ?_
    refine AllReadyH.cons (o := _) rfl (fun K hK => ?_) AllReadyH.nil
    go_simp
    go_at_call 15
    with_reducible refine (C3.out _).mono ?_
    rintro e wn ⟨rfl, Bn⟩
    have O0 := BCell.step (by first | with_reducible exact O0 | with_reducible exact O0.drew) Bn
    have O2 := BCell.step (by first | with_reducible exact O2 | with_reducible exact O2.drew) Bn
    have O5 := PCell.step (by first | with_reducible exact O5 | with_reducible exact O5.drew) Bn
    have Hb := Lib.hid (bl_trans (by first | with_reducible exact Hb.out | with_reducible exact bl_drew1 Hb.out) Bn)
    clear Bn C3 hHeld
    go_wp2_with fail
    refine hK.out _ _ ⟨bc_all (by repeat (first | with_reducible exact O0 | with_reducible refine BCell.alloc ?_ _ | with_reducible refine BCell.drew ?_)), bc_all (by repeat (first | with_reducible exact O2 | with_reducible refine BCell.alloc ?_ _ | with_reducible refine BCell.drew ?_)), pc_both (by repeat (first | with_reducible exact O5 | with_reducible refine PCell.alloc ?_ _ | with_reducible refine PCell.drew ?_))⟩ (fun hHeld => ?_)
    clear hK K
    try simp only [Act.put, List.getElem_toArray, List.getElem_cons_succ, List.getElem_cons_zero, List.setIfInBounds_toArray, List.set_cons_zero, List.set_cons_succ]
    have C4 := Lib.hid (show ∀ W : World, Calls Try.prog 15 #[box p q s t, vec m n] W (fun e w' => e = .returned (.bool false) ∧ Below W.heap.size W w') from fun W => by have t := implBHas p q s t m n W; rw [ka] at t; exact t)
    refine wpAnyH_ready (rs := [5]) (by kernel_rfl) (by simp) ?_
    refine AllReadyH.cons (o := _) rfl (fun K hK => ?_) AllReadyH.nil
    go_simp
    go_at_call 15
    with_reducible refine (C4.out _).mono ?_
    rintro e wn ⟨rfl, Bn⟩
    have O0 := BCell.step (by first | with_reducible exact O0 | with_reducible exact O0.drew) Bn
    have O2 := BCell.step (by first | with_reducible exact O2 | with_reducible exact O2.drew) Bn
    have O5 := PCell.step (by first | with_reducible exact O5 | with_reducible exact O5.drew) Bn
    have Hb := Lib.hid (bl_trans (by first | with_reducible exact Hb.out | with_reducible exact bl_drew1 Hb.out) Bn)
    clear Bn C4 hHeld
    go_wp2_with fail
    refine hK.out _ _ ⟨bc_all (by repeat (first | with_reducible exact O0 | with_reducible refine BCell.alloc ?_ _ | with_reducible refine BCell.drew ?_)), bc_all (by repeat (first | with_reducible exact O2 | with_reducible refine BCell.alloc ?_ _ | with_reducible refine BCell.drew ?_)), pc_both (by repeat (first | with_reducible exact O5 | with_reducible refine PCell.alloc ?_ _ | with_reducible refine PCell.drew ?_))⟩ (fun hHeld => ?_)
    clear hK K
    try simp only [Act.put, List.getElem_toArray, List.getElem_cons_succ, List.getElem_cons_zero, List.setIfInBounds_toArray, List.set_cons_zero, List.set_cons_succ]
    refine wpAnyH_take (i := 6) (oi := _) (v := ?_) rfl (by kernel_rfl) (by kernel_rfl) (by kernel_rfl) (fun _ _ _ h => h) (Or.inl ⟨by rfl, ?_⟩) hHeld ?_
    rotate_left
    · intro w hSw
      try dsimp only at hSw
      go_simp
      all_goals with_reducible rfl
    simp only [Act.put, List.getElem_toArray, List.getElem_cons_succ, List.getElem_cons_zero, List.setIfInBounds_toArray, List.set_cons_zero, List.set_cons_succ]
    refine wpAnyH_take (i := 7) (oi := _) (v := undef) rfl (by kernel_rfl) (by kernel_rfl) (by kernel_rfl) (fun _ _ _ h => h) (Or.inr ⟨by rfl, rfl⟩) hHeld ?_
    simp only [Act.put, List.getElem_toArray, List.getElem_cons_succ, List.getElem_cons_zero, List.setIfInBounds_toArray, List.set_cons_zero, List.set_cons_succ]
    refine wpAnyH_take (i := 8) (oi := _) (v := undef) rfl (by kernel_rfl) (by kernel_rfl) (by kernel_rfl) (fun _ _ _ h => h) (Or.inr ⟨by rfl, rfl⟩) hHeld ?_
    simp only [Act.put, List.getElem_toArray, List.getElem_cons_succ, List.getElem_cons_zero, List.setIfInBounds_toArray, List.set_cons_zero, List.set_cons_succ]
    refine wpAnyH_take (i := 9) (oi := _) (v := undef) rfl (by kernel_rfl) (by kernel_rfl) (by kernel_rfl) (fun _ _ _ h => h) (Or.inr ⟨by rfl, rfl⟩) hHeld ?_
    simp only [Act.put, List.getElem_toArray, List.getElem_cons_succ, List.getElem_cons_zero, List.setIfInBounds_toArray, List.set_cons_zero, List.set_cons_succ]
    refine wpAnyH_take (i := 10) (oi := _) (v := ?_) rfl (by kernel_rfl) (by kernel_rfl) (by kernel_rfl) (fun _ _ _ h => h) (Or.inl ⟨by rfl, ?_⟩) hHeld ?_
    rotate_left
    · intro w hSw
      try dsimp only at hSw
      go_simp
      all_goals with_reducible rfl
    simp only [Act.put, List.getElem_toArray, List.getElem_cons_succ, List.getElem_cons_zero, List.setIfInBounds_toArray, List.set_cons_zero, List.set_cons_succ]
    refine wpAnyH_take (i := 11) (oi := _) (v := ?_) rfl (by kernel_rfl) (by kernel_rfl) (by kernel_rfl) (fun _ _ _ h => h) (Or.inl ⟨by rfl, ?_⟩) hHeld ?_
    rotate_left
    · intro w hSw
      try dsimp only at hSw
      go_simp
      all_goals with_reducible rfl
    simp only [Act.put, List.getElem_toArray, List.getElem_cons_succ, List.getElem_cons_zero, List.setIfInBounds_toArray, List.set_cons_zero, List.set_cons_succ]
    refine wpAnyH_take (i := 12) (oi := _) (v := ?_) rfl (by kernel_rfl) (by kernel_rfl) (by kernel_rfl) (fun _ _ _ h => h) (Or.inl ⟨by rfl, ?_⟩) hHeld ?_
    rotate_left
    · intro w hSw
      try dsimp only at hSw
      go_simp
      all_goals with_reducible rfl
    simp only [Act.put, List.getElem_toArray, List.getElem_cons_succ, List.getElem_cons_zero, List.setIfInBounds_toArray, List.set_cons_zero, List.set_cons_succ]
    refine wpAnyH_take (i := 13) (oi := _) (v := ?_) rfl (by kernel_rfl) (by kernel_rfl) (by kernel_rfl) (fun _ _ _ h => h) (Or.inl ⟨by rfl, ?_⟩) hHeld ?_
    rotate_left
    · intro w hSw
      try dsimp only at hSw
      go_simp
      all_goals with_reducible rfl
    simp only [Act.put, List.getElem_toArray, List.getElem_cons_succ, List.getElem_cons_zero, List.setIfInBounds_toArray, List.set_cons_zero, List.set_cons_succ]
    refine wpAnyH_take (i := 14) (oi := _) (v := ?_) rfl (by kernel_rfl) (by kernel_rfl) (by kernel_rfl) (fun _ _ _ h => h) (Or.inl ⟨by rfl, ?_⟩) hHeld ?_
    rotate_left
    · intro w hSw
      try dsimp only at hSw
      go_simp
      all_goals with_reducible rfl
    simp only [Act.put, List.getElem_toArray, List.getElem_cons_succ, List.getElem_cons_zero, List.setIfInBounds_toArray, List.set_cons_zero, List.set_cons_succ]
    refine wpAnyH_take (i := 15) (oi := _) (v := ?_) rfl (by kernel_rfl) (by kernel_rfl) (by kernel_rfl) (fun _ _ _ h => h) (Or.inl ⟨by rfl, ?_⟩) hHeld ?_
    rotate_left
    · intro w hSw
      try dsimp only at hSw
      go_simp
      all_goals with_reducible rfl
    simp only [Act.put, List.getElem_toArray, List.getElem_cons_succ, List.getElem_cons_zero, List.setIfInBounds_toArray, List.set_cons_zero, List.set_cons_succ]
    have C5 := Lib.hid (show ∀ W : World, Calls Try.prog 15 #[box p q s t, vec A E] W (fun e w' => e = .returned (.bool true) ∧ Below W.heap.size W w') from fun W => by have t := implBHas p q s t A E W; rw [i1] at t; exact t)
    refine wpAnyH_ready (rs := [16]) (by kernel_rfl) (by simp) ?_
    refine AllReadyH.cons (o := _) rfl (fun K hK => ?_) AllReadyH.nil
    go_simp
    go_at_call 15
    with_reducible refine (C5.out _).mono ?_
    rintro e wn ⟨rfl, Bn⟩
    have O0 := BCell.step (by first | with_reducible exact O0 | with_reducible exact O0.drew) Bn
    have O2 := BCell.step (by first | with_reducible exact O2 | with_reducible exact O2.drew) Bn
    have O5 := PCell.step (by first | with_reducible exact O5 | with_reducible exact O5.drew) Bn
    have Hb := Lib.hid (bl_trans (by first | with_reducible exact Hb.out | with_reducible exact bl_drew1 Hb.out) Bn)
    clear Bn C5 hHeld
    go_wp2_with fail
    refine hK.out _ _ ⟨bc_all (by repeat (first | with_reducible exact O0 | with_reducible refine BCell.alloc ?_ _ | with_reducible refine BCell.drew ?_)), bc_all (by repeat (first | with_reducible exact O2 | with_reducible refine BCell.alloc ?_ _ | with_reducible refine BCell.drew ?_)), pc_both (by repeat (first | with_reducible exact O5 | with_reducible refine PCell.alloc ?_ _ | with_reducible refine PCell.drew ?_))⟩ (fun hHeld => ?_)
    clear hK K
    try simp only [Act.put, List.getElem_toArray, List.getElem_cons_succ, List.getElem_cons_zero, List.setIfInBounds_toArray, List.set_cons_zero, List.set_cons_succ]
    refine wpAnyH_take (i := 17) (oi := _) (v := ?_) rfl (by kernel_rfl) (by kernel_rfl) (by kernel_rfl) (fun _ _ _ h => h) (Or.inl ⟨by rfl, ?_⟩) hHeld ?_
    rotate_left
    · intro w hSw
      try dsimp only at hSw
      go_simp
      all_goals with_reducible rfl
    simp only [Act.put, List.getElem_toArray, List.getElem_cons_succ, List.getElem_cons_zero, List.setIfInBounds_toArray, List.set_cons_zero, List.set_cons_succ]
    refine wpAnyH_take (i := 18) (oi := _) (v := ?_) rfl (by kernel_rfl) (by kernel_rfl) (by kernel_rfl) (fun _ _ _ h => h) (Or.inl ⟨by rfl, ?_⟩) hHeld ?_
    rotate_left
    · intro w hSw
      try dsimp only at hSw
      go_simp
      all_goals with_reducible rfl
    simp only [Act.put, List.getElem_toArray, List.getElem_cons_succ, List.getElem_cons_zero, List.setIfInBounds_toArray, List.set_cons_zero, List.set_cons_succ]
    refine wpAnyH_done (by kernel_rfl) ?_ _
    all_goals
      go_wp2
      go_ret
      first | exact ⟨rfl, (by repeat (first | with_reducible exact Hb.out | with_reducible refine bl_alloc ?_ _ | with_reducible refine bl_drew1 ?_))⟩ | exact ⟨ret_b (decide_eq_true (by omega)), (by repeat (first | with_reducible exact Hb.out | with_reducible refine bl_alloc ?_ _ | with_reducible refine bl_drew1 ?_))⟩ | exact ⟨ret_b (by simp; omega), (by repeat (first | with_reducible exact Hb.out | with_reducible refine bl_alloc ?_ _ | with_reducible refine bl_drew1 ?_))⟩
  cases kb : bhB x y u v m n
  · have po : bhB A E C D m n = false := by rw [pt, kb, Bool.and_false]
    clear pt
    have C3 := Lib.hid (show ∀ W : World, Calls Try.prog 15 #[box A E C D, vec m n] W (fun e w' => e = .returned (.bool false) ∧ Below W.heap.size W w') from fun W => by have t := implBHas A E C D m n W; rw [po] at t; exact t)
    have C4 := Lib.hid (show ∀ W : World, Calls Try.prog 15 #[box p q s t, vec m n] W (fun e w' => e = .returned (.bool true) ∧ Below W.heap.size W w') from fun W => by have t := implBHas p q s t m n W; rw [ka] at t; exact t)
    have C5 := Lib.hid (show ∀ W : World, Calls Try.prog 15 #[box x y u v, vec m n] W (fun e w' => e = .returned (.bool false) ∧ Below W.heap.size W w') from fun W => by have t := implBHas x y u v m n W; rw [kb] at t; exact t)
    have C6 := Lib.hid (show ∀ W : World, Calls Try.prog 15 #[box p q s t, vec A E] W (fun e w' => e = .returned (.bool true) ∧ Below W.heap.size W w') from fun W => by have t := implBHas p q s t A E W; rw [i1] at t; exact t)
    go_region_held3 (fun w' => (w'.cell? ⟨w1.heap.size, 0, none⟩ = some (.int .i64 p) ∧ w'.cell? ⟨w1.heap.size, 1, none⟩ = some (.int .i64 q) ∧ w'.cell? ⟨w1.heap.size, 2, none⟩ = some (.int .i64 s) ∧ w'.cell? ⟨w1.heap.size, 3, none⟩ = some (.int .i64 t)) ∧ (w'.cell? ⟨w1.heap.size + 1, 0, none⟩ = some (.int .i64 x) ∧ w'.cell? ⟨w1.heap.size + 1, 1, none⟩ = some (.int .i64 y) ∧ w'.cell? ⟨w1.heap.size + 1, 2, none⟩ = some (.int .i64 u) ∧ w'.cell? ⟨w1.heap.size + 1, 3, none⟩ = some (.int .i64 v)) ∧ (w'.cell? ⟨w2.heap.size, 0, none⟩ = some (.int .i64 A) ∧ w'.cell? ⟨w2.heap.size, 1, none⟩ = some (.int .i64 E) ∧ w'.cell? ⟨w2.heap.size, 2, none⟩ = some (.int .i64 C) ∧ w'.cell? ⟨w2.heap.size, 3, none⟩ = some (.int .i64 D)) ∧ (w'.cell? ⟨w3.heap.size, 0, none⟩ = some (.int .i64 A) ∧ w'.cell? ⟨w3.heap.size, 1, none⟩ = some (.int .i64 E) ∧ w'.cell? ⟨w3.heap.size, 2, none⟩ = some (.int .i64 C) ∧ w'.cell? ⟨w3.heap.size, 3, none⟩ = some (.int .i64 D)) ∧ (w'.cell? ⟨w4.heap.size, 0, none⟩ = some (.int .i64 p3) ∧ w'.cell? ⟨w4.heap.size, 1, none⟩ = some (.int .i64 q3) ∧ w'.cell? ⟨w4.heap.size, 2, none⟩ = some (.int .i64 s3) ∧ w'.cell? ⟨w4.heap.size, 3, none⟩ = some (.int .i64 t3)) ∧ (w'.cell? ⟨w4.heap.size + 1, 0, none⟩ = some (.int .i64 m) ∧ w'.cell? ⟨w4.heap.size + 1, 1, none⟩ = some (.int .i64 n)))
      (exact ⟨bc_all (by repeat (first | with_reducible exact O0 | with_reducible refine BCell.alloc ?_ _ | with_reducible refine BCell.drew ?_)), bc_all (by repeat (first | with_reducible exact O1 | with_reducible refine BCell.alloc ?_ _ | with_reducible refine BCell.drew ?_)), bc_all (by repeat (first | with_reducible exact O2 | with_reducible refine BCell.alloc ?_ _ | with_reducible refine BCell.drew ?_)), bc_all (by repeat (first | with_reducible exact O3 | with_reducible refine BCell.alloc ?_ _ | with_reducible refine BCell.drew ?_)), bc_all (by repeat (first | with_reducible exact O4 | with_reducible refine BCell.alloc ?_ _ | with_reducible refine BCell.drew ?_)), pc_both (by repeat (first | with_reducible exact O5 | with_reducible refine PCell.alloc ?_ _ | with_reducible refine PCell.drew ?_))⟩)
      (first | (go_at_call 15; with_reducible refine (C3.out _).mono ?_; rintro e wn ⟨rfl, Bn⟩; have O0 := BCell.step (by first | with_reducible exact O0 | with_reducible exact O0.drew) Bn; have O1 := BCell.step (by first | with_reducible exact O1 | with_reducible exact O1.drew) Bn; have O2 := BCell.step (by first | with_reducible exact O2 | with_reducible exact O2.drew) Bn; have O3 := BCell.step (by first | with_reducible exact O3 | with_reducible exact O3.drew) Bn; have O4 := BCell.step (by first | with_reducible exact O4 | with_reducible exact O4.drew) Bn; have O5 := PCell.step (by first | with_reducible exact O5 | with_reducible exact O5.drew) Bn; have Hb := Lib.hid (bl_trans (by first | with_reducible exact Hb.out | with_reducible exact bl_drew1 Hb.out) Bn); clear Bn) | (go_at_call 15; with_reducible refine (C4.out _).mono ?_; rintro e wn ⟨rfl, Bn⟩; have O0 := BCell.step (by first | with_reducible exact O0 | with_reducible exact O0.drew) Bn; have O1 := BCell.step (by first | with_reducible exact O1 | with_reducible exact O1.drew) Bn; have O2 := BCell.step (by first | with_reducible exact O2 | with_reducible exact O2.drew) Bn; have O3 := BCell.step (by first | with_reducible exact O3 | with_reducible exact O3.drew) Bn; have O4 := BCell.step (by first | with_reducible exact O4 | with_reducible exact O4.drew) Bn; have O5 := PCell.step (by first | with_reducible exact O5 | with_reducible exact O5.drew) Bn; have Hb := Lib.hid (bl_trans (by first | with_reducible exact Hb.out | with_reducible exact bl_drew1 Hb.out) Bn); clear Bn) | (go_at_call 15; with_reducible refine (C5.out _).mono ?_; rintro e wn ⟨rfl, Bn⟩; have O0 := BCell.step (by first | with_reducible exact O0 | with_reducible exact O0.drew) Bn; have O1 := BCell.step (by first | with_reducible exact O1 | with_reducible exact O1.drew) Bn; have O2 := BCell.step (by first | with_reducible exact O2 | with_reducible exact O2.drew) Bn; have O3 := BCell.step (by first | with_reducible exact O3 | with_reducible exact O3.drew) Bn; have O4 := BCell.step (by first | with_reducible exact O4 | with_reducible exact O4.drew) Bn; have O5 := PCell.step (by first | with_reducible exact O5 | with_reducible exact O5.drew) Bn; have Hb := Lib.hid (bl_trans (by first | with_reducible exact Hb.out | with_reducible exact bl_drew1 Hb.out) Bn); clear Bn) | (go_at_call 15; with_reducible refine (C6.out _).mono ?_; rintro e wn ⟨rfl, Bn⟩; have O0 := BCell.step (by first | with_reducible exact O0 | with_reducible exact O0.drew) Bn; have O1 := BCell.step (by first | with_reducible exact O1 | with_reducible exact O1.drew) Bn; have O2 := BCell.step (by first | with_reducible exact O2 | with_reducible exact O2.drew) Bn; have O3 := BCell.step (by first | with_reducible exact O3 | with_reducible exact O3.drew) Bn; have O4 := BCell.step (by first | with_reducible exact O4 | with_reducible exact O4.drew) Bn; have O5 := PCell.step (by first | with_reducible exact O5 | with_reducible exact O5.drew) Bn; have Hb := Lib.hid (bl_trans (by first | with_reducible exact Hb.out | with_reducible exact bl_drew1 Hb.out) Bn); clear Bn))
    all_goals
      go_wp2
      go_ret
      first | exact ⟨rfl, (by repeat (first | with_reducible exact Hb.out | with_reducible refine bl_alloc ?_ _ | with_reducible refine bl_drew1 ?_))⟩ | exact ⟨ret_b (decide_eq_true (by omega)), (by repeat (first | with_reducible exact Hb.out | with_reducible refine bl_alloc ?_ _ | with_reducible refine bl_drew1 ?_))⟩ | exact ⟨ret_b (by simp; omega), (by repeat (first | with_reducible exact Hb.out | with_reducible refine bl_alloc ?_ _ | with_reducible refine bl_drew1 ?_))⟩
  · have po : bhB A E C D m n = true := by rw [pt, ka, kb, Bool.and_true]
    clear pt
    have C3 := Lib.hid (show ∀ W : World, Calls Try.prog 15 #[box A E C D, vec m n] W (fun e w' => e = .returned (.bool true) ∧ Below W.heap.size W w') from fun W => by have t := implBHas A E C D m n W; rw [po] at t; exact t)
    have C4 := Lib.hid (show ∀ W : World, Calls Try.prog 15 #[box p q s t, vec m n] W (fun e w' => e = .returned (.bool true) ∧ Below W.heap.size W w') from fun W => by have t := implBHas p q s t m n W; rw [ka] at t; exact t)
    have C5 := Lib.hid (show ∀ W : World, Calls Try.prog 15 #[box x y u v, vec m n] W (fun e w' => e = .returned (.bool true) ∧ Below W.heap.size W w') from fun W => by have t := implBHas x y u v m n W; rw [kb] at t; exact t)
    have C6 := Lib.hid (show ∀ W : World, Calls Try.prog 15 #[box p q s t, vec A E] W (fun e w' => e = .returned (.bool true) ∧ Below W.heap.size W w') from fun W => by have t := implBHas p q s t A E W; rw [i1] at t; exact t)
    go_region_held3 (fun w' => (w'.cell? ⟨w1.heap.size, 0, none⟩ = some (.int .i64 p) ∧ w'.cell? ⟨w1.heap.size, 1, none⟩ = some (.int .i64 q) ∧ w'.cell? ⟨w1.heap.size, 2, none⟩ = some (.int .i64 s) ∧ w'.cell? ⟨w1.heap.size, 3, none⟩ = some (.int .i64 t)) ∧ (w'.cell? ⟨w1.heap.size + 1, 0, none⟩ = some (.int .i64 x) ∧ w'.cell? ⟨w1.heap.size + 1, 1, none⟩ = some (.int .i64 y) ∧ w'.cell? ⟨w1.heap.size + 1, 2, none⟩ = some (.int .i64 u) ∧ w'.cell? ⟨w1.heap.size + 1, 3, none⟩ = some (.int .i64 v)) ∧ (w'.cell? ⟨w2.heap.size, 0, none⟩ = some (.int .i64 A) ∧ w'.cell? ⟨w2.heap.size, 1, none⟩ = some (.int .i64 E) ∧ w'.cell? ⟨w2.heap.size, 2, none⟩ = some (.int .i64 C) ∧ w'.cell? ⟨w2.heap.size, 3, none⟩ = some (.int .i64 D)) ∧ (w'.cell? ⟨w3.heap.size, 0, none⟩ = some (.int .i64 A) ∧ w'.cell? ⟨w3.heap.size, 1, none⟩ = some (.int .i64 E) ∧ w'.cell? ⟨w3.heap.size, 2, none⟩ = some (.int .i64 C) ∧ w'.cell? ⟨w3.heap.size, 3, none⟩ = some (.int .i64 D)) ∧ (w'.cell? ⟨w4.heap.size, 0, none⟩ = some (.int .i64 p3) ∧ w'.cell? ⟨w4.heap.size, 1, none⟩ = some (.int .i64 q3) ∧ w'.cell? ⟨w4.heap.size, 2, none⟩ = some (.int .i64 s3) ∧ w'.cell? ⟨w4.heap.size, 3, none⟩ = some (.int .i64 t3)) ∧ (w'.cell? ⟨w4.heap.size + 1, 0, none⟩ = some (.int .i64 m) ∧ w'.cell? ⟨w4.heap.size + 1, 1, none⟩ = some (.int .i64 n)))
      (exact ⟨bc_all (by repeat (first | with_reducible exact O0 | with_reducible refine BCell.alloc ?_ _ | with_reducible refine BCell.drew ?_)), bc_all (by repeat (first | with_reducible exact O1 | with_reducible refine BCell.alloc ?_ _ | with_reducible refine BCell.drew ?_)), bc_all (by repeat (first | with_reducible exact O2 | with_reducible refine BCell.alloc ?_ _ | with_reducible refine BCell.drew ?_)), bc_all (by repeat (first | with_reducible exact O3 | with_reducible refine BCell.alloc ?_ _ | with_reducible refine BCell.drew ?_)), bc_all (by repeat (first | with_reducible exact O4 | with_reducible refine BCell.alloc ?_ _ | with_reducible refine BCell.drew ?_)), pc_both (by repeat (first | with_reducible exact O5 | with_reducible refine PCell.alloc ?_ _ | with_reducible refine PCell.drew ?_))⟩)
      (first | (go_at_call 15; with_reducible refine (C3.out _).mono ?_; rintro e wn ⟨rfl, Bn⟩; have O0 := BCell.step (by first | with_reducible exact O0 | with_reducible exact O0.drew) Bn; have O1 := BCell.step (by first | with_reducible exact O1 | with_reducible exact O1.drew) Bn; have O2 := BCell.step (by first | with_reducible exact O2 | with_reducible exact O2.drew) Bn; have O3 := BCell.step (by first | with_reducible exact O3 | with_reducible exact O3.drew) Bn; have O4 := BCell.step (by first | with_reducible exact O4 | with_reducible exact O4.drew) Bn; have O5 := PCell.step (by first | with_reducible exact O5 | with_reducible exact O5.drew) Bn; have Hb := Lib.hid (bl_trans (by first | with_reducible exact Hb.out | with_reducible exact bl_drew1 Hb.out) Bn); clear Bn) | (go_at_call 15; with_reducible refine (C4.out _).mono ?_; rintro e wn ⟨rfl, Bn⟩; have O0 := BCell.step (by first | with_reducible exact O0 | with_reducible exact O0.drew) Bn; have O1 := BCell.step (by first | with_reducible exact O1 | with_reducible exact O1.drew) Bn; have O2 := BCell.step (by first | with_reducible exact O2 | with_reducible exact O2.drew) Bn; have O3 := BCell.step (by first | with_reducible exact O3 | with_reducible exact O3.drew) Bn; have O4 := BCell.step (by first | with_reducible exact O4 | with_reducible exact O4.drew) Bn; have O5 := PCell.step (by first | with_reducible exact O5 | with_reducible exact O5.drew) Bn; have Hb := Lib.hid (bl_trans (by first | with_reducible exact Hb.out | with_reducible exact bl_drew1 Hb.out) Bn); clear Bn) | (go_at_call 15; with_reducible refine (C5.out _).mono ?_; rintro e wn ⟨rfl, Bn⟩; have O0 := BCell.step (by first | with_reducible exact O0 | with_reducible exact O0.drew) Bn; have O1 := BCell.step (by first | with_reducible exact O1 | with_reducible exact O1.drew) Bn; have O2 := BCell.step (by first | with_reducible exact O2 | with_reducible exact O2.drew) Bn; have O3 := BCell.step (by first | with_reducible exact O3 | with_reducible exact O3.drew) Bn; have O4 := BCell.step (by first | with_reducible exact O4 | with_reducible exact O4.drew) Bn; have O5 := PCell.step (by first | with_reducible exact O5 | with_reducible exact O5.drew) Bn; have Hb := Lib.hid (bl_trans (by first | with_reducible exact Hb.out | with_reducible exact bl_drew1 Hb.out) Bn); clear Bn) | (go_at_call 15; with_reducible refine (C6.out _).mono ?_; rintro e wn ⟨rfl, Bn⟩; have O0 := BCell.step (by first | with_reducible exact O0 | with_reducible exact O0.drew) Bn; have O1 := BCell.step (by first | with_reducible exact O1 | with_reducible exact O1.drew) Bn; have O2 := BCell.step (by first | with_reducible exact O2 | with_reducible exact O2.drew) Bn; have O3 := BCell.step (by first | with_reducible exact O3 | with_reducible exact O3.drew) Bn; have O4 := BCell.step (by first | with_reducible exact O4 | with_reducible exact O4.drew) Bn; have O5 := PCell.step (by first | with_reducible exact O5 | with_reducible exact O5.drew) Bn; have Hb := Lib.hid (bl_trans (by first | with_reducible exact Hb.out | with_reducible exact bl_drew1 Hb.out) Bn); clear Bn))
    all_goals
      go_wp2
      go_ret
      first | exact ⟨rfl, (by repeat (first | with_reducible exact Hb.out | with_reducible refine bl_alloc ?_ _ | with_reducible refine bl_drew1 ?_))⟩ | exact ⟨ret_b (decide_eq_true (by omega)), (by repeat (first | with_reducible exact Hb.out | with_reducible refine bl_alloc ?_ _ | with_reducible refine bl_drew1 ?_))⟩ | exact ⟨ret_b (by simp; omega), (by repeat (first | with_reducible exact Hb.out | with_reducible refine bl_alloc ?_ _ | with_reducible refine bl_drew1 ?_))⟩

end Go.Proofs.Ytkkifikdnjajjaa
