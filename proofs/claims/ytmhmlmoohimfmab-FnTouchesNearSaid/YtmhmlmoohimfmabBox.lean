/-
  What the functions of chapter 3 return in the model, at every argument: the contracts. A box is four integers.
-/
import Derived.Test.YtmhmlmoohimfmabVec
import Derived.Test.YtmhmlmoohimfmabBoxMath
namespace Go.Proofs.Ytmhmlmoohimfmab
open Go.RowKit
open M

/-- A box as a value. -/
abbrev box (a b c d : Int) : Value := .agg #[.int .i64 a, .int .i64 b, .int .i64 c, .int .i64 d]
theorem ret_bb {a b c d a' b' c' d' : Int} {p q : Bool} (h1 : a = a') (h2 : b = b') (h3 : c = c') (h4 : d = d') (g : p = q) : Ending.returned (.tuple #[.agg #[.int .i64 a, .int .i64 b, .int .i64 c, .int .i64 d], .bool p]) = .returned (.tuple #[box a' b' c' d', .bool q]) := by rw [h1, h2, h3, h4, g]

set_option maxHeartbeats 400000 in
theorem specBValid (a b c d : Int) (w : World) : Calls Try.prog 10 #[box a b c d] w fun e w' => e = .returned (.bool (bvB a b c d)) ∧ Below w.heap.size w w' := by
  cases h : vokB a b
  · have E := Lib.hid (bv_no1 (c := c) (d := d) h)
    go_enter Try.func10, Try.ntmps10
    go_wp2_with fail
    refine (specVecOk _ _ _).mono ?_
    rintro e w1 ⟨rfl, B1⟩
    have C1 := B1
    clear B1
    obtain ⟨hc1, hf1⟩ := bcell C1
    have H1 := Lib.hid (bl_trans (bl_alloc (bl_refl w) _) C1)
    go_wp2
    go_ret
    exact ⟨ret_b (by rw [E.out]), H1.out⟩
  cases g : vokB c d
  · have E := Lib.hid (bv_no2 (a := a) (b := b) g)
    go_enter Try.func10, Try.ntmps10
    go_wp2_with fail
    refine (specVecOk _ _ _).mono ?_
    rintro e w1 ⟨rfl, B1⟩
    have C1 := B1
    clear B1
    obtain ⟨hc1, hf1⟩ := bcell C1
    have H1 := Lib.hid (bl_trans (bl_alloc (bl_refl w) _) C1)
    go_wp2_with fail
    refine (specVecOk _ _ _).mono ?_
    rintro e w2 ⟨rfl, B2⟩
    have C2 := bl_trans C1 B2
    clear hc1 hf1 C1 B2
    obtain ⟨hc2, hf2⟩ := bcell C2
    have H2 := Lib.hid (bl_trans (bl_alloc (bl_refl w) _) C2)
    go_wp2
    go_ret
    exact ⟨ret_b (by rw [E.out]), H2.out⟩
  by_cases k : a ≤ c
  · have E := Lib.hid (bv_yes h g k)
    go_enter Try.func10, Try.ntmps10
    go_wp2_with fail
    refine (specVecOk _ _ _).mono ?_
    rintro e w1 ⟨rfl, B1⟩
    have C1 := B1
    clear B1
    obtain ⟨hc1, hf1⟩ := bcell C1
    have H1 := Lib.hid (bl_trans (bl_alloc (bl_refl w) _) C1)
    go_wp2_with fail
    refine (specVecOk _ _ _).mono ?_
    rintro e w2 ⟨rfl, B2⟩
    have C2 := bl_trans C1 B2
    clear hc1 hf1 C1 B2
    obtain ⟨hc2, hf2⟩ := bcell C2
    have H2 := Lib.hid (bl_trans (bl_alloc (bl_refl w) _) C2)
    go_wp2
    go_ret
    exact ⟨ret_b (by rw [E.out]), H2.out⟩
  · have E := Lib.hid (bv_no3 (b := b) (d := d) k)
    have k2 : decide (a ≤ c) = false := decide_eq_false k
    go_enter Try.func10, Try.ntmps10
    go_wp2_with fail
    refine (specVecOk _ _ _).mono ?_
    rintro e w1 ⟨rfl, B1⟩
    have C1 := B1
    clear B1
    obtain ⟨hc1, hf1⟩ := bcell C1
    have H1 := Lib.hid (bl_trans (bl_alloc (bl_refl w) _) C1)
    go_wp2_with fail
    refine (specVecOk _ _ _).mono ?_
    rintro e w2 ⟨rfl, B2⟩
    have C2 := bl_trans C1 B2
    clear hc1 hf1 C1 B2
    obtain ⟨hc2, hf2⟩ := bcell C2
    have H2 := Lib.hid (bl_trans (bl_alloc (bl_refl w) _) C2)
    go_wp2
    go_ret
    exact ⟨ret_b (by rw [E.out]), H2.out⟩

set_option maxHeartbeats 400000 in
theorem specBHas0 (a b c d x y : Int) (w : World) : Calls Try.prog 31 #[box a b c d, vec x y] w fun e w' => e = .returned (.bool (h0B a b c d x y)) ∧ Below w.heap.size w w' := by
  cases h : inB x a c
  · have E := Lib.hid (h0_no (b := b) (d := d) (y := y) h)
    go_enter Try.func31, Try.ntmps31
    go_wp2_with (go_at_call 28; refine (in_any _ _ _ _).mono ?_; rintro e w' ⟨rfl, rfl⟩)
    go_ret
    exact ⟨ret_b (by rw [E.out]), bl_alloc (bl_alloc (bl_refl w) _) _⟩
  · have E := Lib.hid (h0_yes (b := b) (d := d) (y := y) h)
    go_enter Try.func31, Try.ntmps31
    go_wp2_with (go_at_call 28; refine (in_any _ _ _ _).mono ?_; rintro e w' ⟨rfl, rfl⟩)
    go_ret
    exact ⟨ret_b (by rw [E.out]), bl_alloc (bl_alloc (bl_refl w) _) _⟩

set_option maxHeartbeats 400000 in
theorem specBHas (a b c d x y : Int) (w : World) : Calls Try.prog 16 #[box a b c d, vec x y] w fun e w' => e = .returned (.bool (bhB a b c d x y)) ∧ Below w.heap.size w w' := by
  cases h : bvB a b c d
  · have E := Lib.hid (bh_no1 (x := x) (y := y) h)
    go_enter Try.func16, Try.ntmps16
    go_wp2_with fail
    refine (specBValid _ _ _ _ _).mono ?_
    rintro e w1 ⟨rfl, B1⟩
    have C1 := B1
    clear B1
    obtain ⟨hc1, hf1⟩ := bcell C1
    have H1 := Lib.hid (bl_trans (bl_alloc (bl_alloc (bl_refl w) _) _) C1)
    go_wp2
    go_ret
    exact ⟨ret_b (by rw [E.out]), H1.out⟩
  cases g : vokB x y
  · have E := Lib.hid (bh_no2 (a := a) (b := b) (c := c) (d := d) g)
    go_enter Try.func16, Try.ntmps16
    go_wp2_with fail
    refine (specBValid _ _ _ _ _).mono ?_
    rintro e w1 ⟨rfl, B1⟩
    have C1 := B1
    clear B1
    obtain ⟨hc1, hf1⟩ := bcell C1
    have H1 := Lib.hid (bl_trans (bl_alloc (bl_alloc (bl_refl w) _) _) C1)
    go_wp2_with fail
    refine (specVecOk _ _ _).mono ?_
    rintro e w2 ⟨rfl, B2⟩
    have C2 := bl_trans C1 B2
    clear hc1 hf1 C1 B2
    obtain ⟨hc2, hf2⟩ := bcell C2
    have H2 := Lib.hid (bl_trans (bl_alloc (bl_alloc (bl_refl w) _) _) C2)
    go_wp2
    go_ret
    exact ⟨ret_b (by rw [E.out]), H2.out⟩
  · have E := Lib.hid (bh_yes h g)
    go_enter Try.func16, Try.ntmps16
    go_wp2_with fail
    refine (specBValid _ _ _ _ _).mono ?_
    rintro e w1 ⟨rfl, B1⟩
    have C1 := B1
    clear B1
    obtain ⟨hc1, hf1⟩ := bcell C1
    have H1 := Lib.hid (bl_trans (bl_alloc (bl_alloc (bl_refl w) _) _) C1)
    go_wp2_with fail
    refine (specVecOk _ _ _).mono ?_
    rintro e w2 ⟨rfl, B2⟩
    have C2 := bl_trans C1 B2
    clear hc1 hf1 C1 B2
    obtain ⟨hc2, hf2⟩ := bcell C2
    have H2 := Lib.hid (bl_trans (bl_alloc (bl_alloc (bl_refl w) _) _) C2)
    go_wp2_with fail
    refine (specBHas0 _ _ _ _ _ _ _).mono ?_
    rintro e w3 ⟨rfl, B3⟩
    have C3 := bl_trans C2 B3
    clear hc2 hf2 C2 B3
    obtain ⟨hc3, hf3⟩ := bcell C3
    have H3 := Lib.hid (bl_trans (bl_alloc (bl_alloc (bl_refl w) _) _) C3)
    go_wp2
    go_ret
    exact ⟨ret_b (by rw [E.out]), H3.out⟩

set_option maxHeartbeats 400000 in
theorem specBNear0 (a b c d x y : Int) (w : World) : Calls Try.prog 35 #[box a b c d, vec x y] w fun e w' => e = .returned (vec (max a (min x c)) (max b (min y d))) ∧ Below w.heap.size w w' := by
  have hmx := ite_max
  have hmn := ite_min
  go_enter Try.func35, Try.ntmps35
  go_wp2
  exact bodyPost_ret (v := vec (max a (min x c)) (max b (min y d))) (by simp [results, Try.results35, go_sem]) rfl ⟨rfl, by repeat (first | exact bl_refl _ | refine bl_alloc ?_ _ | refine bl_set ?_ _ _ _ (by omega))⟩

set_option maxHeartbeats 1000000 in
theorem specBTouch0 (a b c d x y r : Int) (w : World) (hb : bvB a b c d = true) (hv : vokB x y = true) (r0 : 0 ≤ r) (r1 : r ≤ 1000000) : Calls Try.prog 29 #[box a b c d, vec x y, .int .i64 r] w fun e w' => e = .returned (.bool (t0B a b c d x y r)) ∧ Below w.heap.size w w' := by
  obtain ⟨⟨⟨a1, a2⟩, b1, b2⟩, ⟨⟨c1, c2⟩, d1, d2⟩, ac, bd⟩ := (bv_iff a b c d).1 hb
  obtain ⟨⟨x1, x2⟩, y1, y2⟩ := (vok_iff x y).1 hv
  have g1 := gap_bd a1 c2 ac x1 x2
  have g2 := gap_bd b1 d2 bd y1 y2
  have n1 : -1000000 ≤ max a (min x c) ∧ max a (min x c) ≤ 1000000 := by omega
  have n2 : -1000000 ≤ max b (min y d) ∧ max b (min y d) ≤ 1000000 := by omega
  have E := Lib.hid (show t0B a b c d x y r = decide ((x - max a (min x c)) * (x - max a (min x c)) + (y - max b (min y d)) * (y - max b (min y d)) ≤ r * r) from rfl)
  have Q := Lib.hid (fun W => specBNear0 a b c d x y W)
  clear hb hv
  generalize max a (min x c) = X at *
  generalize max b (min y d) = Y at *
  have m1 := mul_bd (a := x - X) (b := x - X) (by omega) (by omega) (by omega) (by omega)
  have m2 := mul_bd (a := y - Y) (b := y - Y) (by omega) (by omega) (by omega) (by omega)
  have m3 := mul_bd (a := r) (b := r) (by omega) (by omega) (by omega) (by omega)
  go_enter Try.func29, Try.ntmps29
  go_wp2_with fail
  refine (Q.out _).mono ?_
  rintro e w1 ⟨rfl, B1⟩
  obtain ⟨hc1, hf1⟩ := bcell B1
  have l0 : w.heap.size < w1.heap.size := by have := B1.size; simp at this; omega
  have l1 : w.heap.size + 1 < w1.heap.size := by have := B1.size; simp at this; omega
  have H1 := Lib.hid (bl_trans (bl_alloc (bl_alloc (bl_refl w) _) _) B1)
  clear B1 Q
  go_wp2
  go_ret
  exact ⟨ret_b (by rw [E.out]), bl_alloc H1.out _⟩

set_option maxHeartbeats 1000000 in
theorem specBTouch (a b c d x y r : Int) (w : World) : Calls Try.prog 9 #[box a b c d, vec x y, .int .i64 r] w fun e w' => e = .returned (.bool (tcB a b c d x y r)) ∧ Below w.heap.size w w' := by
  cases h : bvB a b c d
  · have E := Lib.hid (tc_no1 (x := x) (y := y) (r := r) h)
    go_enter Try.func9, Try.ntmps9
    go_wp2_with fail
    refine (specBValid _ _ _ _ _).mono ?_
    rintro e w1 ⟨rfl, B1⟩
    have C1 := B1
    clear B1
    obtain ⟨hc1, hf1⟩ := bcell C1
    have H1 := Lib.hid (bl_trans (bl_alloc (bl_alloc (bl_refl w) _) _) C1)
    go_wp2
    go_ret
    exact ⟨ret_b (by rw [E.out]), H1.out⟩
  cases g : vokB x y
  · have E := Lib.hid (tc_no2 (a := a) (b := b) (c := c) (d := d) (r := r) g)
    go_enter Try.func9, Try.ntmps9
    go_wp2_with fail
    refine (specBValid _ _ _ _ _).mono ?_
    rintro e w1 ⟨rfl, B1⟩
    have C1 := B1
    clear B1
    obtain ⟨hc1, hf1⟩ := bcell C1
    have H1 := Lib.hid (bl_trans (bl_alloc (bl_alloc (bl_refl w) _) _) C1)
    go_wp2_with fail
    refine (specVecOk _ _ _).mono ?_
    rintro e w2 ⟨rfl, B2⟩
    have C2 := bl_trans C1 B2
    clear hc1 hf1 C1 B2
    obtain ⟨hc2, hf2⟩ := bcell C2
    have H2 := Lib.hid (bl_trans (bl_alloc (bl_alloc (bl_refl w) _) _) C2)
    go_wp2
    go_ret
    exact ⟨ret_b (by rw [E.out]), H2.out⟩
  cases k : inB r 0 1000000
  · have E := Lib.hid (tc_no3 (a := a) (b := b) (c := c) (d := d) (x := x) (y := y) k)
    go_enter Try.func9, Try.ntmps9
    go_wp2_with fail
    refine (specBValid _ _ _ _ _).mono ?_
    rintro e w1 ⟨rfl, B1⟩
    have C1 := B1
    clear B1
    obtain ⟨hc1, hf1⟩ := bcell C1
    have H1 := Lib.hid (bl_trans (bl_alloc (bl_alloc (bl_refl w) _) _) C1)
    go_wp2_with fail
    refine (specVecOk _ _ _).mono ?_
    rintro e w2 ⟨rfl, B2⟩
    have C2 := bl_trans C1 B2
    clear hc1 hf1 C1 B2
    obtain ⟨hc2, hf2⟩ := bcell C2
    have H2 := Lib.hid (bl_trans (bl_alloc (bl_alloc (bl_refl w) _) _) C2)
    go_wp2_with (go_at_call 28; refine (in_any _ _ _ _).mono ?_; rintro e w' ⟨rfl, rfl⟩)
    go_ret
    exact ⟨ret_b (by rw [E.out]), H2.out⟩
  · have E := Lib.hid (tc_yes h g k)
    have hr : 0 ≤ r ∧ r ≤ 1000000 := by simpa [inB] using k
    obtain ⟨r0, r1⟩ := hr
    go_enter Try.func9, Try.ntmps9
    go_wp2_with fail
    refine (specBValid _ _ _ _ _).mono ?_
    rintro e w1 ⟨rfl, B1⟩
    have C1 := B1
    clear B1
    obtain ⟨hc1, hf1⟩ := bcell C1
    have H1 := Lib.hid (bl_trans (bl_alloc (bl_alloc (bl_refl w) _) _) C1)
    go_wp2_with fail
    refine (specVecOk _ _ _).mono ?_
    rintro e w2 ⟨rfl, B2⟩
    have C2 := bl_trans C1 B2
    clear hc1 hf1 C1 B2
    obtain ⟨hc2, hf2⟩ := bcell C2
    have H2 := Lib.hid (bl_trans (bl_alloc (bl_alloc (bl_refl w) _) _) C2)
    go_wp2_with fail
    refine (in_any _ _ _ _).mono ?_
    rintro e w' ⟨rfl, rfl⟩
    go_wp2_with fail
    refine (specBTouch0 _ _ _ _ _ _ _ _ h g r0 r1).mono ?_
    rintro e w3 ⟨rfl, B3⟩
    have C3 := bl_trans C2 B3
    clear hc2 hf2 C2 B3
    obtain ⟨hc3, hf3⟩ := bcell C3
    have H3 := Lib.hid (bl_trans (bl_alloc (bl_alloc (bl_refl w) _) _) C3)
    go_wp2
    go_ret
    exact ⟨ret_b (by rw [E.out]), H3.out⟩

end Go.Proofs.Ytmhmlmoohimfmab
