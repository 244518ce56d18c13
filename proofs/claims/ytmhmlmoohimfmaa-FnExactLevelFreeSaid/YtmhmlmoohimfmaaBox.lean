/-
  What the functions of chapter 3 return in the model, at every argument: the contracts. A box is four integers.
-/
import Derived.Test.YtmhmlmoohimfmaaVec
import Derived.Test.YtmhmlmoohimfmaaBoxMath
namespace Go.Proofs.Ytmhmlmoohimfmaa
open Go.RowKit
open M

/-- A box as a value. -/
abbrev box (a b c d : Int) : Value := .agg #[.int .i64 a, .int .i64 b, .int .i64 c, .int .i64 d]
theorem ret_bb {a b c d a' b' c' d' : Int} {p q : Bool} (h1 : a = a') (h2 : b = b') (h3 : c = c') (h4 : d = d') (g : p = q) : Ending.returned (.tuple #[.agg #[.int .i64 a, .int .i64 b, .int .i64 c, .int .i64 d], .bool p]) = .returned (.tuple #[box a' b' c' d', .bool q]) := by rw [h1, h2, h3, h4, g]

set_option maxHeartbeats 400000 in
theorem specBValid (a b c d : Int) (w : World) : Calls Try.prog 43 #[box a b c d] w fun e w' => e = .returned (.bool (bvB a b c d)) ∧ Below w.heap.size w w' := by
  cases h : vokB a b
  · have E := Lib.hid (bv_no1 (c := c) (d := d) h)
    go_enter Try.func43, Try.ntmps43
    go_wp2_with fail
    refine (specVecOk _ _ _).mono ?_
    rintro e w1 ⟨rfl, B1⟩
    have C1 := B1
    clear B1
    obtain ⟨hc1, hf1⟩ := bcell C1
    have H1 := Lib.hid (bl_trans (bl_alloc (bl_refl w) _) C1)
    go_wp2
    go_ret
    exact ⟨ret_b (by rw [E.out]), H1.out⟩
  cases g : vokB c d
  · have E := Lib.hid (bv_no2 (a := a) (b := b) g)
    go_enter Try.func43, Try.ntmps43
    go_wp2_with fail
    refine (specVecOk _ _ _).mono ?_
    rintro e w1 ⟨rfl, B1⟩
    have C1 := B1
    clear B1
    obtain ⟨hc1, hf1⟩ := bcell C1
    have H1 := Lib.hid (bl_trans (bl_alloc (bl_refl w) _) C1)
    go_wp2_with fail
    refine (specVecOk _ _ _).mono ?_
    rintro e w2 ⟨rfl, B2⟩
    have C2 := bl_trans C1 B2
    clear hc1 hf1 C1 B2
    obtain ⟨hc2, hf2⟩ := bcell C2
    have H2 := Lib.hid (bl_trans (bl_alloc (bl_refl w) _) C2)
    go_wp2
    go_ret
    exact ⟨ret_b (by rw [E.out]), H2.out⟩
  by_cases k : a ≤ c
  · have E := Lib.hid (bv_yes h g k)
    go_enter Try.func43, Try.ntmps43
    go_wp2_with fail
    refine (specVecOk _ _ _).mono ?_
    rintro e w1 ⟨rfl, B1⟩
    have C1 := B1
    clear B1
    obtain ⟨hc1, hf1⟩ := bcell C1
    have H1 := Lib.hid (bl_trans (bl_alloc (bl_refl w) _) C1)
    go_wp2_with fail
    refine (specVecOk _ _ _).mono ?_
    rintro e w2 ⟨rfl, B2⟩
    have C2 := bl_trans C1 B2
    clear hc1 hf1 C1 B2
    obtain ⟨hc2, hf2⟩ := bcell C2
    have H2 := Lib.hid (bl_trans (bl_alloc (bl_refl w) _) C2)
    go_wp2
    go_ret
    exact ⟨ret_b (by rw [E.out]), H2.out⟩
  · have E := Lib.hid (bv_no3 (b := b) (d := d) k)
    have k2 : decide (a ≤ c) = false := decide_eq_false k
    go_enter Try.func43, Try.ntmps43
    go_wp2_with fail
    refine (specVecOk _ _ _).mono ?_
    rintro e w1 ⟨rfl, B1⟩
    have C1 := B1
    clear B1
    obtain ⟨hc1, hf1⟩ := bcell C1
    have H1 := Lib.hid (bl_trans (bl_alloc (bl_refl w) _) C1)
    go_wp2_with fail
    refine (specVecOk _ _ _).mono ?_
    rintro e w2 ⟨rfl, B2⟩
    have C2 := bl_trans C1 B2
    clear hc1 hf1 C1 B2
    obtain ⟨hc2, hf2⟩ := bcell C2
    have H2 := Lib.hid (bl_trans (bl_alloc (bl_refl w) _) C2)
    go_wp2
    go_ret
    exact ⟨ret_b (by rw [E.out]), H2.out⟩

set_option maxHeartbeats 400000 in
theorem specBNear0 (a b c d x y : Int) (w : World) : Calls Try.prog 75 #[box a b c d, vec x y] w fun e w' => e = .returned (vec (max a (min x c)) (max b (min y d))) ∧ Below w.heap.size w w' := by
  have hmx := ite_max
  have hmn := ite_min
  go_enter Try.func75, Try.ntmps75
  go_wp2
  exact bodyPost_ret (v := vec (max a (min x c)) (max b (min y d))) (by simp [results, Try.results75, go_sem]) rfl ⟨rfl, by repeat (first | exact bl_refl _ | refine bl_alloc ?_ _ | refine bl_set ?_ _ _ _ (by omega))⟩

set_option maxHeartbeats 1000000 in
theorem specBTouch0 (a b c d x y r : Int) (w : World) (hb : bvB a b c d = true) (hv : vokB x y = true) (r0 : 0 ≤ r) (r1 : r ≤ 1000000) : Calls Try.prog 67 #[box a b c d, vec x y, .int .i64 r] w fun e w' => e = .returned (.bool (t0B a b c d x y r)) ∧ Below w.heap.size w w' := by
  obtain ⟨⟨⟨a1, a2⟩, b1, b2⟩, ⟨⟨c1, c2⟩, d1, d2⟩, ac, bd⟩ := (bv_iff a b c d).1 hb
  obtain ⟨⟨x1, x2⟩, y1, y2⟩ := (vok_iff x y).1 hv
  have g1 := gap_bd a1 c2 ac x1 x2
  have g2 := gap_bd b1 d2 bd y1 y2
  have n1 : -1000000 ≤ max a (min x c) ∧ max a (min x c) ≤ 1000000 := by omega
  have n2 : -1000000 ≤ max b (min y d) ∧ max b (min y d) ≤ 1000000 := by omega
  have E := Lib.hid (show t0B a b c d x y r = decide ((x - max a (min x c)) * (x - max a (min x c)) + (y - max b (min y d)) * (y - max b (min y d)) ≤ r * r) from rfl)
  have Q := Lib.hid (fun W => specBNear0 a b c d x y W)
  clear hb hv
  generalize max a (min x c) = X at *
  generalize max b (min y d) = Y at *
  have m1 := mul_bd (a := x - X) (b := x - X) (by omega) (by omega) (by omega) (by omega)
  have m2 := mul_bd (a := y - Y) (b := y - Y) (by omega) (by omega) (by omega) (by omega)
  have m3 := mul_bd (a := r) (b := r) (by omega) (by omega) (by omega) (by omega)
  go_enter Try.func67, Try.ntmps67
  go_wp2_with fail
  refine (Q.out _).mono ?_
  rintro e w1 ⟨rfl, B1⟩
  obtain ⟨hc1, hf1⟩ := bcell B1
  have l0 : w.heap.size < w1.heap.size := by have := B1.size; simp at this; omega
  have l1 : w.heap.size + 1 < w1.heap.size := by have := B1.size; simp at this; omega
  have H1 := Lib.hid (bl_trans (bl_alloc (bl_alloc (bl_refl w) _) _) B1)
  clear B1 Q
  go_wp2
  go_ret
  exact ⟨ret_b (by rw [E.out]), bl_alloc H1.out _⟩

end Go.Proofs.Ytmhmlmoohimfmaa
