/-
  What the laws of levels ask of the plain functions.
-/
import Derived.Test.YtmhmlmoohimfmaaLevMath
import Derived.Test.YtmhmlmoohimfmaaHashLaws
import Derived.Test.YtmhmlmoohimfmaaBoxLaws
namespace Go.Proofs.Ytmhmlmoohimfmaa
namespace M

theorem lf_start {i t x y : Int} {ws gs : List Bx} {p q r s b : Int} (h : lvB i t x y ws gs p q r s b = true) : lfB i t x y ws gs p q r s b x y = true := by
  have g := (lv_iff i t x y ws gs p q r s b).1 h
  simp [lfB, h, g.2.2.1, g.2.2.2.2.2.2.2.2.2]

theorem lb_val {i t x y : Int} {ws gs : List Bx} {p q r s b : Int} (h : lvB i t x y ws gs p q r s b = true) {k : Int} (hk : k = 1 ∨ k = 2) {v : Bool} (e : bnB b k = v) : lbB i t x y ws gs p q r s b k = v := by
  rcases hk with rfl | rfl <;> simp [lbB, h, inB, e]
theorem lb_zero (i t x y : Int) (ws gs : List Bx) (p q r s b : Int) : lbB i t x y ws gs p q r s b 0 = false := by simp [lbB, inB]
theorem lb_three (i t x y : Int) (ws gs : List Bx) (p q r s b : Int) : lbB i t x y ws gs p q r s b 3 = false := by simp [lbB, inB]
theorem lb_two {i t x y : Int} {ws gs : List Bx} {p q r s b k : Int} (h : lbB i t x y ws gs p q r s b k = true) : k = 1 ∨ k = 2 := by
  have : inB k 1 2 = true := by
    simp only [lbB, Bool.and_eq_true] at h
    exact h.1.2
  have : 1 ≤ k ∧ k ≤ 2 := by simpa [inB] using this
  omega
theorem lh_pos {i t x y : Int} {ws gs : List Bx} {p q r s b : Int} (h : lvB i t x y ws gs p q r s b = true) : 0 ≤ lhI i t x y ws gs p q r s b := by
  rw [lh_yes h]
  exact (hsh_bd (by omega) (by omega) _).1
theorem stp_ne {h n n' : Int} (d0 : n ≠ n') (d1 : -1000002 ≤ n - n') (d2 : n - n' ≤ 1000002) : stp h n ≠ stp h n' := by unfold stp; omega
theorem hsh_cons (h x : Int) (xs : List Int) : hsh h (x :: xs) = hsh (stp h x) xs := rfl
/-- Two lists that part in one number have two hashes. -/
theorem hsh_part {h : Int} (_h0 : 0 ≤ h) (_h1 : h < 1000003) (l : List Int) {n n' : Int} (r : List Int) (d0 : n ≠ n') (d1 : -1000002 ≤ n - n') (d2 : n - n' ≤ 1000002) : hsh h (l ++ n :: r) ≠ hsh h (l ++ n' :: r) := by
  rw [hsh_append, hsh_append, hsh_cons, hsh_cons]
  intro e
  exact stp_ne d0 d1 d2 (hsh_inj (stp_bd _ _).1 (stp_bd _ _).2 (stp_bd _ _).1 (stp_bd _ _).2 r e)
theorem lv_id {i t x y : Int} {ws gs : List Bx} {p q r s b : Int} (h : lvB i t x y ws gs p q r s b = true) : 0 ≤ i ∧ i ≤ 99 := by
  have := ((lv_iff i t x y ws gs p q r s b).1 h).1
  simpa [inB] using this
theorem lv_ticks {i t x y : Int} {ws gs : List Bx} {p q r s b : Int} (h : lvB i t x y ws gs p q r s b = true) : 1 ≤ t ∧ t ≤ 60 := by
  have := ((lv_iff i t x y ws gs p q r s b).1 h).2.1
  simpa [inB] using this
theorem lv_other {i t x y : Int} {ws gs : List Bx} {p q r s b : Int} (h : lvB i t x y ws gs p q r s b = true) {i' t' : Int} (hi : 0 ≤ i' ∧ i' ≤ 99) (ht : 1 ≤ t' ∧ t' ≤ 60) : lvB i' t' x y ws gs p q r s b = true := by
  have g := (lv_iff i t x y ws gs p q r s b).1 h
  exact (lv_iff i' t' x y ws gs p q r s b).2 ⟨by simpa [inB] using hi, by simpa [inB] using ht, g.2.2⟩
theorem lh_id {i t x y : Int} {ws gs : List Bx} {p q r s b : Int} (h : lvB i t x y ws gs p q r s b = true) {i' : Int} (hi : 0 ≤ i' ∧ i' ≤ 99) (hne : i' ≠ i) : lhI i' t x y ws gs p q r s b ≠ lhI i t x y ws gs p q r s b := by
  have b1 := lv_id h
  rw [lh_yes h, lh_yes (lv_other h hi (lv_ticks h))]
  exact hsh_part (by omega) (by omega) [] ([t, x, y, (ws.length : Int), (gs.length : Int), b] ++ flat ws ++ flat gs ++ [p, q, r, s]) hne (by omega) (by omega)
theorem lh_ticks {i t x y : Int} {ws gs : List Bx} {p q r s b : Int} (h : lvB i t x y ws gs p q r s b = true) {t' : Int} (ht : 1 ≤ t' ∧ t' ≤ 60) (hne : t' ≠ t) : lhI i t' x y ws gs p q r s b ≠ lhI i t x y ws gs p q r s b := by
  have b1 := lv_ticks h
  rw [lh_yes h, lh_yes (lv_other h (lv_id h) ht)]
  exact hsh_part (by omega) (by omega) [i] ([x, y, (ws.length : Int), (gs.length : Int), b] ++ flat ws ++ flat gs ++ [p, q, r, s]) hne (by omega) (by omega)
theorem lv_fin {i t x y : Int} {ws gs : List Bx} {p q r s b : Int} (h : lvB i t x y ws gs p q r s b = true) : bvB p q r s = true := ((lv_iff i t x y ws gs p q r s b).1 h).2.2.2.2.2.2.2.1
theorem lv_wide {i t x y : Int} {ws gs : List Bx} {p q r s b : Int} (h : lvB i t x y ws gs p q r s b = true) {r' : Int} (hr : bvB p q r' s = true) : lvB i t x y ws gs p q r' s b = true := by
  have g := (lv_iff i t x y ws gs p q r s b).1 h
  exact (lv_iff i t x y ws gs p q r' s b).2 ⟨g.1, g.2.1, g.2.2.1, g.2.2.2.1, g.2.2.2.2.1, g.2.2.2.2.2.1, g.2.2.2.2.2.2.1, hr, g.2.2.2.2.2.2.2.2⟩
theorem lh_wide {i t x y : Int} {ws gs : List Bx} {p q r s b : Int} (h : lvB i t x y ws gs p q r s b = true) {r' : Int} (hr : bvB p q r' s = true) (hne : r' ≠ r) (d1 : -1000002 ≤ r' - r) (d2 : r' - r ≤ 1000002) : lhI i t x y ws gs p q r' s b ≠ lhI i t x y ws gs p q r s b := by
  rw [lh_yes h, lh_yes (lv_wide h hr)]
  have := hsh_part (h := 17) (by omega) (by omega) ([i, t, x, y, (ws.length : Int), (gs.length : Int), b] ++ flat ws ++ flat gs ++ [p, q]) [s] hne d1 d2
  simpa [lvL] using this
theorem lv_less {i t x y : Int} {ws gs : List Bx} {p q r s b : Int} (h : lvB i t x y ws gs p q r s b = true) (k : Nat) : lvB i t x y ws (gs.take k) p q r s b = true := by
  have g := (lv_iff i t x y ws gs p q r s b).1 h
  refine (lv_iff i t x y ws (gs.take k) p q r s b).2 ⟨g.1, g.2.1, g.2.2.1, g.2.2.2.1, g.2.2.2.2.1, ?_, ?_, g.2.2.2.2.2.2.2⟩
  · rw [List.length_take]; have := g.2.2.2.2.2.1; omega
  · have t := g.2.2.2.2.2.2.1
    unfold bxs at t ⊢
    rw [List.all_eq_true] at t ⊢
    exact fun z hz => t z (List.mem_of_mem_take hz)
/-- Walls without one of them. -/
theorem lv_drop {i t x y : Int} {ws vs gs : List Bx} {p q r s b : Int} (h : lvB i t x y ws gs p q r s b = true) (hs : ∀ z ∈ vs, z ∈ ws) (hl : vs.length ≤ ws.length) : lvB i t x y vs gs p q r s b = true := by
  have g := (lv_iff i t x y ws gs p q r s b).1 h
  refine (lv_iff i t x y vs gs p q r s b).2 ⟨g.1, g.2.1, g.2.2.1, by have := g.2.2.2.1; omega, ?_, g.2.2.2.2.2.1, g.2.2.2.2.2.2.1, g.2.2.2.2.2.2.2.1, g.2.2.2.2.2.2.2.2.1, ?_⟩
  · have t := g.2.2.2.2.1
    unfold bxs at t ⊢
    rw [List.all_eq_true] at t ⊢
    exact fun z hz => t z (hs z hz)
  · have t := g.2.2.2.2.2.2.2.2.2
    unfold frB at t ⊢
    rw [List.all_eq_true] at t ⊢
    exact fun z hz => t z (hs z hz)
theorem lf_drop {i t x y : Int} {ws vs gs : List Bx} {p q r s b u v : Int} (h : lfB i t x y ws gs p q r s b u v = true) (hs : ∀ z ∈ vs, z ∈ ws) (hl : vs.length ≤ ws.length) : lvB i t x y vs gs p q r s b = true ∧ lfB i t x y vs gs p q r s b u v = true := by
  simp only [lfB, Bool.and_eq_true] at h
  have e := lv_drop h.1.1 hs hl
  refine ⟨e, ?_⟩
  have t := h.2
  have : frB vs u v = true := by
    unfold frB at t ⊢
    rw [List.all_eq_true] at t ⊢
    exact fun z hz => t z (hs z hz)
  simp [lfB, e, h.1.2, this]

end M
end Go.Proofs.Ytmhmlmoohimfmaa
