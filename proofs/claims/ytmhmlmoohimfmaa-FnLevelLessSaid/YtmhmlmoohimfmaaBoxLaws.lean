/-
  What the laws of chapter 3 ask of the plain arithmetic of boxes. No Go text is named here.
-/
import Derived.Test.YtmhmlmoohimfmaaBoxMath
namespace Go.Proofs.Ytmhmlmoohimfmaa
namespace M

theorem bool_false {b : Bool} (h : ¬ b = true) : b = false := by cases b <;> simp_all
theorem bh_iff (a b c d x y : Int) : bhB a b c d x y = true ↔ bvB a b c d = true ∧ vokB x y = true ∧ (a ≤ x ∧ x ≤ c) ∧ (b ≤ y ∧ y ≤ d) := by
  simp [bhB, h0B, inB, and_assoc]
theorem bh_mk {a b c d x y : Int} (h : bvB a b c d = true) (hx : a ≤ x ∧ x ≤ c) (hy : b ≤ y ∧ y ≤ d) : bhB a b c d x y = true := by
  have g := (bv_iff a b c d).1 h
  exact (bh_iff _ _ _ _ _ _).2 ⟨h, vok_mk (by omega), hx, hy⟩
theorem bh_not {a b c d x y : Int} (h : ¬ ((a ≤ x ∧ x ≤ c) ∧ (b ≤ y ∧ y ≤ d))) : bhB a b c d x y = false := bool_false fun g => h ((bh_iff _ _ _ _ _ _).1 g).2.2
theorem bv_fields {a b c d : Int} (h : bvB a b c d = true) : ((-1000000 ≤ a ∧ a ≤ 1000000) ∧ (-1000000 ≤ b ∧ b ≤ 1000000)) ∧ ((-1000000 ≤ c ∧ c ≤ 1000000) ∧ (-1000000 ≤ d ∧ d ≤ 1000000)) ∧ a ≤ c ∧ b ≤ d := (bv_iff a b c d).1 h
/-- A box and its corners, and points beyond. -/
theorem bh_corners {p q s t : Int} (h : bvB p q s t = true) : bhB p q s t p q = true ∧ bhB p q s t s t = true ∧ bhB p q s t (s + 1) t = false ∧ bhB p q s t p (q - 1) = false := by
  have g := bv_fields h
  exact ⟨bh_mk h (by omega) (by omega), bh_mk h (by omega) (by omega), bh_not (by omega), bh_not (by omega)⟩
/-- The common part. -/
theorem mt_true {a b c d p q r s : Int} (h : mtB a b c d p q r s = true) : ∃ A E C D, mtA a b c d p q r s = A ∧ mtE a b c d p q r s = E ∧ mtC a b c d p q r s = C ∧ mtD a b c d p q r s = D ∧ A = max a p ∧ E = max b q ∧ C = min c r ∧ D = min d s ∧ bvB a b c d = true ∧ bvB p q r s = true ∧ bvB A E C D = true := by
  obtain ⟨e1, e2, e3, e4⟩ := mt_yes h
  simp only [mtB, Bool.and_eq_true] at h
  exact ⟨_, _, _, _, e1, e2, e3, e4, rfl, rfl, rfl, rfl, h.1.1, h.1.2, h.2⟩
theorem mt_mk {a b c d p q r s A E C D : Int} (h1 : bvB a b c d = true) (h2 : bvB p q r s = true) (h3 : bvB A E C D = true) (eA : max a p = A) (eE : max b q = E) (eC : min c r = C) (eD : min d s = D) : mtA a b c d p q r s = A ∧ mtE a b c d p q r s = E ∧ mtC a b c d p q r s = C ∧ mtD a b c d p q r s = D ∧ mtB a b c d p q r s = true := by
  subst eA eE eC eD
  have hb : mtB a b c d p q r s = true := by simp [mtB, h1, h2, h3]
  obtain ⟨e1, e2, e3, e4⟩ := mt_yes hb
  exact ⟨e1, e2, e3, e4, hb⟩
theorem mt_in {a b c d p q r s A E C D : Int} (h1 : bvB a b c d = true) (h2 : bvB p q r s = true) (h3 : bvB A E C D = true) (eA : A = max a p) (eE : E = max b q) (eC : C = min c r) (eD : D = min d s) :
    (bhB a b c d A E = true ∧ bhB p q r s A E = true) ∧ (bhB a b c d C D = true ∧ bhB p q r s C D = true) := by
  have g1 := bv_fields h1
  have g2 := bv_fields h2
  have g3 := bv_fields h3
  exact ⟨⟨bh_mk h1 (by omega) (by omega), bh_mk h2 (by omega) (by omega)⟩, bh_mk h1 (by omega) (by omega), bh_mk h2 (by omega) (by omega)⟩
theorem mt_point {a b c d p q r s A E C D x y : Int} (h1 : bvB a b c d = true) (h2 : bvB p q r s = true) (h3 : bvB A E C D = true) (eA : A = max a p) (eE : E = max b q) (eC : C = min c r) (eD : D = min d s) :
    bhB A E C D x y = (bhB a b c d x y && bhB p q r s x y) := by
  apply Bool.eq_iff_iff.2
  simp only [Bool.and_eq_true, bh_iff, h1, h2, h3, true_and]
  constructor
  · rintro ⟨hv, hx, hy⟩
    exact ⟨⟨hv, by omega, by omega⟩, hv, by omega, by omega⟩
  · rintro ⟨⟨hv, hx, hy⟩, _, hx2, hy2⟩
    exact ⟨hv, by omega, by omega⟩
theorem mt_none {a b c d p q r s : Int} (h : mtB a b c d p q r s = false) (h1 : bvB a b c d = true) (h2 : bvB p q r s = true) : bhB a b c d p q = false ∧ bhB a b c d r s = false ∧ bhB p q r s a b = false ∧ bhB p q r s c d = false := by
  have g1 := bv_fields h1
  have g2 := bv_fields h2
  have no : ¬ (max a p ≤ min c r ∧ max b q ≤ min d s) := fun g => by
    have hv : bvB (max a p) (max b q) (min c r) (min d s) = true := (bv_iff _ _ _ _).2 (by omega)
    simp [mtB, h1, h2, hv] at h
  exact ⟨bh_not (by omega), bh_not (by omega), bh_not (by omega), bh_not (by omega)⟩
theorem mt_self {a b c d : Int} (h : bvB a b c d = true) : mtA a b c d a b c d = a ∧ mtE a b c d a b c d = b ∧ mtC a b c d a b c d = c ∧ mtD a b c d a b c d = d ∧ mtB a b c d a b c d = true :=
  mt_mk h h h (by omega) (by omega) (by omega) (by omega)
/-- The nearest point. -/
theorem nr_true {a b c d x y : Int} (h : nrB a b c d x y = true) : ∃ X Y, nrX a b c d x y = X ∧ nrY a b c d x y = Y ∧ X = max a (min x c) ∧ Y = max b (min y d) ∧ bvB a b c d = true ∧ vokB x y = true := by
  obtain ⟨e1, e2⟩ := nr_yes h
  simp only [nrB, Bool.and_eq_true] at h
  exact ⟨_, _, e1, e2, rfl, rfl, h.1, h.2⟩
theorem nr_mk {a b c d x y X Y : Int} (h1 : bvB a b c d = true) (h2 : vokB x y = true) (eX : max a (min x c) = X) (eY : max b (min y d) = Y) : nrX a b c d x y = X ∧ nrY a b c d x y = Y ∧ nrB a b c d x y = true := by
  subst eX eY
  have hb : nrB a b c d x y = true := by simp [nrB, h1, h2]
  obtain ⟨e1, e2⟩ := nr_yes hb
  exact ⟨e1, e2, hb⟩
theorem nr_again {a b c d x y X Y : Int} (h1 : bvB a b c d = true) (_h2 : vokB x y = true) (eX : X = max a (min x c)) (eY : Y = max b (min y d)) : nrX a b c d X Y = X ∧ nrY a b c d X Y = Y ∧ nrB a b c d X Y = true := by
  have g := bv_fields h1
  exact nr_mk h1 (vok_mk (by omega)) (by omega) (by omega)
/-- A square of a distance. -/
def dsq (x y u v : Int) : Int := (x - u) * (x - u) + (y - v) * (y - v)
theorem sq_mono_gap {g h : Int} (k : g.natAbs ≤ h.natAbs) : g * g ≤ h * h := sq_le_of_abs k
theorem near_le {a c x z : Int} (az : a ≤ z) (zc : z ≤ c) : (max a (min x c) - x) * (max a (min x c) - x) ≤ (z - x) * (z - x) := sq_mono_gap (by omega)
theorem nr_le {a b c d x y X Y z w : Int} (eX : X = max a (min x c)) (eY : Y = max b (min y d)) (hz : a ≤ z ∧ z ≤ c) (hw : b ≤ w ∧ w ≤ d) : dsq X Y x y ≤ dsq z w x y := by
  subst eX eY
  have p := near_le (x := x) hz.1 hz.2
  have q := near_le (x := y) hw.1 hw.2
  unfold dsq
  omega
theorem nr_has {a b c d x y X Y : Int} (h1 : bvB a b c d = true) (h2 : vokB x y = true) (eX : X = max a (min x c)) (eY : Y = max b (min y d)) : bhB a b c d X Y = true ∧ (bhB a b c d x y = true ↔ X = x ∧ Y = y) := by
  have g := bv_fields h1
  refine ⟨bh_mk h1 (by omega) (by omega), ?_⟩
  simp only [bh_iff, h1, h2, true_and]
  omega
/-- A circle. -/
theorem tc_iff (a b c d x y r : Int) : tcB a b c d x y r = true ↔ bvB a b c d = true ∧ vokB x y = true ∧ (0 ≤ r ∧ r ≤ 1000000) ∧ dsq (max a (min x c)) (max b (min y d)) x y ≤ r * r := by
  have e : ∀ u v : Int, (u - v) * (u - v) = (v - u) * (v - u) := fun u v => by rw [← Int.neg_mul_neg]; congr 1 <;> omega
  simp only [tcB, t0B, inB, Bool.and_eq_true, decide_eq_true_eq, dsq, and_assoc]
  rw [e x, e y]
theorem tc_sq {a b c d x y r X Y : Int} (h1 : bvB a b c d = true) (h2 : vokB x y = true) (r0 : 0 ≤ r) (r1 : r ≤ 1000000) (eX : X = max a (min x c)) (eY : Y = max b (min y d)) : tcB a b c d x y r = decide (dsq X Y x y ≤ r * r) := by
  subst eX eY
  apply Bool.eq_iff_iff.2
  simp only [tc_iff, h1, h2, r0, r1, true_and, decide_eq_true_eq]
theorem tc_more {a b c d x y r m : Int} (h : tcB a b c d x y r = true) (m0 : r ≤ m) (m1 : m ≤ 1000000) : tcB a b c d x y m = true := by
  obtain ⟨h1, h2, ⟨r0, r1⟩, h3⟩ := (tc_iff _ _ _ _ _ _ _).1 h
  have k : r * r ≤ m * m := sq_mono_gap (by omega)
  exact (tc_iff _ _ _ _ _ _ _).2 ⟨h1, h2, ⟨by omega, m1⟩, by omega⟩
theorem dsq_zero {x y u v : Int} (h : dsq x y u v ≤ 0) : x = u ∧ y = v := by
  have e : ∀ z : Int, 0 ≤ z * z := fun z => by
    by_cases g : 0 ≤ z
    · exact Int.mul_nonneg g g
    · exact Int.mul_nonneg_of_nonpos_of_nonpos (by omega) (by omega)
  unfold dsq at h
  have a := e (x - u)
  have b := e (y - v)
  have a0 : (x - u) * (x - u) = 0 := by omega
  have b0 : (y - v) * (y - v) = 0 := by omega
  rcases Int.mul_eq_zero.1 a0 with k | k <;> rcases Int.mul_eq_zero.1 b0 with l | l <;> omega
theorem tc_zero {a b c d x y : Int} (h1 : bvB a b c d = true) (h2 : vokB x y = true) : tcB a b c d x y 0 = bhB a b c d x y := by
  have g := bv_fields h1
  apply Bool.eq_iff_iff.2
  simp only [tc_iff, bh_iff, h1, h2, true_and]
  constructor
  · rintro ⟨_, h⟩
    obtain ⟨k, l⟩ := dsq_zero (by simpa using h)
    omega
  · intro h
    have k : max a (min x c) = x := by omega
    have l : max b (min y d) = y := by omega
    rw [k, l]
    exact ⟨by omega, by simp [dsq]⟩
theorem tc_near {a b c d x y m : Int} (h : bhB a b c d x y = true) (m0 : 0 ≤ m) (m1 : m ≤ 1000000) : tcB a b c d x y m = true := by
  have g := (bh_iff _ _ _ _ _ _).1 h
  have z : tcB a b c d x y 0 = true := (tc_zero g.1 g.2.1).trans h
  exact tc_more z m0 m1
theorem bp_all {x y j : Int} (h : vokB x y = true) (j0 : 0 ≤ j) : bvB x y x y = true ∧ bhB x y x y x y = true ∧ bhB x y x y x (y + 1 + j) = false := by
  have g := (vok_iff x y).1 h
  have hv : bvB x y x y = true := (bv_iff _ _ _ _).2 (by omega)
  exact ⟨hv, bh_mk hv (by omega) (by omega), bh_not (by omega)⟩

end M
end Go.Proofs.Ytmhmlmoohimfmaa
