/-
  Plain arithmetic of boxes: what each function of chapter 3 comes to. No Go text is named here.
-/
import Derived.Test.YtmhmlmoohimfmaaVecLaws
namespace Go.Proofs.Ytmhmlmoohimfmaa
namespace M

theorem ite_max (x y : Int) : (if x < y then y else x) = max x y := by split <;> omega
theorem ite_min (x y : Int) : (if y < x then y else x) = min x y := by split <;> omega

/-- A valid box. -/
def bvB (a b c d : Int) : Bool := vokB a b && vokB c d && decide (a ≤ c) && decide (b ≤ d)
theorem bv_no1 {a b c d : Int} (h : vokB a b = false) : bvB a b c d = false := by simp [bvB, h]
theorem bv_no2 {a b c d : Int} (h : vokB c d = false) : bvB a b c d = false := by simp [bvB, h]
theorem bv_no3 {a b c d : Int} (h : ¬ a ≤ c) : bvB a b c d = false := by
  unfold bvB; rw [decide_eq_false h, Bool.and_false, Bool.false_and]
theorem bv_yes {a b c d : Int} (h : vokB a b = true) (g : vokB c d = true) (k : a ≤ c) : bvB a b c d = decide (b ≤ d) := by simp [bvB, h, g, k]
theorem bv_iff (a b c d : Int) : bvB a b c d = true ↔ ((-1000000 ≤ a ∧ a ≤ 1000000) ∧ (-1000000 ≤ b ∧ b ≤ 1000000)) ∧ ((-1000000 ≤ c ∧ c ≤ 1000000) ∧ (-1000000 ≤ d ∧ d ≤ 1000000)) ∧ a ≤ c ∧ b ≤ d := by
  simp only [bvB, Bool.and_eq_true, vok_iff, decide_eq_true_eq]
  constructor
  · rintro ⟨⟨⟨h1, h2⟩, h3⟩, h4⟩; exact ⟨h1, h2, h3, h4⟩
  · rintro ⟨h1, h2, h3, h4⟩; exact ⟨⟨⟨h1, h2⟩, h3⟩, h4⟩
/-- A point between the sides. -/
def h0B (a b c d x y : Int) : Bool := inB x a c && inB y b d
theorem h0_no {a b c d x y : Int} (h : inB x a c = false) : h0B a b c d x y = false := by simp [h0B, h]
theorem h0_yes {a b c d x y : Int} (h : inB x a c = true) : h0B a b c d x y = inB y b d := by simp [h0B, h]
def bhB (a b c d x y : Int) : Bool := bvB a b c d && vokB x y && h0B a b c d x y
theorem bh_no1 {a b c d x y : Int} (h : bvB a b c d = false) : bhB a b c d x y = false := by simp [bhB, h]
theorem bh_no2 {a b c d x y : Int} (h : vokB x y = false) : bhB a b c d x y = false := by simp [bhB, h]
theorem bh_yes {a b c d x y : Int} (h : bvB a b c d = true) (g : vokB x y = true) : bhB a b c d x y = h0B a b c d x y := by simp [bhB, h, g]
/-- The common part. -/
def mtB (a b c d p q r s : Int) : Bool := bvB a b c d && bvB p q r s && bvB (max a p) (max b q) (min c r) (min d s)
def mtA (a b c d p q r s : Int) : Int := if mtB a b c d p q r s then max a p else 0
def mtE (a b c d p q r s : Int) : Int := if mtB a b c d p q r s then max b q else 0
def mtC (a b c d p q r s : Int) : Int := if mtB a b c d p q r s then min c r else 0
def mtD (a b c d p q r s : Int) : Int := if mtB a b c d p q r s then min d s else 0
theorem mt_no {a b c d p q r s : Int} (h : mtB a b c d p q r s = false) : mtA a b c d p q r s = 0 ∧ mtE a b c d p q r s = 0 ∧ mtC a b c d p q r s = 0 ∧ mtD a b c d p q r s = 0 := by simp [mtA, mtE, mtC, mtD, h]
theorem mt_yes {a b c d p q r s : Int} (h : mtB a b c d p q r s = true) : mtA a b c d p q r s = max a p ∧ mtE a b c d p q r s = max b q ∧ mtC a b c d p q r s = min c r ∧ mtD a b c d p q r s = min d s := by simp [mtA, mtE, mtC, mtD, h]
/-- The nearest point. -/
def nrB (a b c d x y : Int) : Bool := bvB a b c d && vokB x y
def nrX (a b c d x y : Int) : Int := if nrB a b c d x y then max a (min x c) else 0
def nrY (a b c d x y : Int) : Int := if nrB a b c d x y then max b (min y d) else 0
theorem nr_no {a b c d x y : Int} (h : nrB a b c d x y = false) : nrX a b c d x y = 0 ∧ nrY a b c d x y = 0 := by simp [nrX, nrY, h]
theorem nr_yes {a b c d x y : Int} (h : nrB a b c d x y = true) : nrX a b c d x y = max a (min x c) ∧ nrY a b c d x y = max b (min y d) := by simp [nrX, nrY, h]
/-- A circle touches a box. -/
def t0B (a b c d x y r : Int) : Bool := decide ((x - max a (min x c)) * (x - max a (min x c)) + (y - max b (min y d)) * (y - max b (min y d)) ≤ r * r)
def tcB (a b c d x y r : Int) : Bool := bvB a b c d && vokB x y && inB r 0 1000000 && t0B a b c d x y r
theorem tc_no1 {a b c d x y r : Int} (h : bvB a b c d = false) : tcB a b c d x y r = false := by simp [tcB, h]
theorem tc_no2 {a b c d x y r : Int} (h : vokB x y = false) : tcB a b c d x y r = false := by simp [tcB, h]
theorem tc_no3 {a b c d x y r : Int} (h : inB r 0 1000000 = false) : tcB a b c d x y r = false := by simp [tcB, h]
theorem tc_yes {a b c d x y r : Int} (h : bvB a b c d = true) (g : vokB x y = true) (k : inB r 0 1000000 = true) : tcB a b c d x y r = t0B a b c d x y r := by simp [tcB, h, g, k]
theorem gap_bd {a c x : Int} (a1 : -1000000 ≤ a) (c2 : c ≤ 1000000) (ac : a ≤ c) (x1 : -1000000 ≤ x) (x2 : x ≤ 1000000) : -2000000 ≤ x - max a (min x c) ∧ x - max a (min x c) ≤ 2000000 := by omega

end M
end Go.Proofs.Ytmhmlmoohimfmaa
