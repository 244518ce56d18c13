/-
  Plain arithmetic of vectors: what each function of chapter 2 comes to. No Go text is named here.
-/
import Derived.Test.YtmhmlmoohimfmaaMathLaws
namespace Go.Proofs.Ytmhmlmoohimfmaa
namespace M

/-- In the range of coordinates, both. -/
def vokB (x y : Int) : Bool := inB x (-1000000) 1000000 && inB y (-1000000) 1000000
theorem vok_no1 {x y : Int} (h : inB x (-1000000) 1000000 = false) : vokB x y = false := by simp [vokB, h]
theorem vok_yes1 {x y : Int} (h : inB x (-1000000) 1000000 = true) : vokB x y = inB y (-1000000) 1000000 := by simp [vokB, h]
theorem vok_iff (x y : Int) : vokB x y = true ↔ (-1000000 ≤ x ∧ x ≤ 1000000) ∧ (-1000000 ≤ y ∧ y ≤ 1000000) := by simp [vokB, inB]
theorem vok_mk {x y : Int} (h : (-1000000 ≤ x ∧ x ≤ 1000000) ∧ (-1000000 ≤ y ∧ y ≤ 1000000)) : vokB x y = true := (vok_iff x y).2 h
theorem vok_false {x y : Int} (h : vokB x y = false) : ¬ ((-1000000 ≤ x ∧ x ≤ 1000000) ∧ (-1000000 ≤ y ∧ y ≤ 1000000)) := fun g => by rw [vok_mk g] at h; cases h
theorem vok_no {x y : Int} (h : ¬ ((-1000000 ≤ x ∧ x ≤ 1000000) ∧ (-1000000 ≤ y ∧ y ≤ 1000000))) : vokB x y = false := by
  cases e : vokB x y
  · rfl
  · exact absurd ((vok_iff x y).1 e) h
/-- A vector or, out of range, the zero vector. -/
def rngX (x y : Int) : Int := if vokB x y then x else 0
def rngY (x y : Int) : Int := if vokB x y then y else 0
theorem rng_yes {x y : Int} (h : vokB x y = true) : rngX x y = x ∧ rngY x y = y := by simp [rngX, rngY, h]
theorem rng_no {x y : Int} (h : vokB x y = false) : rngX x y = 0 ∧ rngY x y = 0 := by simp [rngX, rngY, h]

/-- The sum. -/
def vaX (x y u v : Int) : Int := if vokB x y && vokB u v then rngX (x + u) (y + v) else 0
def vaY (x y u v : Int) : Int := if vokB x y && vokB u v then rngY (x + u) (y + v) else 0
def vaB (x y u v : Int) : Bool := vokB x y && vokB u v && vokB (x + u) (y + v)
theorem va_no1 {x y u v : Int} (h : vokB x y = false) : vaX x y u v = 0 ∧ vaY x y u v = 0 ∧ vaB x y u v = false := by simp [vaX, vaY, vaB, h]
theorem va_no2 {x y u v : Int} (h : vokB u v = false) : vaX x y u v = 0 ∧ vaY x y u v = 0 ∧ vaB x y u v = false := by simp [vaX, vaY, vaB, h]
theorem va_yes {x y u v : Int} (h : vokB x y = true) (g : vokB u v = true) : vaX x y u v = rngX (x + u) (y + v) ∧ vaY x y u v = rngY (x + u) (y + v) ∧ vaB x y u v = vokB (x + u) (y + v) := by simp [vaX, vaY, vaB, h, g]

/-- A coordinate, scaled. -/
def mu (a b : Int) : Int := (a * b).tdiv 1000
def vsX (x y k : Int) : Int := if vokB x y && okB k then rngX (mu x k) (mu y k) else 0
def vsY (x y k : Int) : Int := if vokB x y && okB k then rngY (mu x k) (mu y k) else 0
def vsB (x y k : Int) : Bool := vokB x y && okB k && vokB (mu x k) (mu y k)
theorem vs_no1 {x y k : Int} (h : vokB x y = false) : vsX x y k = 0 ∧ vsY x y k = 0 ∧ vsB x y k = false := by simp [vsX, vsY, vsB, h]
theorem vs_no2 {x y k : Int} (h : okB k = false) : vsX x y k = 0 ∧ vsY x y k = 0 ∧ vsB x y k = false := by simp [vsX, vsY, vsB, h]
theorem vs_yes {x y k : Int} (h : vokB x y = true) (g : okB k = true) : vsX x y k = rngX (mu x k) (mu y k) ∧ vsY x y k = rngY (mu x k) (mu y k) ∧ vsB x y k = vokB (mu x k) (mu y k) := by simp [vsX, vsY, vsB, h, g]
theorem mu_bd {a b : Int} (a1 : -1000000 ≤ a) (a2 : a ≤ 1000000) (b1 : -2000000000 ≤ b) (b2 : b ≤ 2000000000) : -2000000000000 ≤ mu a b ∧ mu a b ≤ 2000000000000 := by
  have h : (mu a b).natAbs ≤ 1000000 * 2000000000 / 1000 := by
    unfold mu
    rw [Int.natAbs_tdiv, Int.natAbs_mul]
    exact Nat.div_le_div_right (Nat.mul_le_mul (by omega) (by omega))
  omega

/-- The scalar product. -/
def vdB (x y u v : Int) : Bool := vokB x y && vokB u v
def vdI (x y u v : Int) : Int := if vdB x y u v then mu x u + mu y v else 0
theorem vd_no1 {x y u v : Int} (h : vokB x y = false) : vdI x y u v = 0 ∧ vdB x y u v = false := by simp [vdI, vdB, h]
theorem vd_no2 {x y u v : Int} (h : vokB u v = false) : vdI x y u v = 0 ∧ vdB x y u v = false := by simp [vdI, vdB, h]
theorem vd_yes {x y u v : Int} (h : vokB x y = true) (g : vokB u v = true) : vdI x y u v = mu x u + mu y v ∧ vdB x y u v = true := by simp [vdI, vdB, h, g]

/-- The length. -/
def vl (x y : Int) : Int := sq (x * x + y * y)
def vlI (x y : Int) : Int := if vokB x y then vl x y else 0
theorem vl_no {x y : Int} (h : vokB x y = false) : vlI x y = 0 := by simp [vlI, h]
theorem vl_yes {x y : Int} (h : vokB x y = true) : vlI x y = vl x y := by simp [vlI, h]
theorem square_bd {x : Int} (x1 : -1000000 ≤ x) (x2 : x ≤ 1000000) : 0 ≤ x * x ∧ x * x ≤ 1000000000000 := by
  have h : (x * x).natAbs ≤ 1000000 * 1000000 := by rw [Int.natAbs_mul]; exact Nat.mul_le_mul (by omega) (by omega)
  have p : 0 ≤ x * x := by
    by_cases g : 0 ≤ x
    · exact Int.mul_nonneg g g
    · exact Int.mul_nonneg_of_nonpos_of_nonpos (by omega) (by omega)
  omega
theorem vl_bd {x y : Int} (x1 : -1000000 ≤ x) (x2 : x ≤ 1000000) (y1 : -1000000 ≤ y) (y2 : y ≤ 1000000) : 0 ≤ vl x y ∧ vl x y < 1414214 := by
  have a := square_bd x1 x2
  have b := square_bd y1 y2
  exact sq_bd (by omega) (by omega)

/-- The directions. -/
def dirs : List Int := [1000, 924, 707, 383, 0, -383, -707, -924, -1000, -924, -707, -383, 0, 383, 707, 924]
def dirX (d : Int) : Int := if inB d 0 15 then dirs.getD d.toNat 0 else 0
def dirY (d : Int) : Int := if inB d 0 15 then dirs.getD ((d.toNat + 12) % 16) 0 else 0
theorem dir_no {d : Int} (h : inB d 0 15 = false) : dirX d = 0 ∧ dirY d = 0 := by simp [dirX, dirY, h]
theorem dir_yes {d : Int} (h : inB d 0 15 = true) : dirX d = dirs.getD d.toNat 0 ∧ dirY d = dirs.getD ((d.toNat + 12) % 16) 0 := by simp [dirX, dirY, h]

theorem clamp_bd {a m n : Int} (a1 : -1000000 ≤ a) (a2 : a ≤ 1000000) (m1 : 0 ≤ m) (m2 : m ≤ 1000000) : -1000000000000 ≤ (a * m).tdiv n ∧ (a * m).tdiv n ≤ 1000000000000 := by
  have h : ((a * m).tdiv n).natAbs ≤ 1000000 * 1000000 := by
    rw [Int.natAbs_tdiv, Int.natAbs_mul]
    exact Nat.le_trans (Nat.div_le_self _ _) (Nat.mul_le_mul (by omega) (by omega))
  omega
/-- The clamped vector. -/
def cpB (x y m : Int) : Bool := vokB x y && inB m 0 1000000
def cpX (x y m : Int) : Int := if cpB x y m then (if vl x y ≤ m then x else (x * m).tdiv (vl x y)) else 0
def cpY (x y m : Int) : Int := if cpB x y m then (if vl x y ≤ m then y else (y * m).tdiv (vl x y)) else 0
theorem cp_no1 {x y m : Int} (h : vokB x y = false) : cpX x y m = 0 ∧ cpY x y m = 0 ∧ cpB x y m = false := by simp [cpX, cpY, cpB, h]
theorem cp_no2 {x y m : Int} (h : inB m 0 1000000 = false) : cpX x y m = 0 ∧ cpY x y m = 0 ∧ cpB x y m = false := by simp [cpX, cpY, cpB, h]
theorem cp_yes {x y m : Int} (h : vokB x y = true) (g : inB m 0 1000000 = true) : cpB x y m = true := by simp [cpB, h, g]
theorem cp_in {x y m : Int} (h : vokB x y = true) (g : inB m 0 1000000 = true) (k : vl x y ≤ m) : cpX x y m = x ∧ cpY x y m = y ∧ cpB x y m = true := by simp [cpX, cpY, cpB, h, g, k]
theorem cp_out {x y m : Int} (h : vokB x y = true) (g : inB m 0 1000000 = true) (k : ¬ vl x y ≤ m) : cpX x y m = (x * m).tdiv (vl x y) ∧ cpY x y m = (y * m).tdiv (vl x y) ∧ cpB x y m = true := by simp [cpX, cpY, cpB, h, g, k]

end M
end Go.Proofs.Ytmhmlmoohimfmaa
