/-
  Plain arithmetic of the fixed-point numbers: no Go text is named here. It defines what each function of chapter 1 comes to, and proves the facts that the laws ask.
-/
import Derived.KernelRfl
namespace Go.Proofs.Ytmhmlmoohimfmaa
namespace M

/-- Between two limits. -/
def inB (n lo hi : Int) : Bool := decide (lo ≤ n ∧ n ≤ hi)
theorem inB_yes {n lo hi : Int} (h : lo ≤ n ∧ n ≤ hi) : inB n lo hi = true := by simp [inB, h]
theorem inB_no {n lo hi : Int} (h : ¬ (lo ≤ n ∧ n ≤ hi)) : inB n lo hi = false := by simp only [inB, decide_eq_false_iff_not]; exact h
/-- In the range of fixed-point numbers. -/
def okB (n : Int) : Bool := inB n (-2000000000) 2000000000
/-- The nearest number in range. -/
def cl (n : Int) : Int := if n > 2000000000 then 2000000000 else if n < -2000000000 then -2000000000 else n
theorem ok_iff (n : Int) : okB n = true ↔ -2000000000 ≤ n ∧ n ≤ 2000000000 := by simp [okB, inB]
theorem ok_yes {n : Int} (h : -2000000000 ≤ n ∧ n ≤ 2000000000) : okB n = true := (ok_iff n).2 h
theorem ok_no {n : Int} (h : ¬ (-2000000000 ≤ n ∧ n ≤ 2000000000)) : okB n = false := by
  cases e : okB n with
  | false => rfl
  | true => exact absurd ((ok_iff n).1 e) h
theorem cl_bd (n : Int) : -2000000000 ≤ cl n ∧ cl n ≤ 2000000000 := by unfold cl; split <;> (try split) <;> omega
theorem cl_id {n : Int} (h : -2000000000 ≤ n ∧ n ≤ 2000000000) : cl n = n := by
  unfold cl; rw [if_neg (by omega), if_neg (by omega)]

theorem cl_three (n : Int) : (2000000000 < n ∧ (cl n = 2000000000 ∧ okB n = false)) ∨ (n < -2000000000 ∧ (cl n = -2000000000 ∧ okB n = false)) ∨ (-2000000000 ≤ n ∧ n ≤ 2000000000 ∧ (cl n = n ∧ okB n = true)) := by
  by_cases h1 : 2000000000 < n
  · exact .inl ⟨h1, by unfold cl; rw [if_pos (by omega)], ok_no (by omega)⟩
  · by_cases h2 : n < -2000000000
    · exact .inr (.inl ⟨h2, by unfold cl; rw [if_neg (by omega), if_pos (by omega)], ok_no (by omega)⟩)
    · exact .inr (.inr ⟨by omega, by omega, cl_id (by omega), ok_yes (by omega)⟩)
theorem mul_bd {a b : Int} (a1 : -2000000000 ≤ a) (a2 : a ≤ 2000000000) (b1 : -2000000000 ≤ b) (b2 : b ≤ 2000000000) : -4000000000000000000 ≤ a * b ∧ a * b ≤ 4000000000000000000 := by
  have h : (a * b).natAbs ≤ 2000000000 * 2000000000 := by
    rw [Int.natAbs_mul]; exact Nat.mul_le_mul (by omega) (by omega)
  omega

/-- Both arguments in range. -/
def ok2 (a b : Int) : Bool := okB a && okB b
def addI (a b : Int) : Int := if ok2 a b then cl (a + b) else 0
def addB (a b : Int) : Bool := ok2 a b && okB (a + b)
def mulI (a b : Int) : Int := if ok2 a b then cl ((a * b).tdiv 1000) else 0
def mulB (a b : Int) : Bool := ok2 a b && okB ((a * b).tdiv 1000)
def endI (a : Int) : Int := if a > 0 then 2000000000 else if a < 0 then -2000000000 else 0
def divI (a b : Int) : Int := if ok2 a b then (if b = 0 then endI a else cl ((a * 1000).tdiv b)) else 0
def divB (a b : Int) : Bool := ok2 a b && (!decide (b = 0)) && okB ((a * 1000).tdiv b)

theorem add_no1 {a b : Int} (h : okB a = false) : addI a b = 0 ∧ addB a b = false := by simp [addI, addB, ok2, h]
theorem add_no2 {a b : Int} (h : okB b = false) : addI a b = 0 ∧ addB a b = false := by simp [addI, addB, ok2, h]
theorem add_yes {a b : Int} (h : okB a = true) (g : okB b = true) : addI a b = cl (a + b) ∧ addB a b = okB (a + b) := by simp [addI, addB, ok2, h, g]
theorem mul_no1 {a b : Int} (h : okB a = false) : mulI a b = 0 ∧ mulB a b = false := by simp [mulI, mulB, ok2, h]
theorem mul_no2 {a b : Int} (h : okB b = false) : mulI a b = 0 ∧ mulB a b = false := by simp [mulI, mulB, ok2, h]
theorem mul_yes {a b : Int} (h : okB a = true) (g : okB b = true) : mulI a b = cl ((a * b).tdiv 1000) ∧ mulB a b = okB ((a * b).tdiv 1000) := by simp [mulI, mulB, ok2, h, g]
theorem end_three (a : Int) : (0 < a ∧ endI a = 2000000000) ∨ (a < 0 ∧ endI a = -2000000000) ∨ (a = 0 ∧ endI a = 0) := by
  unfold endI
  by_cases h1 : 0 < a
  · exact .inl ⟨h1, by rw [if_pos h1]⟩
  · by_cases h2 : a < 0
    · exact .inr (.inl ⟨h2, by rw [if_neg (by omega), if_pos h2]⟩)
    · exact .inr (.inr ⟨by omega, by rw [if_neg (by omega), if_neg h2]⟩)
theorem div_no1 {a b : Int} (h : okB a = false) : divI a b = 0 ∧ divB a b = false := by simp [divI, divB, ok2, h]
theorem div_no2 {a b : Int} (h : okB b = false) : divI a b = 0 ∧ divB a b = false := by simp [divI, divB, ok2, h]
theorem ok_zero : okB 0 = true := ok_yes (by omega)
theorem div_zero {a : Int} (h : okB a = true) : divI a 0 = endI a ∧ divB a 0 = false := by simp [divI, divB, ok2, h, ok_zero]
theorem div_yes {a b : Int} (h : okB a = true) (g : okB b = true) (k : b ≠ 0) : divI a b = cl ((a * 1000).tdiv b) ∧ divB a b = okB ((a * 1000).tdiv b) := by simp [divI, divB, ok2, h, g, k]
theorem tdiv_bd {n b : Int} (h1 : -2000000000000 ≤ n) (h2 : n ≤ 2000000000000) : -2000000000000 ≤ n.tdiv b ∧ n.tdiv b ≤ 2000000000000 := by
  have h : (n.tdiv b).natAbs ≤ n.natAbs := by
    rw [Int.natAbs_tdiv]; exact Nat.div_le_self _ _
  omega

/-- The integer square root. -/
def isq : Nat → Nat
  | 0 => 0
  | n + 1 => if (isq n + 1) * (isq n + 1) ≤ n + 1 then isq n + 1 else isq n
theorem isq_spec (n : Nat) : isq n * isq n ≤ n ∧ n < (isq n + 1) * (isq n + 1) := by
  induction n with
  | zero => simp [isq]
  | succ n ih =>
    unfold isq
    split
    · refine ⟨by assumption, ?_⟩
      have e : (isq n + 1 + 1) * (isq n + 1 + 1) = (isq n + 1) * (isq n + 1) + 2 * isq n + 3 := by
        simp only [Nat.add_mul, Nat.mul_add]; omega
      omega
    · omega
/-- The integer square root of a number that is not negative, over the integers. -/
def sq (n : Int) : Int := (isq n.toNat : Int)
theorem sq_nonneg (n : Int) : 0 ≤ sq n := by unfold sq; omega
theorem sq_spec {n : Int} (h : 0 ≤ n) : sq n * sq n ≤ n ∧ n < (sq n + 1) * (sq n + 1) := by
  have s := isq_spec n.toNat
  have e1 : ((isq n.toNat * isq n.toNat : Nat) : Int) = sq n * sq n := by unfold sq; push_cast; rfl
  have e2 : (((isq n.toNat + 1) * (isq n.toNat + 1) : Nat) : Int) = (sq n + 1) * (sq n + 1) := by unfold sq; push_cast; rfl
  constructor
  · rw [← e1]; omega
  · rw [← e2]; omega
theorem sq_mono_lt {a b : Int} (ha : 0 ≤ a) (hb : 0 ≤ b) (h : a * a < b * b) : a < b := by
  by_cases c : a < b
  · exact c
  · have : b * b ≤ a * a := Int.mul_le_mul (by omega) (by omega) hb ha
    omega
/-- Whoever brackets n is its root. -/
theorem sq_unique {n r : Int} (h : 0 ≤ n) (hr : 0 ≤ r) (h1 : r * r ≤ n) (h2 : n < (r + 1) * (r + 1)) : r = sq n := by
  have ⟨s1, s2⟩ := sq_spec h
  have p := sq_nonneg n
  have a1 := sq_mono_lt (a := r) (b := sq n + 1) hr (by omega) (by omega)
  have a2 := sq_mono_lt (a := sq n) (b := r + 1) p (by omega) (by omega)
  omega
theorem sq_mono {a b : Int} (ha : 0 ≤ a) (h : a ≤ b) : sq a ≤ sq b := by
  have ⟨s1, _⟩ := sq_spec ha
  have ⟨_, t2⟩ := sq_spec (n := b) (by omega)
  have := sq_mono_lt (a := sq a) (b := sq b + 1) (sq_nonneg a) (by have := sq_nonneg b; omega) (by omega)
  omega
def inSq (a : Int) : Bool := decide (0 ≤ a ∧ a ≤ 2000000000)
def sqrI (a : Int) : Int := if inSq a then sq (a * 1000) else 0
theorem inSq_yes {a : Int} (h : 0 ≤ a ∧ a ≤ 2000000000) : inSq a = true := by simp [inSq, h]
theorem inSq_no {a : Int} (h : ¬ (0 ≤ a ∧ a ≤ 2000000000)) : inSq a = false := by simp only [inSq, decide_eq_false_iff_not]; exact h
theorem sq_bd {n : Int} (h : 0 ≤ n) (hn : n ≤ 2000000000000) : 0 ≤ sq n ∧ sq n < 1414214 := by
  refine ⟨sq_nonneg n, ?_⟩
  have ⟨s1, _⟩ := sq_spec h
  exact sq_mono_lt (sq_nonneg n) (by omega) (by omega)

theorem sqr_yes {a : Int} (h : 0 ≤ a ∧ a ≤ 2000000000) : sqrI a = sq (a * 1000) ∧ inSq a = true := by simp [sqrI, inSq_yes h]
theorem sqr_no {a : Int} (h : ¬ (0 ≤ a ∧ a ≤ 2000000000)) : sqrI a = 0 ∧ inSq a = false := by simp [sqrI, inSq_no h]
theorem sqr_no1 {a : Int} (h : okB a = false) : sqrI a = 0 ∧ inSq a = false := sqr_no fun g => by rw [ok_yes (by omega)] at h; cases h
theorem sqr_no2 {a : Int} (h : a < 0) : sqrI a = 0 ∧ inSq a = false := sqr_no (by omega)

/-- The program's search: what holds of its two limits. -/
structure Root (n l h : Int) : Prop where
  bd : 0 ≤ l ∧ l < h ∧ h ≤ n + 1
  lo : l * l ≤ n
  hi : n < h * h
theorem root_start {n : Int} (h0 : 0 ≤ n) : Root n 0 (n + 1) :=
  ⟨by omega, by omega, by
    have e : (n + 1) * (n + 1) = n * n + 2 * n + 1 := by simp only [Int.add_mul, Int.mul_add]; omega
    have := Int.mul_nonneg h0 h0
    omega⟩
theorem root_bd {n l h : Int} (R : Root n l h) : 0 ≤ l ∧ l < h ∧ h ≤ n + 1 := R.bd
theorem root_div {n m : Int} (h0 : 0 ≤ n) (hm : 0 < m) : 0 ≤ n / m ∧ n / m ≤ n :=
  ⟨Int.ediv_nonneg h0 (by omega), Int.ediv_le_self _ h0⟩
theorem root_up {n l h m : Int} (R : Root n l h) (m1 : 0 < m) (m2 : m < h) (c : m ≤ n / m) : Root n m h :=
  ⟨⟨by omega, m2, R.bd.2.2⟩, (Int.le_ediv_iff_mul_le m1).1 c, R.hi⟩
theorem root_down {n l h m : Int} (R : Root n l h) (m1 : l < m) (c : ¬ m ≤ n / m) (m2 : m ≤ n + 1) : Root n l m :=
  ⟨⟨R.bd.1, m1, m2⟩, R.lo, by
    have hm : 0 < m := by have := R.bd.1; omega
    have := mt (Int.le_ediv_iff_mul_le hm).2 c
    omega⟩
theorem root_end {n l h : Int} (h0 : 0 ≤ n) (R : Root n l h) (g : h - l ≤ 1) : l = sq n := by
  have b := R.bd
  have e : h = l + 1 := by omega
  subst e
  exact sq_unique h0 b.1 R.lo R.hi

/-- The model's search. -/
structure Root2 (n l h : Int) : Prop where
  bd : 0 ≤ l ∧ l ≤ h ∧ h ≤ 2000000
  lo : l * l ≤ n
  hi : n < (h + 1) * (h + 1)
theorem root2_start {n : Int} (h0 : 0 ≤ n) (hn : n ≤ 2000000000000) : Root2 n 0 2000000 := ⟨by omega, by omega, by omega⟩
theorem root2_bd {n l h : Int} (R : Root2 n l h) : 0 ≤ l ∧ l ≤ h ∧ h ≤ 2000000 := R.bd
theorem root2_up {n l h m : Int} (R : Root2 n l h) (m1 : 0 < m) (m2 : m ≤ h) (c : m * m ≤ n) : Root2 n m h :=
  ⟨⟨by omega, m2, R.bd.2.2⟩, c, R.hi⟩
theorem root2_down {n l h m : Int} (R : Root2 n l h) (m1 : l < m) (m2 : m ≤ h) (c : ¬ m * m ≤ n) : Root2 n l (m - 1) :=
  ⟨⟨R.bd.1, by omega, by have := R.bd.2.2; omega⟩, R.lo, by rw [show m - 1 + 1 = m from by omega]; omega⟩
theorem root2_end {n l h : Int} (h0 : 0 ≤ n) (R : Root2 n l h) (g : h ≤ l) : l = sq n := by
  have b := R.bd
  have e : h = l := by omega
  subst e
  exact sq_unique h0 b.1 R.lo R.hi

end M
end Go.Proofs.Ytmhmlmoohimfmaa
