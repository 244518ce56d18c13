/-
  Plain arithmetic that the laws of chapter 1 ask: what holds of sums, products, quotients and roots. No Go text is named here.
-/
import Derived.Test.YtmhmlmoohimfmaaMath
namespace Go.Proofs.Ytmhmlmoohimfmaa
namespace M

theorem ok_neg (n : Int) : okB (-n) = okB n := by
  cases e : okB n
  · exact ok_no fun h => by rw [ok_yes (by omega)] at e; cases e
  · exact ok_yes (by have := (ok_iff n).1 e; omega)
theorem ok_false {n : Int} (h : okB n = false) : n < -2000000000 ∨ 2000000000 < n := by
  by_cases g : -2000000000 ≤ n ∧ n ≤ 2000000000
  · rw [ok_yes g] at h; cases h
  · omega

theorem add_comm (a b : Int) : addI b a = addI a b ∧ addB b a = addB a b := by
  unfold addI addB ok2
  rw [Int.add_comm b a, Bool.and_comm (okB b) (okB a)]
  exact ⟨rfl, rfl⟩
theorem add_zero {a : Int} (h : okB a = true) : addI a 0 = a ∧ addB a 0 = true := by
  have ⟨e, f⟩ := add_yes h ok_zero
  rw [e, f, Int.add_zero]
  exact ⟨cl_id ((ok_iff a).1 h), h⟩
/-- An exact sum. -/
theorem add_true {a b : Int} (h : addB a b = true) : okB a = true ∧ okB b = true ∧ okB (a + b) = true ∧ addI a b = a + b := by
  have h0 := h
  unfold addB ok2 at h
  simp only [Bool.and_eq_true] at h
  obtain ⟨⟨h1, h2⟩, h3⟩ := h
  have ⟨e, _⟩ := add_yes h1 h2
  exact ⟨h1, h2, h3, by rw [e, cl_id ((ok_iff _).1 h3)]⟩
theorem add_false {a b : Int} (h1 : okB a = true) (h2 : okB b = true) (h : addB a b = false) :
    (2000000000 < a + b ∧ addI a b = 2000000000) ∨ (a + b < -2000000000 ∧ addI a b = -2000000000) := by
  have ⟨e, f⟩ := add_yes h1 h2
  rw [f] at h
  rcases cl_three (a + b) with ⟨g, k, _⟩ | ⟨g, k, _⟩ | ⟨_, _, _, k⟩
  · exact .inl ⟨g, by rw [e, k]⟩
  · exact .inr ⟨g, by rw [e, k]⟩
  · rw [k] at h; cases h
theorem add_back {a b : Int} (h : addB a b = true) : addI (a + b) (-b) = a ∧ addB (a + b) (-b) = true := by
  obtain ⟨h1, h2, h3, _⟩ := add_true h
  have ⟨e, f⟩ := add_yes (a := a + b) (b := -b) h3 (by rw [ok_neg]; exact h2)
  rw [e, f, show a + b + -b = a from by omega]
  exact ⟨cl_id ((ok_iff a).1 h1), h1⟩
theorem cl_mono {a b : Int} (h : a ≤ b) : cl a ≤ cl b := by unfold cl; split <;> split <;> (try split) <;> (try split) <;> omega
theorem add_more {a b c : Int} (h1 : okB a = true) (h2 : okB b = true) (h : a ≤ c) (hc : c ≤ 2000000000) : addI a b ≤ addI c b := by
  have b1 := (ok_iff a).1 h1
  have ⟨e, _⟩ := add_yes h1 h2
  have ⟨f, _⟩ := add_yes (a := c) (b := b) (ok_yes (by omega)) h2
  rw [e, f]
  exact cl_mono (by omega)

theorem mul_comm (a b : Int) : mulI b a = mulI a b ∧ mulB b a = mulB a b := by
  unfold mulI mulB ok2
  rw [Int.mul_comm b a, Bool.and_comm (okB b) (okB a)]
  exact ⟨rfl, rfl⟩
theorem mul_bds (a b : Int) : -2000000000 ≤ mulI a b ∧ mulI a b ≤ 2000000000 := by
  unfold mulI
  split
  · exact cl_bd _
  · omega
theorem ok_one : okB 1000 = true := ok_yes (by omega)
theorem mul_one {a : Int} (h : okB a = true) : mulI a 1000 = a ∧ mulB a 1000 = true := by
  have ⟨e, f⟩ := mul_yes h ok_one
  rw [e, f, Int.mul_tdiv_cancel _ (by omega)]
  exact ⟨cl_id ((ok_iff a).1 h), h⟩
theorem cl_neg (n : Int) : cl (-n) = -cl n := by
  unfold cl; split <;> split <;> (try split) <;> (try split) <;> omega
theorem mul_neg {a b : Int} (h1 : okB a = true) (h2 : okB b = true) : mulI (-a) b = -mulI a b ∧ mulB (-a) b = mulB a b := by
  have ⟨e, f⟩ := mul_yes h1 h2
  have ⟨e', f'⟩ := mul_yes (a := -a) (by rw [ok_neg]; exact h1) h2
  rw [e, f, e', f', Int.neg_mul, Int.neg_tdiv, ok_neg, cl_neg]
  exact ⟨rfl, rfl⟩
/-- A product in range: its quotient q, rounded towards zero. -/
theorem mul_true {a b : Int} (h : mulB a b = true) : ∃ q : Int, mulI a b = q ∧ (-2000000000 ≤ a ∧ a ≤ 2000000000) ∧ (-2000000000 ≤ b ∧ b ≤ 2000000000) ∧ (-2000000000 ≤ q ∧ q ≤ 2000000000) ∧
    (0 ≤ a * b → 0 ≤ a * b - q * 1000 ∧ a * b - q * 1000 < 1000 ∧ 0 ≤ q) ∧ (a * b < 0 → a * b - q * 1000 ≤ 0 ∧ -1000 < a * b - q * 1000 ∧ q ≤ 0) := by
  unfold mulB ok2 at h
  simp only [Bool.and_eq_true] at h
  obtain ⟨⟨h1, h2⟩, h3⟩ := h
  have ⟨e, _⟩ := mul_yes h1 h2
  have b3 := (ok_iff _).1 h3
  refine ⟨(a * b).tdiv 1000, by rw [e, cl_id b3], (ok_iff a).1 h1, (ok_iff b).1 h2, b3, fun g => ?_, fun g => ?_⟩
  · generalize a * b = m at *
    rw [Int.tdiv_eq_ediv_of_nonneg g]
    omega
  · generalize a * b = m at *
    have : m.tdiv 1000 = -((-m) / 1000) := by
      rw [← Int.tdiv_eq_ediv_of_nonneg (by omega), Int.neg_tdiv, Int.neg_neg]
    rw [this]
    omega
theorem tdiv_mono {m n : Int} (h : m ≤ n) : m.tdiv 1000 ≤ n.tdiv 1000 := by
  by_cases g : 0 ≤ m
  · rw [Int.tdiv_eq_ediv_of_nonneg g, Int.tdiv_eq_ediv_of_nonneg (by omega)]; omega
  · have em : m.tdiv 1000 = -((-m) / 1000) := by rw [← Int.tdiv_eq_ediv_of_nonneg (by omega), Int.neg_tdiv, Int.neg_neg]
    by_cases k : 0 ≤ n
    · rw [em, Int.tdiv_eq_ediv_of_nonneg k]; omega
    · have en : n.tdiv 1000 = -((-n) / 1000) := by rw [← Int.tdiv_eq_ediv_of_nonneg (by omega), Int.neg_tdiv, Int.neg_neg]
      rw [em, en]; omega
theorem mul_more {a b c : Int} (h : mulB a b = true) (hb : 0 ≤ b) (hac : a ≤ c) (hc : c ≤ 2000000000) : mulI a b ≤ mulI c b := by
  unfold mulB ok2 at h
  simp only [Bool.and_eq_true] at h
  obtain ⟨⟨h1, h2⟩, _⟩ := h
  have b1 := (ok_iff a).1 h1
  have ⟨e, _⟩ := mul_yes h1 h2
  have ⟨f, _⟩ := mul_yes (a := c) (b := b) (ok_yes (by omega)) h2
  rw [e, f]
  exact cl_mono (tdiv_mono (Int.mul_le_mul_of_nonneg_right hac hb))
theorem mul_zero {a : Int} (h : okB a = true) : mulI a 0 = 0 ∧ mulB a 0 = true := by
  have ⟨e, f⟩ := mul_yes h ok_zero
  rw [e, f, Int.mul_zero]
  exact ⟨cl_id (by decide), ok_yes (by decide)⟩
theorem mul_small : mulI 31 (-32) = 0 ∧ mulB 31 (-32) = true := by decide

/-- A quotient in range, rounded towards zero. -/
theorem div_true {a b : Int} (h : divB a b = true) : ∃ q : Int, divI a b = q ∧ (-2000000000 ≤ a ∧ a ≤ 2000000000) ∧ (-2000000000 ≤ b ∧ b ≤ 2000000000) ∧ b ≠ 0 ∧ (-2000000000 ≤ q ∧ q ≤ 2000000000) ∧
    (0 ≤ a → 0 ≤ a * 1000 - q * b ∧ a * 1000 - q * b < max b (-b)) ∧ (a < 0 → a * 1000 - q * b ≤ 0 ∧ -(max b (-b)) < a * 1000 - q * b) ∧ (q * b).natAbs ≤ (a * 1000).natAbs := by
  unfold divB ok2 at h
  simp only [Bool.and_eq_true, Bool.not_eq_true', decide_eq_false_iff_not] at h
  obtain ⟨⟨⟨h1, h2⟩, h0⟩, h3⟩ := h
  have ⟨e, _⟩ := div_yes h1 h2 h0
  have b3 := (ok_iff _).1 h3
  have b1 := (ok_iff a).1 h1
  have b2 := (ok_iff b).1 h2
  have t := Int.tmod_add_mul_tdiv (a * 1000) b
  rw [Int.mul_comm b] at t
  have n1 : ((a * 1000).tdiv b * b).natAbs ≤ (a * 1000).natAbs := by
    rw [Int.natAbs_mul, Int.natAbs_tdiv]; exact Nat.div_mul_le_self _ _
  have lt : ((a * 1000).tmod b).natAbs < b.natAbs := by
    rw [Int.natAbs_tmod]; exact Nat.mod_lt _ (by omega)
  refine ⟨(a * 1000).tdiv b, by rw [e, cl_id b3], b1, b2, h0, b3, fun g => ?_, fun g => ?_, n1⟩
  · have p := Int.tmod_nonneg b (show 0 ≤ a * 1000 by omega)
    generalize (a * 1000).tdiv b * b = u at *
    omega
  · have p := Int.tmod_nonneg b (show 0 ≤ -(a * 1000) by omega)
    rw [Int.neg_tmod] at p
    generalize (a * 1000).tdiv b * b = u at *
    omega
theorem div_one {a : Int} (h : okB a = true) : divI a 1000 = a ∧ divB a 1000 = true := by
  have ⟨e, f⟩ := div_yes h ok_one (by omega)
  rw [e, f, Int.mul_tdiv_cancel _ (by omega)]
  exact ⟨cl_id ((ok_iff a).1 h), h⟩
theorem div_self {a : Int} (h : okB a = true) (h0 : a ≠ 0) : divI a a = 1000 ∧ divB a a = true := by
  have ⟨e, f⟩ := div_yes h h h0
  rw [e, f, Int.mul_tdiv_cancel_left _ h0]
  exact ⟨cl_id (by omega), ok_one⟩
/-- A quotient times the divisor: in range, and not larger than the dividend. -/
theorem div_mul {a b q : Int} (ha : -2000000000 ≤ a ∧ a ≤ 2000000000) (hb : -2000000000 ≤ b ∧ b ≤ 2000000000) (hq : -2000000000 ≤ q ∧ q ≤ 2000000000) (h : (q * b).natAbs ≤ (a * 1000).natAbs) :
    ∃ x : Int, mulI q b = x ∧ mulB q b = true ∧ (-2000000000 ≤ x ∧ x ≤ 2000000000) ∧ max x (-x) ≤ max a (-a) := by
  have ⟨e, f⟩ := mul_yes (ok_yes hq) (ok_yes hb)
  have n1 : ((q * b).tdiv 1000).natAbs ≤ a.natAbs := by
    rw [Int.natAbs_tdiv]
    generalize (q * b).natAbs = u at *
    have : (a * 1000).natAbs = a.natAbs * 1000 := by rw [Int.natAbs_mul]; rfl
    show u / 1000 ≤ a.natAbs
    omega
  have b3 : -2000000000 ≤ (q * b).tdiv 1000 ∧ (q * b).tdiv 1000 ≤ 2000000000 := by omega
  refine ⟨(q * b).tdiv 1000, by rw [e, cl_id b3], by rw [f, ok_yes b3], b3, ?_⟩
  generalize (q * b).tdiv 1000 = x at *
  omega

/-- The root of a number in range: what it is. -/
theorem sqr_true {a : Int} (h : inSq a = true) : ∃ s : Int, sqrI a = s ∧ (0 ≤ a ∧ a ≤ 2000000000) ∧ (0 ≤ s ∧ s < 1414214) ∧ s * s ≤ a * 1000 ∧ a * 1000 < (s + 1) * (s + 1) := by
  have b : 0 ≤ a ∧ a ≤ 2000000000 := by simpa [inSq] using h
  have ⟨e, _⟩ := sqr_yes b
  have ⟨s1, s2⟩ := sq_spec (n := a * 1000) (by omega)
  exact ⟨sq (a * 1000), e, b, sq_bd (by omega) (by omega), s1, s2⟩
theorem sqr_more {a c : Int} (ha : 0 ≤ a) (hac : a ≤ c) (hc : c ≤ 2000000000) : sqrI a ≤ sqrI c ∧ inSq c = true := by
  have ⟨e, _⟩ := sqr_yes (a := a) (by omega)
  have ⟨f, g⟩ := sqr_yes (a := c) (by omega)
  rw [e, f]
  exact ⟨sq_mono (by omega) (by omega), g⟩
theorem inSq_neg {a : Int} (h : a < 0) : inSq a = false := inSq_no (by omega)
/-- The square of a whole number of thousands, and its root. -/
theorem square {m : Int} (h0 : 0 ≤ m) (h1 : m < 1000) : mulI (1000 * m) (1000 * m) = 1000 * (m * m) ∧ mulB (1000 * m) (1000 * m) = true ∧ sqrI (1000 * (m * m)) = 1000 * m ∧ inSq (1000 * (m * m)) = true := by
  have q0 : 0 ≤ m * m := Int.mul_nonneg h0 h0
  have q1 : m * m ≤ 999 * 999 := Int.mul_le_mul (by omega) (by omega) h0 (by omega)
  have hk : okB (1000 * m) = true := ok_yes (by omega)
  have ⟨e, f⟩ := mul_yes hk hk
  have p : (1000 * m * (1000 * m)).tdiv 1000 = 1000 * (m * m) := by
    rw [show 1000 * m * (1000 * m) = 1000 * (m * m) * 1000 from by
      rw [Int.mul_assoc 1000 m, Int.mul_left_comm m 1000 m, Int.mul_comm (1000 * (m * m)) 1000]]
    exact Int.mul_tdiv_cancel _ (by omega)
  rw [e, f, p]
  have ⟨g, k⟩ := sqr_yes (a := 1000 * (m * m)) (by omega)
  rw [g, k]
  refine ⟨cl_id (by omega), ok_yes (by omega), ?_, rfl⟩
  have s : 1000 * (m * m) * 1000 = 1000 * m * (1000 * m) := by
    rw [Int.mul_assoc 1000 m, Int.mul_left_comm m 1000 m, Int.mul_comm (1000 * (m * m)) 1000]
  refine (sq_unique (by omega) (by omega) (by omega) ?_).symm
  have : (1000 * m + 1) * (1000 * m + 1) = 1000 * m * (1000 * m) + 2 * (1000 * m) + 1 := by
    rw [Int.add_mul, Int.mul_add]; omega
  omega

end M
end Go.Proofs.Ytmhmlmoohimfmaa
