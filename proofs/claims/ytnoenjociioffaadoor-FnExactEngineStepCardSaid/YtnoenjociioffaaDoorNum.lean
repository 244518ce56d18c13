/-
  Plain arithmetic of the fixed-point numbers: no Go text is named here. It defines what each function of chapter 1 comes to, and proves the facts that the laws ask.
  What each function of chapter 1 returns, in the program and in the model, at every argument: the contracts.
  What the quotient and the square root of chapter 1 return, in the program and in the model, at every argument: the contracts.
  Plain arithmetic that the laws of chapter 1 ask: what holds of sums, products, quotients and roots. No Go text is named here.
-/
import Derived.KernelRfl
import Derived.Test.YtnoenjociioffaaDoorProg
import Derived.WalkKit
import Derived.LoopTactic
import Derived.Lib.Hide
import Derived.IntWalk
namespace Go.Proofs.YtnoenjociioffaaDoor
namespace M

/-- Between two limits. -/
def inB (n lo hi : Int) : Bool := decide (lo ≤ n ∧ n ≤ hi)
theorem inB_yes {n lo hi : Int} (h : lo ≤ n ∧ n ≤ hi) : inB n lo hi = true := by simp [inB, h]
theorem inB_no {n lo hi : Int} (h : ¬ (lo ≤ n ∧ n ≤ hi)) : inB n lo hi = false := by simp only [inB, decide_eq_false_iff_not]; exact h
/-- In the range of fixed-point numbers. -/
def okB (n : Int) : Bool := inB n (-2000000000) 2000000000
/-- The nearest number in range. -/
def cl (n : Int) : Int := if n > 2000000000 then 2000000000 else if n < -2000000000 then -2000000000 else n
theorem ok_iff (n : Int) : okB n = true ↔ -2000000000 ≤ n ∧ n ≤ 2000000000 := by simp [okB, inB]
theorem ok_yes {n : Int} (h : -2000000000 ≤ n ∧ n ≤ 2000000000) : okB n = true := (ok_iff n).2 h
theorem ok_no {n : Int} (h : ¬ (-2000000000 ≤ n ∧ n ≤ 2000000000)) : okB n = false := by
  cases e : okB n with
  | false => rfl
  | true => exact absurd ((ok_iff n).1 e) h
theorem cl_bd (n : Int) : -2000000000 ≤ cl n ∧ cl n ≤ 2000000000 := by unfold cl; split <;> (try split) <;> omega
theorem cl_id {n : Int} (h : -2000000000 ≤ n ∧ n ≤ 2000000000) : cl n = n := by
  unfold cl; rw [if_neg (by omega), if_neg (by omega)]

theorem cl_three (n : Int) : (2000000000 < n ∧ (cl n = 2000000000 ∧ okB n = false)) ∨ (n < -2000000000 ∧ (cl n = -2000000000 ∧ okB n = false)) ∨ (-2000000000 ≤ n ∧ n ≤ 2000000000 ∧ (cl n = n ∧ okB n = true)) := by
  by_cases h1 : 2000000000 < n
  · exact .inl ⟨h1, by unfold cl; rw [if_pos (by omega)], ok_no (by omega)⟩
  · by_cases h2 : n < -2000000000
    · exact .inr (.inl ⟨h2, by unfold cl; rw [if_neg (by omega), if_pos (by omega)], ok_no (by omega)⟩)
    · exact .inr (.inr ⟨by omega, by omega, cl_id (by omega), ok_yes (by omega)⟩)
theorem mul_bd {a b : Int} (a1 : -2000000000 ≤ a) (a2 : a ≤ 2000000000) (b1 : -2000000000 ≤ b) (b2 : b ≤ 2000000000) : -4000000000000000000 ≤ a * b ∧ a * b ≤ 4000000000000000000 := by
  have h : (a * b).natAbs ≤ 2000000000 * 2000000000 := by
    rw [Int.natAbs_mul]; exact Nat.mul_le_mul (by omega) (by omega)
  omega

/-- Both arguments in range. -/
def ok2 (a b : Int) : Bool := okB a && okB b
def addI (a b : Int) : Int := if ok2 a b then cl (a + b) else 0
def addB (a b : Int) : Bool := ok2 a b && okB (a + b)
def mulI (a b : Int) : Int := if ok2 a b then cl ((a * b).tdiv 1000) else 0
def mulB (a b : Int) : Bool := ok2 a b && okB ((a * b).tdiv 1000)
def endI (a : Int) : Int := if a > 0 then 2000000000 else if a < 0 then -2000000000 else 0
def divI (a b : Int) : Int := if ok2 a b then (if b = 0 then endI a else cl ((a * 1000).tdiv b)) else 0
def divB (a b : Int) : Bool := ok2 a b && (!decide (b = 0)) && okB ((a * 1000).tdiv b)

theorem add_no1 {a b : Int} (h : okB a = false) : addI a b = 0 ∧ addB a b = false := by simp [addI, addB, ok2, h]
theorem add_no2 {a b : Int} (h : okB b = false) : addI a b = 0 ∧ addB a b = false := by simp [addI, addB, ok2, h]
theorem add_yes {a b : Int} (h : okB a = true) (g : okB b = true) : addI a b = cl (a + b) ∧ addB a b = okB (a + b) := by simp [addI, addB, ok2, h, g]
theorem mul_no1 {a b : Int} (h : okB a = false) : mulI a b = 0 ∧ mulB a b = false := by simp [mulI, mulB, ok2, h]
theorem mul_no2 {a b : Int} (h : okB b = false) : mulI a b = 0 ∧ mulB a b = false := by simp [mulI, mulB, ok2, h]
theorem mul_yes {a b : Int} (h : okB a = true) (g : okB b = true) : mulI a b = cl ((a * b).tdiv 1000) ∧ mulB a b = okB ((a * b).tdiv 1000) := by simp [mulI, mulB, ok2, h, g]
theorem end_three (a : Int) : (0 < a ∧ endI a = 2000000000) ∨ (a < 0 ∧ endI a = -2000000000) ∨ (a = 0 ∧ endI a = 0) := by
  unfold endI
  by_cases h1 : 0 < a
  · exact .inl ⟨h1, by rw [if_pos h1]⟩
  · by_cases h2 : a < 0
    · exact .inr (.inl ⟨h2, by rw [if_neg (by omega), if_pos h2]⟩)
    · exact .inr (.inr ⟨by omega, by rw [if_neg (by omega), if_neg h2]⟩)
theorem div_no1 {a b : Int} (h : okB a = false) : divI a b = 0 ∧ divB a b = false := by simp [divI, divB, ok2, h]
theorem div_no2 {a b : Int} (h : okB b = false) : divI a b = 0 ∧ divB a b = false := by simp [divI, divB, ok2, h]
theorem ok_zero : okB 0 = true := ok_yes (by omega)
theorem div_zero {a : Int} (h : okB a = true) : divI a 0 = endI a ∧ divB a 0 = false := by simp [divI, divB, ok2, h, ok_zero]
theorem div_yes {a b : Int} (h : okB a = true) (g : okB b = true) (k : b ≠ 0) : divI a b = cl ((a * 1000).tdiv b) ∧ divB a b = okB ((a * 1000).tdiv b) := by simp [divI, divB, ok2, h, g, k]
theorem tdiv_bd {n b : Int} (h1 : -2000000000000 ≤ n) (h2 : n ≤ 2000000000000) : -2000000000000 ≤ n.tdiv b ∧ n.tdiv b ≤ 2000000000000 := by
  have h : (n.tdiv b).natAbs ≤ n.natAbs := by
    rw [Int.natAbs_tdiv]; exact Nat.div_le_self _ _
  omega

/-- The integer square root. -/
def isq : Nat → Nat
  | 0 => 0
  | n + 1 => if (isq n + 1) * (isq n + 1) ≤ n + 1 then isq n + 1 else isq n
theorem isq_spec (n : Nat) : isq n * isq n ≤ n ∧ n < (isq n + 1) * (isq n + 1) := by
  induction n with
  | zero => simp [isq]
  | succ n ih =>
    unfold isq
    split
    · refine ⟨by assumption, ?_⟩
      have e : (isq n + 1 + 1) * (isq n + 1 + 1) = (isq n + 1) * (isq n + 1) + 2 * isq n + 3 := by
        simp only [Nat.add_mul, Nat.mul_add]; omega
      omega
    · omega
/-- The integer square root of a number that is not negative, over the integers. -/
def sq (n : Int) : Int := (isq n.toNat : Int)
theorem sq_nonneg (n : Int) : 0 ≤ sq n := by unfold sq; omega
theorem sq_spec {n : Int} (h : 0 ≤ n) : sq n * sq n ≤ n ∧ n < (sq n + 1) * (sq n + 1) := by
  have s := isq_spec n.toNat
  have e1 : ((isq n.toNat * isq n.toNat : Nat) : Int) = sq n * sq n := by unfold sq; push_cast; rfl
  have e2 : (((isq n.toNat + 1) * (isq n.toNat + 1) : Nat) : Int) = (sq n + 1) * (sq n + 1) := by unfold sq; push_cast; rfl
  constructor
  · rw [← e1]; omega
  · rw [← e2]; omega
theorem sq_mono_lt {a b : Int} (ha : 0 ≤ a) (hb : 0 ≤ b) (h : a * a < b * b) : a < b := by
  by_cases c : a < b
  · exact c
  · have : b * b ≤ a * a := Int.mul_le_mul (by omega) (by omega) hb ha
    omega
/-- Whoever brackets n is its root. -/
theorem sq_unique {n r : Int} (h : 0 ≤ n) (hr : 0 ≤ r) (h1 : r * r ≤ n) (h2 : n < (r + 1) * (r + 1)) : r = sq n := by
  have ⟨s1, s2⟩ := sq_spec h
  have p := sq_nonneg n
  have a1 := sq_mono_lt (a := r) (b := sq n + 1) hr (by omega) (by omega)
  have a2 := sq_mono_lt (a := sq n) (b := r + 1) p (by omega) (by omega)
  omega
theorem sq_mono {a b : Int} (ha : 0 ≤ a) (h : a ≤ b) : sq a ≤ sq b := by
  have ⟨s1, _⟩ := sq_spec ha
  have ⟨_, t2⟩ := sq_spec (n := b) (by omega)
  have := sq_mono_lt (a := sq a) (b := sq b + 1) (sq_nonneg a) (by have := sq_nonneg b; omega) (by omega)
  omega
def inSq (a : Int) : Bool := decide (0 ≤ a ∧ a ≤ 2000000000)
def sqrI (a : Int) : Int := if inSq a then sq (a * 1000) else 0
theorem inSq_yes {a : Int} (h : 0 ≤ a ∧ a ≤ 2000000000) : inSq a = true := by simp [inSq, h]
theorem inSq_no {a : Int} (h : ¬ (0 ≤ a ∧ a ≤ 2000000000)) : inSq a = false := by simp only [inSq, decide_eq_false_iff_not]; exact h
theorem sq_bd {n : Int} (h : 0 ≤ n) (hn : n ≤ 2000000000000) : 0 ≤ sq n ∧ sq n < 1414214 := by
  refine ⟨sq_nonneg n, ?_⟩
  have ⟨s1, _⟩ := sq_spec h
  exact sq_mono_lt (sq_nonneg n) (by omega) (by omega)

theorem sqr_yes {a : Int} (h : 0 ≤ a ∧ a ≤ 2000000000) : sqrI a = sq (a * 1000) ∧ inSq a = true := by simp [sqrI, inSq_yes h]
theorem sqr_no {a : Int} (h : ¬ (0 ≤ a ∧ a ≤ 2000000000)) : sqrI a = 0 ∧ inSq a = false := by simp [sqrI, inSq_no h]
theorem sqr_no1 {a : Int} (h : okB a = false) : sqrI a = 0 ∧ inSq a = false := sqr_no fun g => by rw [ok_yes (by omega)] at h; cases h
theorem sqr_no2 {a : Int} (h : a < 0) : sqrI a = 0 ∧ inSq a = false := sqr_no (by omega)

/-- The program's search: what holds of its two limits. -/
structure Root (n l h : Int) : Prop where
  bd : 0 ≤ l ∧ l < h ∧ h ≤ n + 1
  lo : l * l ≤ n
  hi : n < h * h
theorem root_start {n : Int} (h0 : 0 ≤ n) : Root n 0 (n + 1) :=
  ⟨by omega, by omega, by
    have e : (n + 1) * (n + 1) = n * n + 2 * n + 1 := by simp only [Int.add_mul, Int.mul_add]; omega
    have := Int.mul_nonneg h0 h0
    omega⟩
theorem root_bd {n l h : Int} (R : Root n l h) : 0 ≤ l ∧ l < h ∧ h ≤ n + 1 := R.bd
theorem root_div {n m : Int} (h0 : 0 ≤ n) (hm : 0 < m) : 0 ≤ n / m ∧ n / m ≤ n :=
  ⟨Int.ediv_nonneg h0 (by omega), Int.ediv_le_self _ h0⟩
theorem root_up {n l h m : Int} (R : Root n l h) (m1 : 0 < m) (m2 : m < h) (c : m ≤ n / m) : Root n m h :=
  ⟨⟨by omega, m2, R.bd.2.2⟩, (Int.le_ediv_iff_mul_le m1).1 c, R.hi⟩
theorem root_down {n l h m : Int} (R : Root n l h) (m1 : l < m) (c : ¬ m ≤ n / m) (m2 : m ≤ n + 1) : Root n l m :=
  ⟨⟨R.bd.1, m1, m2⟩, R.lo, by
    have hm : 0 < m := by have := R.bd.1; omega
    have := mt (Int.le_ediv_iff_mul_le hm).2 c
    omega⟩
theorem root_end {n l h : Int} (h0 : 0 ≤ n) (R : Root n l h) (g : h - l ≤ 1) : l = sq n := by
  have b := R.bd
  have e : h = l + 1 := by omega
  subst e
  exact sq_unique h0 b.1 R.lo R.hi

/-- The model's search. -/
structure Root2 (n l h : Int) : Prop where
  bd : 0 ≤ l ∧ l ≤ h ∧ h ≤ 2000000
  lo : l * l ≤ n
  hi : n < (h + 1) * (h + 1)
theorem root2_start {n : Int} (h0 : 0 ≤ n) (hn : n ≤ 2000000000000) : Root2 n 0 2000000 := ⟨by omega, by omega, by omega⟩
theorem root2_bd {n l h : Int} (R : Root2 n l h) : 0 ≤ l ∧ l ≤ h ∧ h ≤ 2000000 := R.bd
theorem root2_up {n l h m : Int} (R : Root2 n l h) (m1 : 0 < m) (m2 : m ≤ h) (c : m * m ≤ n) : Root2 n m h :=
  ⟨⟨by omega, m2, R.bd.2.2⟩, c, R.hi⟩
theorem root2_down {n l h m : Int} (R : Root2 n l h) (m1 : l < m) (m2 : m ≤ h) (c : ¬ m * m ≤ n) : Root2 n l (m - 1) :=
  ⟨⟨R.bd.1, by omega, by have := R.bd.2.2; omega⟩, R.lo, by rw [show m - 1 + 1 = m from by omega]; omega⟩
theorem root2_end {n l h : Int} (h0 : 0 ≤ n) (R : Root2 n l h) (g : h ≤ l) : l = sq n := by
  have b := R.bd
  have e : h = l := by omega
  subst e
  exact sq_unique h0 b.1 R.lo R.hi

end M
end Go.Proofs.YtnoenjociioffaaDoor

namespace Go.Proofs.YtnoenjociioffaaDoor
open Go.RowKit
open M

theorem ret_int {k : IntKind} {a b : Int} (h : a = b) : Ending.returned (.int k a) = .returned (.int k b) := by rw [h]
theorem ret_ib {k : IntKind} {a b : Int} {c d : Bool} (h : a = b) (g : c = d) : Ending.returned (.tuple #[.int k a, .bool c]) = .returned (.tuple #[.int k b, .bool d]) := by rw [h, g]
theorem ret_b {c d : Bool} (g : c = d) : Ending.returned (.bool c) = .returned (.bool d) := by rw [g]

theorem in_any (n lo hi : Int) (w : World) : Calls Tryd.prog 64 #[.int .i64 n, .int .i64 lo, .int .i64 hi] w fun e w' => e = .returned (.bool (inB n lo hi)) ∧ w = w' := by
  by_cases h1 : lo ≤ n
  · by_cases h2 : n ≤ hi
    · have E := Lib.hid (inB_yes ⟨h1, h2⟩)
      go_enter Tryd.func64, Tryd.ntmps64
      go_wp2
      go_ret
      exact ⟨ret_b (by rw [E.out]), rfl⟩
    · have E := Lib.hid (inB_no (n := n) (lo := lo) (hi := hi) (by omega))
      go_enter Tryd.func64, Tryd.ntmps64
      go_wp2
      go_ret
      exact ⟨ret_b (by rw [E.out]), rfl⟩
  · have E := Lib.hid (inB_no (n := n) (lo := lo) (hi := hi) (by omega))
    go_enter Tryd.func64, Tryd.ntmps64
    go_wp2
    go_ret
    exact ⟨ret_b (by rw [E.out]), rfl⟩

theorem implOk (n : Int) (w : World) : Calls Tryd.prog 57 #[.int .i64 n] w fun e w' => e = .returned (.bool (okB n)) ∧ w = w' := by
  by_cases h1 : -2000000000 ≤ n
  · by_cases h2 : n ≤ 2000000000
    · have E := Lib.hid (ok_yes ⟨h1, h2⟩)
      go_enter Tryd.func57, Tryd.ntmps57
      go_wp2
      go_ret
      exact ⟨by rw [E.out]; rfl, rfl⟩
    · have E := Lib.hid (ok_no (n := n) (by omega))
      go_enter Tryd.func57, Tryd.ntmps57
      go_wp2
      go_ret
      exact ⟨by rw [E.out]; rfl, rfl⟩
  · have E := Lib.hid (ok_no (n := n) (by omega))
    go_enter Tryd.func57, Tryd.ntmps57
    go_wp2
    go_ret
    exact ⟨by rw [E.out]; rfl, rfl⟩

theorem implNearest (n : Int) (w : World) : Calls Tryd.prog 95 #[.int .i64 n] w fun e w' => e = .returned (.tuple #[.int .i64 (cl n), .bool (okB n)]) ∧ w = w' := by
  rcases cl_three n with ⟨h, E0⟩ | ⟨h, E0⟩ | ⟨h1, h2, E0⟩
  all_goals
    have E := Lib.hid E0
    clear E0
    go_enter Tryd.func95, Tryd.ntmps95
    go_wp2
    go_ret2
    exact ⟨ret_ib (by rw [E.out.1]) (by rw [E.out.2]), rfl⟩

theorem implMul (a b : Int) (w : World) : Calls Tryd.prog 58 #[.int .i64 a, .int .i64 b] w fun e w' => e = .returned (.tuple #[.int .i64 (mulI a b), .bool (mulB a b)]) ∧ w = w' := by
  cases ha : okB a
  · have E := Lib.hid (mul_no1 (b := b) ha)
    go_enter Tryd.func58, Tryd.ntmps58
    go_wp2_with (go_at_call 57; refine (implOk _ _).mono ?_; rintro e w' ⟨rfl, rfl⟩)
    go_ret2
    exact ⟨ret_ib (by rw [E.out.1]) (by rw [E.out.2]), rfl⟩
  · cases hb : okB b
    · have E := Lib.hid (mul_no2 (a := a) hb)
      go_enter Tryd.func58, Tryd.ntmps58
      go_wp2_with (go_at_call 57; refine (implOk _ _).mono ?_; rintro e w' ⟨rfl, rfl⟩)
      go_ret2
      exact ⟨ret_ib (by rw [E.out.1]) (by rw [E.out.2]), rfl⟩
    · have E := Lib.hid (mul_yes ha hb)
      obtain ⟨a1, a2⟩ := (ok_iff a).1 ha
      obtain ⟨b1, b2⟩ := (ok_iff b).1 hb
      have p := mul_bd a1 a2 b1 b2
      go_enter Tryd.func58, Tryd.ntmps58
      go_wp2_with (first | (go_at_call 57; refine (implOk _ _).mono ?_; rintro e w' ⟨rfl, rfl⟩) | (go_at_call 95; refine (implNearest _ _).mono ?_; rintro e w' ⟨rfl, rfl⟩))
      go_ret2
      exact ⟨ret_ib (by rw [E.out.1]) (by rw [E.out.2]), rfl⟩

theorem specMul0 (a b : Int) (w : World) (a1 : -2000000000 ≤ a) (a2 : a ≤ 2000000000) (b1 : -2000000000 ≤ b) (b2 : b ≤ 2000000000) : Calls Tryd.prog 122 #[.int .i64 a, .int .i64 b] w fun e w' => e = .returned (.int .i64 ((a * b).tdiv 1000)) ∧ w = w' := by
  have p := mul_bd a1 a2 b1 b2
  go_enter Tryd.func122, Tryd.ntmps122
  go_wp2
  go_ret
  exact ⟨rfl, rfl⟩

end Go.Proofs.YtnoenjociioffaaDoor

namespace Go.Proofs.YtnoenjociioffaaDoor
open Go.RowKit
open M

set_option maxHeartbeats 400000 in
theorem implRoot (n : Int) (w : World) (h0 : 0 ≤ n) (hn : n ≤ 2000000000000) : Calls Tryd.prog 113 #[.int .i64 n] w fun e w' => e = .returned (.int .i64 (sq n)) ∧ w = w' := by
  go_enter Tryd.func113, Tryd.ntmps113
  go_wp2
  go_loop [3, 4] (fun s t => ∃ l h : Int, Root n l h ∧ s = .int .i64 l ∧ t = .int .i64 h) (fun s t => (intOf t - intOf s).toNat)
  case atStart => exact ⟨0, n + 1, root_start h0, rfl, rfl⟩
  case round =>
    obtain ⟨l, h, R, rfl, rfl⟩ := hrel
    obtain ⟨l0, lh, hh⟩ := root_bd R
    by_cases g : 1 < h - l
    · have m1 : l < l + (h - l) / 2 := by omega
      have m2 : l + (h - l) / 2 < h := by omega
      have d1 := root_div (n := n) (m := l + (h - l) / 2) h0 (by omega)
      have z : ((l + (h - l) / 2) == 0) = false := beq_eq_false_iff_ne.2 (by omega)
      by_cases c : l + (h - l) / 2 ≤ n / (l + (h - l) / 2)
      · have R' := Lib.hid (root_up R (by omega) m2 c)
        go_wp2
        go_round
        case rel => exact ⟨_, _, R'.out, rfl, rfl⟩
        case measure => simp [intOf]; omega
      · have R' := Lib.hid (root_down R m1 c (by omega))
        go_wp2
        go_round
        case rel => exact ⟨_, _, R'.out, rfl, rfl⟩
        case measure => simp [intOf]; omega
    · have E := Lib.hid (root_end h0 R (by omega))
      go_wp2
      go_ret
      exact ⟨ret_int E.out, rfl⟩

set_option maxHeartbeats 400000 in
theorem specRoot (n : Int) (w : World) (h0 : 0 ≤ n) (hn : n ≤ 2000000000000) : Calls Tryd.prog 114 #[.int .i64 n] w fun e w' => e = .returned (.int .i64 (sq n)) ∧ w = w' := by
  go_enter Tryd.func114, Tryd.ntmps114
  go_wp2
  go_loop [3, 4] (fun s t => ∃ l h : Int, Root2 n l h ∧ s = .int .i64 l ∧ t = .int .i64 h) (fun s t => (intOf t - intOf s).toNat)
  case atStart => exact ⟨0, 2000000, root2_start h0 hn, rfl, rfl⟩
  case round =>
    obtain ⟨l, h, R, rfl, rfl⟩ := hrel
    obtain ⟨l0, lh, hh⟩ := root2_bd R
    by_cases g : l < h
    · have m1 : l < (l + h + 1) / 2 := by omega
      have m2 : (l + h + 1) / 2 ≤ h := by omega
      have d1 := mul_bd (a := (l + h + 1) / 2) (b := (l + h + 1) / 2) (by omega) (by omega) (by omega) (by omega)
      by_cases c : (l + h + 1) / 2 * ((l + h + 1) / 2) ≤ n
      · have R' := Lib.hid (root2_up R (by omega) m2 c)
        go_wp2
        go_round
        case rel => exact ⟨_, _, R'.out, rfl, rfl⟩
        case measure => simp [intOf]; omega
      · have R' := Lib.hid (root2_down R m1 m2 c)
        go_wp2
        go_round
        case rel => exact ⟨_, _, R'.out, rfl, rfl⟩
        case measure => simp [intOf]; omega
    · have E := Lib.hid (root2_end h0 R (by omega))
      go_wp2
      go_ret
      exact ⟨ret_int E.out, rfl⟩

end Go.Proofs.YtnoenjociioffaaDoor

namespace Go.Proofs.YtnoenjociioffaaDoor
namespace M

theorem ok_neg (n : Int) : okB (-n) = okB n := by
  cases e : okB n
  · exact ok_no fun h => by rw [ok_yes (by omega)] at e; cases e
  · exact ok_yes (by have := (ok_iff n).1 e; omega)
theorem ok_false {n : Int} (h : okB n = false) : n < -2000000000 ∨ 2000000000 < n := by
  by_cases g : -2000000000 ≤ n ∧ n ≤ 2000000000
  · rw [ok_yes g] at h; cases h
  · omega

theorem add_comm (a b : Int) : addI b a = addI a b ∧ addB b a = addB a b := by
  unfold addI addB ok2
  rw [Int.add_comm b a, Bool.and_comm (okB b) (okB a)]
  exact ⟨rfl, rfl⟩
theorem add_zero {a : Int} (h : okB a = true) : addI a 0 = a ∧ addB a 0 = true := by
  have ⟨e, f⟩ := add_yes h ok_zero
  rw [e, f, Int.add_zero]
  exact ⟨cl_id ((ok_iff a).1 h), h⟩
/-- An exact sum. -/
theorem add_true {a b : Int} (h : addB a b = true) : okB a = true ∧ okB b = true ∧ okB (a + b) = true ∧ addI a b = a + b := by
  have h0 := h
  unfold addB ok2 at h
  simp only [Bool.and_eq_true] at h
  obtain ⟨⟨h1, h2⟩, h3⟩ := h
  have ⟨e, _⟩ := add_yes h1 h2
  exact ⟨h1, h2, h3, by rw [e, cl_id ((ok_iff _).1 h3)]⟩
theorem add_false {a b : Int} (h1 : okB a = true) (h2 : okB b = true) (h : addB a b = false) :
    (2000000000 < a + b ∧ addI a b = 2000000000) ∨ (a + b < -2000000000 ∧ addI a b = -2000000000) := by
  have ⟨e, f⟩ := add_yes h1 h2
  rw [f] at h
  rcases cl_three (a + b) with ⟨g, k, _⟩ | ⟨g, k, _⟩ | ⟨_, _, _, k⟩
  · exact .inl ⟨g, by rw [e, k]⟩
  · exact .inr ⟨g, by rw [e, k]⟩
  · rw [k] at h; cases h
theorem add_back {a b : Int} (h : addB a b = true) : addI (a + b) (-b) = a ∧ addB (a + b) (-b) = true := by
  obtain ⟨h1, h2, h3, _⟩ := add_true h
  have ⟨e, f⟩ := add_yes (a := a + b) (b := -b) h3 (by rw [ok_neg]; exact h2)
  rw [e, f, show a + b + -b = a from by omega]
  exact ⟨cl_id ((ok_iff a).1 h1), h1⟩
theorem cl_mono {a b : Int} (h : a ≤ b) : cl a ≤ cl b := by unfold cl; split <;> split <;> (try split) <;> (try split) <;> omega
theorem add_more {a b c : Int} (h1 : okB a = true) (h2 : okB b = true) (h : a ≤ c) (hc : c ≤ 2000000000) : addI a b ≤ addI c b := by
  have b1 := (ok_iff a).1 h1
  have ⟨e, _⟩ := add_yes h1 h2
  have ⟨f, _⟩ := add_yes (a := c) (b := b) (ok_yes (by omega)) h2
  rw [e, f]
  exact cl_mono (by omega)

theorem mul_comm (a b : Int) : mulI b a = mulI a b ∧ mulB b a = mulB a b := by
  unfold mulI mulB ok2
  rw [Int.mul_comm b a, Bool.and_comm (okB b) (okB a)]
  exact ⟨rfl, rfl⟩
theorem mul_bds (a b : Int) : -2000000000 ≤ mulI a b ∧ mulI a b ≤ 2000000000 := by
  unfold mulI
  split
  · exact cl_bd _
  · omega
theorem ok_one : okB 1000 = true := ok_yes (by omega)
theorem mul_one {a : Int} (h : okB a = true) : mulI a 1000 = a ∧ mulB a 1000 = true := by
  have ⟨e, f⟩ := mul_yes h ok_one
  rw [e, f, Int.mul_tdiv_cancel _ (by omega)]
  exact ⟨cl_id ((ok_iff a).1 h), h⟩
theorem cl_neg (n : Int) : cl (-n) = -cl n := by
  unfold cl; split <;> split <;> (try split) <;> (try split) <;> omega
theorem mul_neg {a b : Int} (h1 : okB a = true) (h2 : okB b = true) : mulI (-a) b = -mulI a b ∧ mulB (-a) b = mulB a b := by
  have ⟨e, f⟩ := mul_yes h1 h2
  have ⟨e', f'⟩ := mul_yes (a := -a) (by rw [ok_neg]; exact h1) h2
  rw [e, f, e', f', Int.neg_mul, Int.neg_tdiv, ok_neg, cl_neg]
  exact ⟨rfl, rfl⟩
/-- A product in range: its quotient q, rounded towards zero. -/
theorem mul_true {a b : Int} (h : mulB a b = true) : ∃ q : Int, mulI a b = q ∧ (-2000000000 ≤ a ∧ a ≤ 2000000000) ∧ (-2000000000 ≤ b ∧ b ≤ 2000000000) ∧ (-2000000000 ≤ q ∧ q ≤ 2000000000) ∧
    (0 ≤ a * b → 0 ≤ a * b - q * 1000 ∧ a * b - q * 1000 < 1000 ∧ 0 ≤ q) ∧ (a * b < 0 → a * b - q * 1000 ≤ 0 ∧ -1000 < a * b - q * 1000 ∧ q ≤ 0) := by
  unfold mulB ok2 at h
  simp only [Bool.and_eq_true] at h
  obtain ⟨⟨h1, h2⟩, h3⟩ := h
  have ⟨e, _⟩ := mul_yes h1 h2
  have b3 := (ok_iff _).1 h3
  refine ⟨(a * b).tdiv 1000, by rw [e, cl_id b3], (ok_iff a).1 h1, (ok_iff b).1 h2, b3, fun g => ?_, fun g => ?_⟩
  · generalize a * b = m at *
    rw [Int.tdiv_eq_ediv_of_nonneg g]
    omega
  · generalize a * b = m at *
    have : m.tdiv 1000 = -((-m) / 1000) := by
      rw [← Int.tdiv_eq_ediv_of_nonneg (by omega), Int.neg_tdiv, Int.neg_neg]
    rw [this]
    omega
theorem tdiv_mono {m n : Int} (h : m ≤ n) : m.tdiv 1000 ≤ n.tdiv 1000 := by
  by_cases g : 0 ≤ m
  · rw [Int.tdiv_eq_ediv_of_nonneg g, Int.tdiv_eq_ediv_of_nonneg (by omega)]; omega
  · have em : m.tdiv 1000 = -((-m) / 1000) := by rw [← Int.tdiv_eq_ediv_of_nonneg (by omega), Int.neg_tdiv, Int.neg_neg]
    by_cases k : 0 ≤ n
    · rw [em, Int.tdiv_eq_ediv_of_nonneg k]; omega
    · have en : n.tdiv 1000 = -((-n) / 1000) := by rw [← Int.tdiv_eq_ediv_of_nonneg (by omega), Int.neg_tdiv, Int.neg_neg]
      rw [em, en]; omega
theorem mul_more {a b c : Int} (h : mulB a b = true) (hb : 0 ≤ b) (hac : a ≤ c) (hc : c ≤ 2000000000) : mulI a b ≤ mulI c b := by
  unfold mulB ok2 at h
  simp only [Bool.and_eq_true] at h
  obtain ⟨⟨h1, h2⟩, _⟩ := h
  have b1 := (ok_iff a).1 h1
  have ⟨e, _⟩ := mul_yes h1 h2
  have ⟨f, _⟩ := mul_yes (a := c) (b := b) (ok_yes (by omega)) h2
  rw [e, f]
  exact cl_mono (tdiv_mono (Int.mul_le_mul_of_nonneg_right hac hb))
theorem mul_zero {a : Int} (h : okB a = true) : mulI a 0 = 0 ∧ mulB a 0 = true := by
  have ⟨e, f⟩ := mul_yes h ok_zero
  rw [e, f, Int.mul_zero]
  exact ⟨cl_id (by decide), ok_yes (by decide)⟩
theorem mul_small : mulI 31 (-32) = 0 ∧ mulB 31 (-32) = true := by decide

/-- A quotient in range, rounded towards zero. -/
theorem div_true {a b : Int} (h : divB a b = true) : ∃ q : Int, divI a b = q ∧ (-2000000000 ≤ a ∧ a ≤ 2000000000) ∧ (-2000000000 ≤ b ∧ b ≤ 2000000000) ∧ b ≠ 0 ∧ (-2000000000 ≤ q ∧ q ≤ 2000000000) ∧
    (0 ≤ a → 0 ≤ a * 1000 - q * b ∧ a * 1000 - q * b < max b (-b)) ∧ (a < 0 → a * 1000 - q * b ≤ 0 ∧ -(max b (-b)) < a * 1000 - q * b) ∧ (q * b).natAbs ≤ (a * 1000).natAbs := by
  unfold divB ok2 at h
  simp only [Bool.and_eq_true, Bool.not_eq_true', decide_eq_false_iff_not] at h
  obtain ⟨⟨⟨h1, h2⟩, h0⟩, h3⟩ := h
  have ⟨e, _⟩ := div_yes h1 h2 h0
  have b3 := (ok_iff _).1 h3
  have b1 := (ok_iff a).1 h1
  have b2 := (ok_iff b).1 h2
  have t := Int.tmod_add_mul_tdiv (a * 1000) b
  rw [Int.mul_comm b] at t
  have n1 : ((a * 1000).tdiv b * b).natAbs ≤ (a * 1000).natAbs := by
    rw [Int.natAbs_mul, Int.natAbs_tdiv]; exact Nat.div_mul_le_self _ _
  have lt : ((a * 1000).tmod b).natAbs < b.natAbs := by
    rw [Int.natAbs_tmod]; exact Nat.mod_lt _ (by omega)
  refine ⟨(a * 1000).tdiv b, by rw [e, cl_id b3], b1, b2, h0, b3, fun g => ?_, fun g => ?_, n1⟩
  · have p := Int.tmod_nonneg b (show 0 ≤ a * 1000 by omega)
    generalize (a * 1000).tdiv b * b = u at *
    omega
  · have p := Int.tmod_nonneg b (show 0 ≤ -(a * 1000) by omega)
    rw [Int.neg_tmod] at p
    generalize (a * 1000).tdiv b * b = u at *
    omega
theorem div_one {a : Int} (h : okB a = true) : divI a 1000 = a ∧ divB a 1000 = true := by
  have ⟨e, f⟩ := div_yes h ok_one (by omega)
  rw [e, f, Int.mul_tdiv_cancel _ (by omega)]
  exact ⟨cl_id ((ok_iff a).1 h), h⟩
theorem div_self {a : Int} (h : okB a = true) (h0 : a ≠ 0) : divI a a = 1000 ∧ divB a a = true := by
  have ⟨e, f⟩ := div_yes h h h0
  rw [e, f, Int.mul_tdiv_cancel_left _ h0]
  exact ⟨cl_id (by omega), ok_one⟩
/-- A quotient times the divisor: in range, and not larger than the dividend. -/
theorem div_mul {a b q : Int} (ha : -2000000000 ≤ a ∧ a ≤ 2000000000) (hb : -2000000000 ≤ b ∧ b ≤ 2000000000) (hq : -2000000000 ≤ q ∧ q ≤ 2000000000) (h : (q * b).natAbs ≤ (a * 1000).natAbs) :
    ∃ x : Int, mulI q b = x ∧ mulB q b = true ∧ (-2000000000 ≤ x ∧ x ≤ 2000000000) ∧ max x (-x) ≤ max a (-a) := by
  have ⟨e, f⟩ := mul_yes (ok_yes hq) (ok_yes hb)
  have n1 : ((q * b).tdiv 1000).natAbs ≤ a.natAbs := by
    rw [Int.natAbs_tdiv]
    generalize (q * b).natAbs = u at *
    have : (a * 1000).natAbs = a.natAbs * 1000 := by rw [Int.natAbs_mul]; rfl
    show u / 1000 ≤ a.natAbs
    omega
  have b3 : -2000000000 ≤ (q * b).tdiv 1000 ∧ (q * b).tdiv 1000 ≤ 2000000000 := by omega
  refine ⟨(q * b).tdiv 1000, by rw [e, cl_id b3], by rw [f, ok_yes b3], b3, ?_⟩
  generalize (q * b).tdiv 1000 = x at *
  omega

/-- The root of a number in range: what it is. -/
theorem sqr_true {a : Int} (h : inSq a = true) : ∃ s : Int, sqrI a = s ∧ (0 ≤ a ∧ a ≤ 2000000000) ∧ (0 ≤ s ∧ s < 1414214) ∧ s * s ≤ a * 1000 ∧ a * 1000 < (s + 1) * (s + 1) := by
  have b : 0 ≤ a ∧ a ≤ 2000000000 := by simpa [inSq] using h
  have ⟨e, _⟩ := sqr_yes b
  have ⟨s1, s2⟩ := sq_spec (n := a * 1000) (by omega)
  exact ⟨sq (a * 1000), e, b, sq_bd (by omega) (by omega), s1, s2⟩
theorem sqr_more {a c : Int} (ha : 0 ≤ a) (hac : a ≤ c) (hc : c ≤ 2000000000) : sqrI a ≤ sqrI c ∧ inSq c = true := by
  have ⟨e, _⟩ := sqr_yes (a := a) (by omega)
  have ⟨f, g⟩ := sqr_yes (a := c) (by omega)
  rw [e, f]
  exact ⟨sq_mono (by omega) (by omega), g⟩
theorem inSq_neg {a : Int} (h : a < 0) : inSq a = false := inSq_no (by omega)
/-- The square of a whole number of thousands, and its root. -/
theorem square {m : Int} (h0 : 0 ≤ m) (h1 : m < 1000) : mulI (1000 * m) (1000 * m) = 1000 * (m * m) ∧ mulB (1000 * m) (1000 * m) = true ∧ sqrI (1000 * (m * m)) = 1000 * m ∧ inSq (1000 * (m * m)) = true := by
  have q0 : 0 ≤ m * m := Int.mul_nonneg h0 h0
  have q1 : m * m ≤ 999 * 999 := Int.mul_le_mul (by omega) (by omega) h0 (by omega)
  have hk : okB (1000 * m) = true := ok_yes (by omega)
  have ⟨e, f⟩ := mul_yes hk hk
  have p : (1000 * m * (1000 * m)).tdiv 1000 = 1000 * (m * m) := by
    rw [show 1000 * m * (1000 * m) = 1000 * (m * m) * 1000 from by
      rw [Int.mul_assoc 1000 m, Int.mul_left_comm m 1000 m, Int.mul_comm (1000 * (m * m)) 1000]]
    exact Int.mul_tdiv_cancel _ (by omega)
  rw [e, f, p]
  have ⟨g, k⟩ := sqr_yes (a := 1000 * (m * m)) (by omega)
  rw [g, k]
  refine ⟨cl_id (by omega), ok_yes (by omega), ?_, rfl⟩
  have s : 1000 * (m * m) * 1000 = 1000 * m * (1000 * m) := by
    rw [Int.mul_assoc 1000 m, Int.mul_left_comm m 1000 m, Int.mul_comm (1000 * (m * m)) 1000]
  refine (sq_unique (by omega) (by omega) (by omega) ?_).symm
  have : (1000 * m + 1) * (1000 * m + 1) = 1000 * m * (1000 * m) + 2 * (1000 * m) + 1 := by
    rw [Int.add_mul, Int.mul_add]; omega
  omega

end M
end Go.Proofs.YtnoenjociioffaaDoor
