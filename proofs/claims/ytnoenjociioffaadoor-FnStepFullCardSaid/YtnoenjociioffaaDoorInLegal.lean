/-
  The first input of a run that is not legal, as a plain function; what the laws ask of it.
-/
import Derived.Test.YtnoenjociioffaaDoorInS
namespace Go.Proofs.YtnoenjociioffaaDoor
namespace M

/-- How many pauses, this input counted. -/
def psI (ps : Int) (z : Bool) : Int := if z then ps + 1 else ps
/-- An input is not legal at place i. -/
def badB (t b i ps s0 : Int) (q : In) : Bool := decide (t ≤ i) || decide (3 < psI ps q.z) || !flB b s0 q.s q.p q.z
/-- The first input that is not legal, from place i on. -/
def lgF (t b : Int) : List In → Int → Int → Int → Int
  | [], _, _, _ => -1
  | q :: xs, i, ps, s0 => if badB t b i ps s0 q then i else lgF t b xs (i + 1) (psI ps q.z) q.s
def lgI (t b : Int) (xs : List In) : Int := lgF t b xs 0 0 0
/-- InputsLegal. -/
def ilI (i t x y : Int) (ws gs : List Bx) (fp fq fs fz b : Int) (xs : List In) : Int := if lvB i t x y ws gs fp fq fs fz b then lgI t b xs else 0
theorem lg_stop {t b i ps s0 : Int} {q : In} {xs : List In} (h : badB t b i ps s0 q = true) : lgF t b (q :: xs) i ps s0 = i := by simp [lgF, h]
theorem lg_go {t b i ps s0 : Int} {q : In} {xs : List In} (h : badB t b i ps s0 q = false) : lgF t b (q :: xs) i ps s0 = lgF t b xs (i + 1) (psI ps q.z) q.s := by simp [lgF, h]
theorem bad_no {t b i ps s0 : Int} {q : In} (h : badB t b i ps s0 q = false) : i < t ∧ psI ps q.z ≤ 3 ∧ flB b s0 q.s q.p q.z = true := by
  simp only [badB, Bool.or_eq_false_iff, decide_eq_false_iff_not, Bool.not_eq_false'] at h
  exact ⟨by omega, by omega, h.2⟩
theorem bad1 {t b i ps s0 : Int} {q : In} (h : t ≤ i) : badB t b i ps s0 q = true := by simp [badB, h]
theorem bad2 {t b i ps s0 : Int} {q : In} (h : 3 < psI ps q.z) : badB t b i ps s0 q = true := by simp [badB, h]
theorem bad3 {t b i ps s0 : Int} {q : In} (h : flB b s0 q.s q.p q.z = false) : badB t b i ps s0 q = true := by simp [badB, h]
theorem bad_ok {t b i ps s0 : Int} {q : In} (h1 : i < t) (h2 : psI ps q.z ≤ 3) (h3 : flB b s0 q.s q.p q.z = true) : badB t b i ps s0 q = false := by
  have a1 : ¬ t ≤ i := by omega
  have a2 : ¬ 3 < psI ps q.z := by omega
  simp [badB, a1, a2, h3]
theorem fl_val {b s0 s p : Int} {z : Bool} (h : flB b s0 s p z = true) : inV s p z = true := by
  simp only [flB, Bool.and_eq_true] at h
  exact h.1.1.1
theorem lg_bd (t b : Int) : ∀ (xs : List In) (i ps s0 : Int), lgF t b xs i ps s0 = -1 ∨ (i ≤ lgF t b xs i ps s0 ∧ lgF t b xs i ps s0 < i + xs.length)
  | [], i, ps, s0 => .inl rfl
  | q :: xs, i, ps, s0 => by
    cases h : badB t b i ps s0 q
    · rw [lg_go h]
      rcases lg_bd t b xs (i + 1) (psI ps q.z) q.s with g | g
      · exact .inl g
      · right
        simp only [List.length_cons]
        omega
    · rw [lg_stop h]
      right
      simp only [List.length_cons]
      omega
/-- The beginning of a legal run is legal. -/
theorem lg_take (t b : Int) : ∀ (xs : List In) (k : Nat) (i ps s0 : Int), 0 ≤ i → lgF t b xs i ps s0 = -1 → lgF t b (xs.take k) i ps s0 = -1
  | [], k, i, ps, s0, _, _ => by simp [lgF]
  | q :: xs, 0, i, ps, s0, _, _ => rfl
  | q :: xs, k + 1, i, ps, s0, hi, h => by
    cases g : badB t b i ps s0 q
    · rw [lg_go g] at h
      rw [List.take_succ_cons, lg_go g]
      exact lg_take t b xs k _ _ _ (by omega) h
    · rw [lg_stop g] at h
      omega
/-- What is ahead of the first input that is not legal is legal; that input itself is not. -/
theorem lg_cut (t b : Int) : ∀ (xs : List In) (j : Nat) (i ps s0 : Int), 0 ≤ i → lgF t b xs i ps s0 = i + j → lgF t b (xs.take j) i ps s0 = -1 ∧ lgF t b (xs.take (j + 1)) i ps s0 = i + j
  | [], j, i, ps, s0, hi, h => by simp only [lgF] at h; omega
  | q :: xs, 0, i, ps, s0, hi, h => by
    cases g : badB t b i ps s0 q
    · rw [lg_go g] at h
      rcases lg_bd t b xs (i + 1) (psI ps q.z) q.s with e | e <;> omega
    · exact ⟨rfl, by rw [List.take_succ_cons, lg_stop g]; omega⟩
  | q :: xs, j + 1, i, ps, s0, hi, h => by
    cases g : badB t b i ps s0 q
    · rw [lg_go g] at h
      have r := lg_cut t b xs j (i + 1) (psI ps q.z) q.s (by omega) (by omega)
      rw [List.take_succ_cons, lg_go g, List.take_succ_cons, lg_go g]
      exact ⟨r.1, by rw [r.2]; omega⟩
    · rw [lg_stop g] at h
      omega
theorem fl_zero (b : Int) {s0 : Int} (h1 : -1 ≤ s0) (h2 : s0 ≤ 1) : flB b s0 0 0 false = true := by
  have : inB (-s0) (-1) 1 = true := by simp [inB]; omega
  have g : inV 0 0 false = true := by decide
  simp [flB, g, this]
/-- A run that only rolls. -/
theorem lg_roll (t b : Int) : ∀ (n : Nat) (i ps : Int), 0 ≤ i → i ≤ t → ps ≤ 3 → lgF t b (List.replicate n iz) i ps 0 = if i + n ≤ t then -1 else t
  | 0, i, ps, _, h, _ => by
    have : i + ((0 : Nat) : Int) ≤ t := by omega
    rw [if_pos this]
    rfl
  | n + 1, i, ps, hi, h, hp => by
    rw [List.replicate_succ]
    by_cases e : i = t
    · subst e
      rw [lg_stop (bad1 (by omega)), if_neg (by omega)]
    · rw [lg_go (bad_ok (by omega) (show psI ps false ≤ 3 by simpa [psI] using hp) (fl_zero b (by omega) (by omega)))]
      have r := lg_roll t b n (i + 1) ps (by omega) (by omega) hp
      have e1 : psI ps iz.z = ps := rfl
      have e2 : iz.s = 0 := rfl
      rw [e1, e2, r]
      have e3 : (i + 1 + (n : Int) ≤ t) = (i + ((n + 1 : Nat) : Int) ≤ t) := by
        apply propext
        constructor <;> intro <;> omega
      simp only [e3]
theorem drop_at {xs : List In} {k : Nat} (h : k < xs.length) : xs.drop k = xs.getD k iz :: xs.drop (k + 1) := by
  rw [List.drop_eq_getElem_cons h]
  simp [List.getD_eq_getElem?_getD, h]

end M
end Go.Proofs.YtnoenjociioffaaDoor
