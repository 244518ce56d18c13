/-
  Hashes as plain functions of lists of integers.
  What the functions of chapter 4 return in the model, at every argument: the contracts.
  What the laws of chapter 4 ask of hashes as plain functions.
-/
import Derived.Test.YtnoenjociioffaaDoorNum
import Derived.Test.YtnoenjociioffaaDoorVecS
namespace Go.Proofs.YtnoenjociioffaaDoor
namespace M

/-- A hash continued by a number. -/
def stp (h n : Int) : Int := (8191 * h + n % 1000003 + 1) % 1000003
theorem stp_bd (h n : Int) : 0 ≤ stp h n ∧ stp h n < 1000003 := by unfold stp; omega
theorem rem_rem (n : Int) : (n.tmod 1000003 + 1000003).tmod 1000003 = n % 1000003 := by
  have h1 : -1000003 < n.tmod 1000003 := Int.lt_tmod_of_pos n (by omega)
  rw [Int.tmod_eq_emod_of_nonneg (by omega)]
  have e := @Int.tmod_eq_emod n 1000003
  by_cases c : 0 ≤ n ∨ (1000003 : Int) ∣ n
  · rw [if_pos c] at e
    omega
  · rw [if_neg c] at e
    omega
def hsh (h : Int) (xs : List Int) : Int := xs.foldl stp h
theorem hsh_bd {h : Int} (h0 : 0 ≤ h) (h1 : h < 1000003) (xs : List Int) : 0 ≤ hsh h xs ∧ hsh h xs < 1000003 := by
  unfold hsh
  induction xs generalizing h with
  | nil => exact ⟨h0, h1⟩
  | cons x xs ih => exact ih (stp_bd h x).1 (stp_bd h x).2
theorem take_snoc {xs : List Int} {k : Nat} (h : k < xs.length) : xs.take (k + 1) = xs.take k ++ [xs.getD k 0] := by
  rw [List.take_succ_eq_append_getElem h, List.getD_eq_getElem?_getD, List.getElem?_eq_getElem h]
  rfl
theorem hsh_take {h : Int} {xs : List Int} {k : Nat} (hk : k < xs.length) : hsh h (xs.take (k + 1)) = stp (hsh h (xs.take k)) (xs.getD k 0) := by
  unfold hsh
  rw [take_snoc hk, List.foldl_append]
  rfl
/-- A list that can be hashed. -/
def lstB (xs : List Int) : Bool := xs.all okB && decide (xs.length ≤ 200)
theorem all_take {xs : List Int} {k : Nat} (hk : k < xs.length) : (xs.take (k + 1)).all okB = ((xs.take k).all okB && okB (xs.getD k 0)) := by
  rw [take_snoc hk, List.all_append]
  simp
theorem lst_no1 {xs : List Int} {k : Nat} (hk : k < xs.length) (h : okB (xs.getD k 0) = false) : lstB xs = false := by
  have : xs.all okB = false := by
    rw [List.all_eq_false]
    refine ⟨xs.getD k 0, ?_, by rw [h]; simp⟩
    rw [List.getD_eq_getElem?_getD, List.getElem?_eq_getElem hk]
    exact List.getElem_mem hk
  simp [lstB, this]
theorem lst_end {xs : List Int} (h : xs.all okB = true) : lstB xs = decide (xs.length ≤ 200) := by simp [lstB, h]
/-- The hash of a list. -/
def hI (xs : List Int) : Int := if lstB xs then hsh 17 xs else -1
theorem hI_no {xs : List Int} (h : lstB xs = false) : hI xs = -1 := by simp [hI, h]
theorem hI_yes {xs : List Int} (h : lstB xs = true) : hI xs = hsh 17 xs := by simp [hI, h]
theorem hI_bd (xs : List Int) : -1 ≤ hI xs ∧ hI xs < 1000003 := by
  cases h : lstB xs
  · rw [hI_no h]; omega
  · rw [hI_yes h]; have := hsh_bd (h := 17) (by omega) (by omega) xs; omega
/-- The tag of a list. -/
def tg (k : Int) (xs : List Int) : Int := stp (hsh (stp 17 k) xs) k
def tI (k : Int) (xs : List Int) : Int := if inB k 1 9999 && lstB xs then tg k xs else -1
theorem tI_no1 {k : Int} {xs : List Int} (h : inB k 1 9999 = false) : tI k xs = -1 := by simp [tI, h]
theorem tI_no2 {k : Int} {xs : List Int} (h : lstB xs = false) : tI k xs = -1 := by simp [tI, h]
theorem tI_yes {k : Int} {xs : List Int} (h : inB k 1 9999 = true) (g : lstB xs = true) : tI k xs = tg k xs := by simp [tI, h, g]
theorem tg_bd (k : Int) (xs : List Int) : 0 ≤ tg k xs ∧ tg k xs < 1000003 := stp_bd _ _
theorem tI_bd (k : Int) (xs : List Int) : -1 ≤ tI k xs ∧ tI k xs < 1000003 := by
  unfold tI
  have := tg_bd k xs
  split <;> omega
def tC (k : Int) (xs : List Int) (t : Int) : Bool := decide (0 ≤ t) && decide (tI k xs = t)
theorem tC_no {k : Int} {xs : List Int} {t : Int} (h : t < 0) : tC k xs t = false := by
  have : ¬ 0 ≤ t := by omega
  simp [tC, this]
theorem tC_yes {k : Int} {xs : List Int} {t : Int} (h : 0 ≤ t) : tC k xs t = decide (tI k xs = t) := by simp [tC, h]

end M
end Go.Proofs.YtnoenjociioffaaDoor

namespace Go.Proofs.YtnoenjociioffaaDoor
open Go.RowKit
open M

/-- The slice at A, n elements long, reads as the integers xs. -/
def Ints (w : World) (A : Option Addr) (n : Nat) (xs : List Int) : Prop :=
  xs.length = n ∧ (0 < n → ∃ b off, A = some ⟨b, off, none⟩ ∧ b < w.heap.size ∧ ∀ k, k < n → w.cell? ⟨b, off + k, none⟩ = some (.int .i64 (xs.getD k 0)))
theorem Ints.step {w w' : World} {A : Option Addr} {n : Nat} {xs : List Int} (h : Ints w A n xs) (B : Below w.heap.size w w') : Ints w' A n xs :=
  ⟨h.1, fun hn => by
    obtain ⟨b, off, e, hb, hc⟩ := h.2 hn
    exact ⟨b, off, e, Nat.lt_of_lt_of_le hb B.size, fun k hk => (B.cell (p := ⟨b, off + k, none⟩) hb).trans (hc k hk)⟩⟩
theorem Ints.alloc {w : World} {A : Option Addr} {n : Nat} {xs : List Int} (h : Ints w A n xs) (o : Obj) : Ints (w.alloc o) A n xs := h.step (bl_alloc (bl_refl w) o)

/-- The contract of a range's test with its answer given. -/
theorem specIn' (n lo hi : Int) (b : Bool) (w : World) (h : inB n lo hi = b) : Calls Tryd.prog 64 #[.int .i64 n, .int .i64 lo, .int .i64 hi] w fun e w' => e = .returned (.bool b) ∧ w = w' := by
  subst h
  exact in_any n lo hi w

end Go.Proofs.YtnoenjociioffaaDoor

namespace Go.Proofs.YtnoenjociioffaaDoor
namespace M

theorem stp_inj {h g n : Int} (h0 : 0 ≤ h) (h1 : h < 1000003) (g0 : 0 ≤ g) (g1 : g < 1000003) (e : stp h n = stp g n) : h = g := by unfold stp at e; omega
theorem stp_num {h n d : Int} (d0 : 1 ≤ d) (d1 : d ≤ 1000002) : stp h (n + d) ≠ stp h n := by unfold stp; omega
theorem hsh_inj {h g : Int} (h0 : 0 ≤ h) (h1 : h < 1000003) (g0 : 0 ≤ g) (g1 : g < 1000003) (xs : List Int) (e : hsh h xs = hsh g xs) : h = g := by
  unfold hsh at e
  induction xs generalizing h g with
  | nil => exact e
  | cons x xs ih => exact stp_inj h0 h1 g0 g1 (ih (stp_bd h x).1 (stp_bd h x).2 (stp_bd g x).1 (stp_bd g x).2 e)
theorem hsh_set {h d : Int} (h0 : 0 ≤ h) (h1 : h < 1000003) (d0 : 1 ≤ d) (d1 : d ≤ 1000002) (xs : List Int) (k : Nat) (hk : k < xs.length) : hsh h (xs.set k (xs.getD k 0 + d)) ≠ hsh h xs := by
  induction xs generalizing h k with
  | nil => simp at hk
  | cons x xs ih =>
    cases k with
    | zero =>
      intro e
      exact stp_num (h := h) (n := x) d0 d1 (hsh_inj (stp_bd _ _).1 (stp_bd _ _).2 (stp_bd _ _).1 (stp_bd _ _).2 xs e)
    | succ k => exact ih (stp_bd h x).1 (stp_bd h x).2 k (by simpa using hk)
theorem hsh_snoc (h x : Int) (xs : List Int) : hsh h (xs ++ [x]) = stp (hsh h xs) x := by
  unfold hsh
  rw [List.foldl_append]
  rfl
theorem lst_iff (xs : List Int) : lstB xs = true ↔ (∀ x ∈ xs, okB x = true) ∧ xs.length ≤ 200 := by simp [lstB, List.all_eq_true]
theorem hI_neg {xs : List Int} (h : hI xs < 0) : lstB xs = false := by
  cases g : lstB xs
  · rfl
  · rw [hI_yes g] at h
    have := hsh_bd (h := 17) (by omega) (by omega) xs
    omega
theorem hI_pos {xs : List Int} (h : 0 ≤ hI xs) : lstB xs = true := by
  cases g : lstB xs
  · rw [hI_no g] at h; omega
  · rfl
theorem ok_at {xs : List Int} (h : lstB xs = true) {k : Nat} (hk : k < xs.length) : -2000000000 ≤ xs.getD k 0 ∧ xs.getD k 0 ≤ 2000000000 := by
  have := ((lst_iff xs).1 h).1 (xs.getD k 0) (by
    rw [List.getD_eq_getElem?_getD, List.getElem?_eq_getElem hk]
    exact List.getElem_mem hk)
  exact (ok_iff _).1 this
theorem lst_set {xs : List Int} (h : lstB xs = true) (k : Nat) {z : Int} (hz : -2000000000 ≤ z ∧ z ≤ 2000000000) : lstB (xs.set k z) = true := by
  obtain ⟨h1, h2⟩ := (lst_iff xs).1 h
  refine (lst_iff _).2 ⟨fun x hx => ?_, by simpa using h2⟩
  rcases List.mem_or_eq_of_mem_set hx with g | rfl
  · exact h1 x g
  · exact (ok_iff _).2 hz
theorem lst_snoc {xs : List Int} (h : lstB xs = true) (hl : xs.length ≠ 200) {z : Int} (hz : -2000000000 ≤ z ∧ z ≤ 2000000000) : lstB (xs ++ [z]) = true := by
  obtain ⟨h1, h2⟩ := (lst_iff xs).1 h
  refine (lst_iff _).2 ⟨fun x hx => ?_, by simp; omega⟩
  rcases List.mem_append.1 hx with g | g
  · exact h1 x g
  · rw [List.mem_singleton.1 g]; exact (ok_iff _).2 hz
/-- A changed number changes the hash. -/
theorem hash_change {xs : List Int} (h : 0 ≤ hI xs) {k : Nat} (hk : k < xs.length) {d : Int} (d0 : 1 ≤ d) (d1 : d ≤ 1000) (hz : xs.getD k 0 + d ≤ 2000000000) : hI (xs.set k (xs.getD k 0 + d)) ≠ hI xs := by
  have g := hI_pos h
  have b := ok_at g hk
  rw [hI_yes g, hI_yes (lst_set g k (by omega))]
  exact hsh_set (by omega) (by omega) d0 (by omega) xs k hk
/-- A further number continues the hash. -/
theorem hash_next {xs : List Int} (h : 0 ≤ hI xs) (hl : xs.length ≠ 200) {m : Int} (m0 : 0 ≤ m) (m1 : m ≤ 1048576) : hI (xs ++ [m]) = (8191 * hI xs + m + 1) % 1000003 := by
  have g := hI_pos h
  rw [hI_yes (lst_snoc g hl (by omega)), hI_yes g, hsh_snoc]
  unfold stp
  omega
theorem hash_none : hI [] = 17 := by decide
theorem lst_two {a b : Int} (ha : 0 ≤ a ∧ a ≤ 2000000000) (hb : 0 ≤ b ∧ b ≤ 2000000000) : lstB [a, b] = true := (lst_iff _).2 ⟨fun x hx => by
  simp at hx
  rcases hx with rfl | rfl
  · exact (ok_iff _).2 (by omega)
  · exact (ok_iff _).2 (by omega), by simp⟩
/-- The order of two numbers matters. -/
theorem hash_order {a b : Int} (a0 : 0 ≤ a) (h : a + 1 ≤ b) (b1 : b ≤ 1000) : hI [a, b] ≠ hI [b, a] := by
  rw [hI_yes (lst_two (by omega) (by omega)), hI_yes (lst_two (by omega) (by omega))]
  show stp (stp 17 a) b ≠ stp (stp 17 b) a
  unfold stp
  omega
theorem tI_pos {k : Int} {xs : List Int} (h : 0 ≤ tI k xs) : inB k 1 9999 = true ∧ lstB xs = true := by
  cases g : inB k 1 9999
  · rw [tI_no1 g] at h; omega
  · cases q : lstB xs
    · rw [tI_no2 q] at h; omega
    · exact ⟨rfl, rfl⟩
theorem tC_same {k : Int} {xs : List Int} (h : 0 ≤ tI k xs) : tC k xs (tI k xs) = true := by rw [tC_yes h]; simp
theorem tC_other {k : Int} {xs : List Int} {t : Int} (h : tI k xs ≠ t) : tC k xs t = false := by simp [tC, h]
/-- A changed number changes the tag. -/
theorem tag_change {q : Int} {xs : List Int} (h : 0 ≤ tI q xs) {k : Nat} (hk : k < xs.length) {d : Int} (d0 : 1 ≤ d) (d1 : d ≤ 1000) : tC q (xs.set k (xs.getD k 0 + d)) (tI q xs) = false := by
  obtain ⟨g, l⟩ := tI_pos h
  refine tC_other fun e => ?_
  rw [← e] at h
  obtain ⟨_, l'⟩ := tI_pos h
  rw [tI_yes g l, tI_yes g l'] at e
  have b := ok_at l hk
  have s := stp_bd 17 q
  exact hsh_set s.1 s.2 d0 (by omega) xs k hk (stp_inj (hsh_bd s.1 s.2 _).1 (hsh_bd s.1 s.2 _).2 (hsh_bd s.1 s.2 _).1 (hsh_bd s.1 s.2 _).2 e)
theorem tag_next {k : Int} {xs : List Int} {j : Int} (_h : 0 ≤ tI k xs) (j0 : 0 ≤ j) (j1 : j < 1000) : tC k xs ((tI k xs + 1 + j) % 1000003) = false := by
  have := tI_bd k xs
  exact tC_other (by omega)
theorem tag_zero (xs : List Int) : tI 0 xs = -1 := tI_no1 (by decide)
theorem tag_far (xs : List Int) : tI 10000 xs = -1 := tI_no1 (by decide)
theorem tag_neg (k : Int) (xs : List Int) : tC k xs (-1) = false := tC_no (by omega)
theorem lst_nil : lstB [] = true := by decide
/-- Different keys give different tags of nothing. -/
theorem tag_key {a b : Int} (ha : inB a 1 9999 = true) (hb : inB b 1 9999 = true) (h : a ≠ b) : tI a [] ≠ tI b [] := by
  rw [tI_yes ha lst_nil, tI_yes hb lst_nil]
  have ha : 1 ≤ a ∧ a ≤ 9999 := by simpa [inB] using ha
  have hb : 1 ≤ b ∧ b ≤ 9999 := by simpa [inB] using hb
  show stp (stp 17 a) a ≠ stp (stp 17 b) b
  unfold stp
  omega

end M
end Go.Proofs.YtnoenjociioffaaDoor
