/-
  Hashes as plain functions of lists of integers.
-/
import Derived.Test.YtmhmlmoohimfmaaMath
namespace Go.Proofs.Ytmhmlmoohimfmaa
namespace M

/-- A hash continued by a number. -/
def stp (h n : Int) : Int := (8191 * h + n % 1000003 + 1) % 1000003
theorem stp_bd (h n : Int) : 0 ≤ stp h n ∧ stp h n < 1000003 := by unfold stp; omega
theorem rem_rem (n : Int) : (n.tmod 1000003 + 1000003).tmod 1000003 = n % 1000003 := by
  have h1 : -1000003 < n.tmod 1000003 := Int.lt_tmod_of_pos n (by omega)
  rw [Int.tmod_eq_emod_of_nonneg (by omega)]
  have e := @Int.tmod_eq_emod n 1000003
  by_cases c : 0 ≤ n ∨ (1000003 : Int) ∣ n
  · rw [if_pos c] at e
    omega
  · rw [if_neg c] at e
    omega
def hsh (h : Int) (xs : List Int) : Int := xs.foldl stp h
theorem hsh_bd {h : Int} (h0 : 0 ≤ h) (h1 : h < 1000003) (xs : List Int) : 0 ≤ hsh h xs ∧ hsh h xs < 1000003 := by
  unfold hsh
  induction xs generalizing h with
  | nil => exact ⟨h0, h1⟩
  | cons x xs ih => exact ih (stp_bd h x).1 (stp_bd h x).2
theorem take_snoc {xs : List Int} {k : Nat} (h : k < xs.length) : xs.take (k + 1) = xs.take k ++ [xs.getD k 0] := by
  rw [List.take_succ_eq_append_getElem h, List.getD_eq_getElem?_getD, List.getElem?_eq_getElem h]
  rfl
theorem hsh_take {h : Int} {xs : List Int} {k : Nat} (hk : k < xs.length) : hsh h (xs.take (k + 1)) = stp (hsh h (xs.take k)) (xs.getD k 0) := by
  unfold hsh
  rw [take_snoc hk, List.foldl_append]
  rfl
/-- A list that can be hashed. -/
def lstB (xs : List Int) : Bool := xs.all okB && decide (xs.length ≤ 200)
theorem all_take {xs : List Int} {k : Nat} (hk : k < xs.length) : (xs.take (k + 1)).all okB = ((xs.take k).all okB && okB (xs.getD k 0)) := by
  rw [take_snoc hk, List.all_append]
  simp
theorem lst_no1 {xs : List Int} {k : Nat} (hk : k < xs.length) (h : okB (xs.getD k 0) = false) : lstB xs = false := by
  have : xs.all okB = false := by
    rw [List.all_eq_false]
    refine ⟨xs.getD k 0, ?_, by rw [h]; simp⟩
    rw [List.getD_eq_getElem?_getD, List.getElem?_eq_getElem hk]
    exact List.getElem_mem hk
  simp [lstB, this]
theorem lst_end {xs : List Int} (h : xs.all okB = true) : lstB xs = decide (xs.length ≤ 200) := by simp [lstB, h]
/-- The hash of a list. -/
def hI (xs : List Int) : Int := if lstB xs then hsh 17 xs else -1
theorem hI_no {xs : List Int} (h : lstB xs = false) : hI xs = -1 := by simp [hI, h]
theorem hI_yes {xs : List Int} (h : lstB xs = true) : hI xs = hsh 17 xs := by simp [hI, h]
theorem hI_bd (xs : List Int) : -1 ≤ hI xs ∧ hI xs < 1000003 := by
  cases h : lstB xs
  · rw [hI_no h]; omega
  · rw [hI_yes h]; have := hsh_bd (h := 17) (by omega) (by omega) xs; omega
/-- The tag of a list. -/
def tg (k : Int) (xs : List Int) : Int := stp (hsh (stp 17 k) xs) k
def tI (k : Int) (xs : List Int) : Int := if inB k 1 9999 && lstB xs then tg k xs else -1
theorem tI_no1 {k : Int} {xs : List Int} (h : inB k 1 9999 = false) : tI k xs = -1 := by simp [tI, h]
theorem tI_no2 {k : Int} {xs : List Int} (h : lstB xs = false) : tI k xs = -1 := by simp [tI, h]
theorem tI_yes {k : Int} {xs : List Int} (h : inB k 1 9999 = true) (g : lstB xs = true) : tI k xs = tg k xs := by simp [tI, h, g]
theorem tg_bd (k : Int) (xs : List Int) : 0 ≤ tg k xs ∧ tg k xs < 1000003 := stp_bd _ _
theorem tI_bd (k : Int) (xs : List Int) : -1 ≤ tI k xs ∧ tI k xs < 1000003 := by
  unfold tI
  have := tg_bd k xs
  split <;> omega
def tC (k : Int) (xs : List Int) (t : Int) : Bool := decide (0 ≤ t) && decide (tI k xs = t)
theorem tC_no {k : Int} {xs : List Int} {t : Int} (h : t < 0) : tC k xs t = false := by
  have : ¬ 0 ≤ t := by omega
  simp [tC, this]
theorem tC_yes {k : Int} {xs : List Int} {t : Int} (h : 0 ≤ t) : tC k xs t = decide (tI k xs = t) := by simp [tC, h]

end M
end Go.Proofs.Ytmhmlmoohimfmaa
