/-
  An input that came in as an argument: three cells; a slice of inputs that came in can be read.
-/
import Derived.Test.YtnoenjociioffabInRow
import Derived.Test.YtnoenjociioffabOpenLev
namespace Go.Proofs.Ytnoenjociioffab
open Go.ChangeShapes Go.WideShapes Go.ChangeAt Go.RowKit Go.Joins Go.Deep
open M

theorem cellsLO : Try.prog.cellsOf 4 = 1 := by kernel_rfl
theorem list_ofI {P : Nat → In → Prop} : ∀ n : Nat, (∀ i, i < n → ∃ q, P i q) → ∃ xs : List In, xs.length = n ∧ ∀ i, i < n → P i (xs.getD i iz)
  | 0, _ => ⟨[], rfl, fun _ h => absurd h (by omega)⟩
  | n + 1, h => by
    obtain ⟨xs, hl, hb⟩ := list_ofI n (fun i hi => h i (by omega))
    obtain ⟨q, hq⟩ := h n (by omega)
    refine ⟨xs ++ [q], by simp [hl], fun i hi => ?_⟩
    by_cases e : i < n
    · rw [List.getD_eq_getElem?_getD, List.getElem?_append_left (by omega), ← List.getD_eq_getElem?_getD]
      exact hb i e
    · obtain rfl : i = n := by omega
      rw [List.getD_eq_getElem?_getD, List.getElem?_append_right (by omega), hl]
      simpa using hq

end Go.Proofs.Ytnoenjociioffab
