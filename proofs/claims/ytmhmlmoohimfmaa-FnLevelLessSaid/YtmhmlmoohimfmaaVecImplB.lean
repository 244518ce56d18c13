/-
  More contracts of the program's own functions of chapter 2.
-/
import Derived.Test.YtmhmlmoohimfmaaVecImpl
namespace Go.Proofs.Ytmhmlmoohimfmaa
open Go.RowKit
open M

theorem vs_out {x y k : Int} (h : vokB x y = true) (g : okB k = true) (q : vokB (mu x k) (mu y k) = false) : vsX x y k = 0 ∧ vsY x y k = 0 ∧ vsB x y k = false := by
  obtain ⟨e1, e2, e3⟩ := vs_yes h g
  obtain ⟨r1, r2⟩ := rng_no q
  exact ⟨e1.trans r1, e2.trans r2, e3.trans q⟩
theorem vs_got {x y k : Int} (h : vokB x y = true) (g : okB k = true) (q : vokB (mu x k) (mu y k) = true) : vsX x y k = mu x k ∧ vsY x y k = mu y k ∧ vsB x y k = true := by
  obtain ⟨e1, e2, e3⟩ := vs_yes h g
  obtain ⟨r1, r2⟩ := rng_yes q
  exact ⟨e1.trans r1, e2.trans r2, e3.trans q⟩

end Go.Proofs.Ytmhmlmoohimfmaa
