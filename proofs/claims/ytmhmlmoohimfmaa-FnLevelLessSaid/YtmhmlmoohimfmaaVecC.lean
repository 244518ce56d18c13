/-
  More contracts of chapter 2.
-/
import Derived.Test.YtmhmlmoohimfmaaVecB
namespace Go.Proofs.Ytmhmlmoohimfmaa
open Go.RowKit
open M

theorem specsixteen {d : Int} (h0 : 0 ≤ d) (h1 : d ≤ 15) : d = 0 ∨ d = 1 ∨ d = 2 ∨ d = 3 ∨ d = 4 ∨ d = 5 ∨ d = 6 ∨ d = 7 ∨ d = 8 ∨ d = 9 ∨ d = 10 ∨ d = 11 ∨ d = 12 ∨ d = 13 ∨ d = 14 ∨ d = 15 := by omega

end Go.Proofs.Ytmhmlmoohimfmaa
