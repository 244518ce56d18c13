/-
  What the quotient and the square root of chapter 1 return, in the program and in the model, at every argument: the contracts.
-/
import Derived.Test.YtmhmlmoohimfmaaFix
namespace Go.Proofs.Ytmhmlmoohimfmaa
open Go.RowKit
open M

end Go.Proofs.Ytmhmlmoohimfmaa
