/-
  More contracts of chapter 2.
-/
import Derived.Test.YtmhmlmoohimfmaaVec
namespace Go.Proofs.Ytmhmlmoohimfmaa
open Go.RowKit
open M

end Go.Proofs.Ytmhmlmoohimfmaa
