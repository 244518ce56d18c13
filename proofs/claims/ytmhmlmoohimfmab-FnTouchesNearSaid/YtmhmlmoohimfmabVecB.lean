/-
  More contracts of chapter 2.
-/
import Derived.Test.YtmhmlmoohimfmabVec
namespace Go.Proofs.Ytmhmlmoohimfmab
open Go.RowKit
open M

end Go.Proofs.Ytmhmlmoohimfmab
