/-
  More contracts of chapter 2.
-/
import Derived.Test.YtkkifikdnjajjabVec
namespace Go.Proofs.Ytkkifikdnjajjab
open Go.RowKit
open M

end Go.Proofs.Ytkkifikdnjajjab
