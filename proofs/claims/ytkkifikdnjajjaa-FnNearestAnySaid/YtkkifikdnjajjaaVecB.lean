/-
  More contracts of chapter 2.
-/
import Derived.Test.YtkkifikdnjajjaaVec
namespace Go.Proofs.Ytkkifikdnjajjaa
open Go.RowKit
open M

end Go.Proofs.Ytkkifikdnjajjaa
