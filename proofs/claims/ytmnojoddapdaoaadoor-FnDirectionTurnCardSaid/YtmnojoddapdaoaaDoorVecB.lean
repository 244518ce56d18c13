/-
  More contracts of chapter 2.
-/
import Derived.Test.YtmnojoddapdaoaaDoorVec
namespace Go.Proofs.YtmnojoddapdaoaaDoor
open Go.RowKit
open M

end Go.Proofs.YtmnojoddapdaoaaDoor
