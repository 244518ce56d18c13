/-
  More contracts of chapter 2.
-/
import Derived.Test.YtmnojoddapdaoabDoorVec
namespace Go.Proofs.YtmnojoddapdaoabDoor
open Go.RowKit
open M

end Go.Proofs.YtmnojoddapdaoabDoor
