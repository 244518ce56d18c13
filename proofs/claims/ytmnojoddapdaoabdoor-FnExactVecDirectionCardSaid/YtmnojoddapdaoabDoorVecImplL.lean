/-
  More contracts of the program's own functions of chapter 2.
-/
import Derived.Test.YtmnojoddapdaoabDoorVecImplB
namespace Go.Proofs.YtmnojoddapdaoabDoor
open Go.RowKit
open M

end Go.Proofs.YtmnojoddapdaoabDoor
