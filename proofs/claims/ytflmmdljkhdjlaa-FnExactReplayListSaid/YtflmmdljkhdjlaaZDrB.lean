import Derived.Deep.DeepCutAuto
import Derived.Laws.StructEq
import Derived.Test.YtflmmdljkhdjlaaZVecAt
set_option linter.all false
set_option maxRecDepth 100000
set_option maxHeartbeats 8000000
namespace Go.Proofs.Ytflmmdljkhdjlaa
open Go.RowKit
open Go.RowKit
open Go.RowKit
open M
open Go.RowKit
open M
open Go.RowKit
open M
end Go.Proofs.Ytflmmdljkhdjlaa
namespace Go.Proofs.Ytflmmdljkhdjlaa
open Go.RowKit
open Go.RowKit
open M
open Go.RowKit
open M
end Go.Proofs.Ytflmmdljkhdjlaa
