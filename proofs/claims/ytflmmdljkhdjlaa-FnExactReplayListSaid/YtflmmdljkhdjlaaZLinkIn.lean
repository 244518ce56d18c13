import Derived.Test.YtflmmdljkhdjlaaZRepMath
import Derived.Test.YtflmmdljkhdjlaaZInImpl
set_option linter.all false
set_option maxRecDepth 100000
set_option maxHeartbeats 8000000
namespace Go.Proofs.Ytflmmdljkhdjlaa
open Go.RowKit Go.Shelf
open M
attribute [local go_sem] Oper.semAt_some
open Go.RowKit Go.Shelf
open M
attribute [local go_sem] Oper.semAt_some
end Go.Proofs.Ytflmmdljkhdjlaa
