import Derived.Test.YtflmmdljkhdjlaaZRdS
import Derived.Test.YtflmmdljkhdjlaaZVecP
set_option linter.all false
set_option maxRecDepth 100000
set_option maxHeartbeats 8000000
namespace Go.Proofs.Ytflmmdljkhdjlaa
open Go.RowKit
open M
end Go.Proofs.Ytflmmdljkhdjlaa
