import Derived.Test.YtienbaikhliniaaDoorZHashS
import Derived.Test.YtienbaikhliniaaDoorZRdS
import Derived.Maps.AppendAt
import Derived.OwnWalk
import Derived.Laws.OwnMore
set_option linter.all false
set_option maxRecDepth 100000
set_option maxHeartbeats 8000000
namespace Go.Proofs.YtienbaikhliniaaDoor
open Go.RowKit
open M
open Go.RowKit
open M
end Go.Proofs.YtienbaikhliniaaDoor
