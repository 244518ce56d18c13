import Derived.Test.YtienbaikhliniaaDoorZVecS
set_option linter.all false
set_option maxRecDepth 100000
set_option maxHeartbeats 8000000
namespace Go.Proofs.YtienbaikhliniaaDoor
namespace M
end M
end Go.Proofs.YtienbaikhliniaaDoor
namespace Go.Proofs.YtienbaikhliniaaDoor
open Go.RowKit
open M
end Go.Proofs.YtienbaikhliniaaDoor
namespace Go.Proofs.YtienbaikhliniaaDoor
namespace M
end M
end Go.Proofs.YtienbaikhliniaaDoor
