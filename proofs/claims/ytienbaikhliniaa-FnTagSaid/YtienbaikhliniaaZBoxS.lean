import Derived.Test.YtienbaikhliniaaZVecS
set_option linter.all false
set_option maxRecDepth 100000
set_option maxHeartbeats 8000000
namespace Go.Proofs.Ytienbaikhliniaa
namespace M
end M
end Go.Proofs.Ytienbaikhliniaa
namespace Go.Proofs.Ytienbaikhliniaa
open Go.RowKit
open M
end Go.Proofs.Ytienbaikhliniaa
namespace Go.Proofs.Ytienbaikhliniaa
namespace M
end M
end Go.Proofs.Ytienbaikhliniaa
