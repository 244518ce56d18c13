import Derived.Shelf.Bits.Mul64
import Derived.Test.YtgbiagonfbnooaaDoorProg
set_option linter.all false
set_option maxRecDepth 100000
set_option maxHeartbeats 8000000
namespace Go.Proofs.YtgbiagonfbnooaaDoor
open Go.Shelf
end Go.Proofs.YtgbiagonfbnooaaDoor
