import Derived.Test.YtgghhedkephohaaZDrawEnt
import Derived.Test.YtgghhedkephohaaZEnC
set_option linter.all false
set_option maxRecDepth 100000
set_option maxHeartbeats 8000000
namespace Go.Proofs.Ytgghhedkephohaa
open Go.RowKit
open M
end Go.Proofs.Ytgghhedkephohaa
