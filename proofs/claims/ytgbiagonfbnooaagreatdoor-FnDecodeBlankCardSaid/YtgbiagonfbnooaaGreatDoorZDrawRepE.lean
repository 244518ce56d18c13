import Derived.Test.YtgbiagonfbnooaaGreatDoorZDrawRepD
set_option linter.all false
set_option maxRecDepth 100000
set_option maxHeartbeats 8000000
namespace Go.Proofs.YtgbiagonfbnooaaGreatDoor
open Go.RowKit
open M
end Go.Proofs.YtgbiagonfbnooaaGreatDoor
