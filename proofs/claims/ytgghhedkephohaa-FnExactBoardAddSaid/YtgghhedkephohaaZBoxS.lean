import Derived.Test.YtgghhedkephohaaZVecS
set_option linter.all false
set_option maxRecDepth 100000
set_option maxHeartbeats 8000000
namespace Go.Proofs.Ytgghhedkephohaa
namespace M
theorem CQ(x y:Int):(if y<x then y else x)=min x y:=by split<;>omega
def FM(a b c d:Int):Bool:=FI a b&&FI c d&&decide (a<=c)&&decide (b<=d)
end M
end Go.Proofs.Ytgghhedkephohaa
namespace Go.Proofs.Ytgghhedkephohaa
open Go.RowKit
open M
end Go.Proofs.Ytgghhedkephohaa
namespace Go.Proofs.Ytgghhedkephohaa
namespace M
end M
end Go.Proofs.Ytgghhedkephohaa
