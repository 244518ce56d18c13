import Derived.Test.YtgbiagonfbnooaaDoorZToRep
set_option linter.all false
set_option maxRecDepth 100000
set_option maxHeartbeats 8000000
namespace Go.Proofs.YtgbiagonfbnooaaDoor
open Go.RowKit
open M
open Go.RowKit
open M
theorem JW{n m:Nat}(h:(1048576:Int)<n\/(1048576:Int)-n<m):D6 n m=-1:=by
 unfold D6;by_cases h1:(1048576:Int)<n
 . rw[if_pos h1]
 . rw[if_neg h1,if_pos (by omega)]
end Go.Proofs.YtgbiagonfbnooaaDoor
