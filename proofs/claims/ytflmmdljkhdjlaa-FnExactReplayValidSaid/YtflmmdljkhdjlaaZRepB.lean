import Derived.Test.YtflmmdljkhdjlaaZRepA
set_option linter.all false
set_option maxRecDepth 100000
set_option maxHeartbeats 8000000
namespace Go.Proofs.Ytflmmdljkhdjlaa
open Go.RowKit
open M
def M.before(ps:List Pt):Nat->Option Int
 | 0=>none
 | k+1=>some (ps.getD k pz).c
end Go.Proofs.Ytflmmdljkhdjlaa
