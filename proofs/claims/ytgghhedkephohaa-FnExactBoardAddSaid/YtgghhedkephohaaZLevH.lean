import Derived.Test.YtgghhedkephohaaZLevS
import Derived.Test.YtgghhedkephohaaZRowS
set_option linter.all false
set_option maxRecDepth 100000
set_option maxHeartbeats 8000000
namespace Go.Proofs.Ytgghhedkephohaa
open Go.RowKit
open M
theorem CellsAt.grown{W w':World}{b:Nat}{vs:List Value}{row:Option Nat}(h:CellsAt W b vs)(hg:W.grownBy w' row)(hr:row≠some b):CellsAt w' b vs :=
 h.of (hg.block b h.lt (fun e=>hr e.symm)) hg.size
open Go.RowKit
open M
def comp(q:Bx):Nat->Int
 | 0=>q.a
 | 1=>q.b
 | 2=>q.c
 | _=>q.d
end Go.Proofs.Ytgghhedkephohaa
