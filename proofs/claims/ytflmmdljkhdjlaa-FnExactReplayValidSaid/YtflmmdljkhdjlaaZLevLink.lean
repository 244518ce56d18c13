import Derived.Test.YtflmmdljkhdjlaaZDrB
import Derived.RangeFuncNested
import Derived.RangeFuncBound
import Derived.RangeFuncCalls
import Derived.RangeFuncLeaves
import Derived.Shelf.Abstract
import Derived.Shelf.RegionOpen
import Derived.Stop.RegionWithIn
import Derived.OwnWalkIn
import Derived.TacticsInMore
import Derived.LoopNIn
import Derived.LoopIn
import Derived.Deep.LoopGhost
import Derived.Test.YtflmmdljkhdjlaaZLevH
import Derived.Test.YtflmmdljkhdjlaaZHashImpl
import Derived.Lib.AppendZerosOnto
import Derived.Lib.SliceRun
import Derived.Test.YtflmmdljkhdjlaaZCelS
set_option linter.all false
set_option maxRecDepth 100000
set_option maxHeartbeats 8000000
namespace Go.Proofs.Ytflmmdljkhdjlaa
open Go.RowKit Go.Shelf
open M
attribute [local go_sem] Oper.semAt_some
theorem CellsAt.own{W W':World}{row:Option Nat}{b:Nat}{v0:Value}{vs:List Value}(h:CellsAt W b (v0::vs))(hg:W.grownBy W' row)(hr:∀ r,row=some r->∃ o:Obj,W.heap[r]?=some o/\o.isCells=false):CellsAt W' b (v0::vs):=by
 obtain⟨o,ho,hc⟩:=cells_of_cell (h.cell 0 v0 rfl);exact h.of (grownBy_keeps_cells hg hr ho hc) hg.size
end Go.Proofs.Ytflmmdljkhdjlaa
namespace Go.Proofs.Ytflmmdljkhdjlaa
open Go.RowKit
open M
theorem Iq{n lo hi:Int}(h:n<lo):Aw n lo hi=false:=Cj (by omega)
theorem GL{n lo hi:Int}(h:hi<n):Aw n lo hi=false:=Cj (by omega)
open Go.RowKit
open M
open Go.RowKit
open M
open Go.RowKit
open M
theorem LB{W w':World}{g o n:Nat}(h:W.there g o n)(B:Below W.heap.size W w')(hg:g<W.heap.size):w'.there g o n:=fun j hj=>by
 rw[B.cell (p:=⟨g,o+j,none⟩) hg,B.frozen (p:=⟨g,o+j,none⟩) hg];exact h j hj
theorem Lr{W:World}{g n:Nat}(h:W.there g 0 n)(o:Nat)(v:Value):(W.setCell ⟨g,o,none⟩ v).there g 0 n:=fun j hj=>by
 refine⟨?_,by rw[World.frozen?_setCell]; exact(h j hj).2⟩;by_cases e:(0+j)=o
 . rw[e,World.cell?_setCell_same' _ _ _ (by have:=(h j hj).1; rw[e] at this; exact this)];rfl
 . rw[World.cell?_setCell_other _ _ _ _ (by first | (simp; done) | (simp; omega))];exact(h j hj).1
theorem Lu{W:World}{p:Addr}(h:(W.cell? p).isSome=true):∃ u,W.cell? p=some u:=Option.isSome_iff_exists.1 h
end Go.Proofs.Ytflmmdljkhdjlaa
