import Derived.KernelRfl
import Derived.Test.YtienbaikhliniaaDoorProg
import Derived.WalkKit
import Derived.LoopTactic
import Derived.Lib.Hide
import Derived.IntWalk
set_option linter.all false
set_option maxRecDepth 100000
set_option maxHeartbeats 8000000
open Go.Lib
namespace Go.Proofs.YtienbaikhliniaaDoor
namespace M
def Bl(n lo hi:Int):Bool:=decide (lo<=n/\n<=hi)
theorem A0{n lo hi:Int}(h:lo<=n/\n<=hi):Bl n lo hi=true:=by simp[Bl,h]
theorem AX{n lo hi:Int}(h:¬ (lo<=n/\n<=hi)):Bl n lo hi=false:=by simp only[Bl,decide_eq_false_iff_not]; exact h
end M
end Go.Proofs.YtienbaikhliniaaDoor
namespace Go.Proofs.YtienbaikhliniaaDoor
open Go.RowKit
open M
theorem A1{c d:Bool}(g:c=d):Ending.returned (.bool c)=.returned (.bool d):=by rw[g]
theorem Bh(n lo hi:Int)(w:World):Calls Tryd.prog 11 #[.int .i64 n,.int .i64 lo,.int .i64 hi] w fun e w'=>e=.returned (.bool (Bl n lo hi))/\w=w':=by
 by_cases h1:lo<=n
 . by_cases h2:n<=hi
   . have E:=hid (A0 ⟨h1,h2⟩);go_enter Tryd.func11,Tryd.ntmps11;go_wp2;go_ret;exact⟨A1 (by rw[E.out]),rfl⟩
   . have E:=hid (AX (n:=n) (lo:=lo) (hi:=hi) (by omega));go_enter Tryd.func11,Tryd.ntmps11;go_wp2;go_ret;exact⟨A1 (by rw[E.out]),rfl⟩
 . have E:=hid (AX (n:=n) (lo:=lo) (hi:=hi) (by omega));go_enter Tryd.func11,Tryd.ntmps11;go_wp2;go_ret;exact⟨A1 (by rw[E.out]),rfl⟩
open Go.RowKit
open M
end Go.Proofs.YtienbaikhliniaaDoor
namespace Go.Proofs.YtienbaikhliniaaDoor
namespace M
end M
end Go.Proofs.YtienbaikhliniaaDoor
