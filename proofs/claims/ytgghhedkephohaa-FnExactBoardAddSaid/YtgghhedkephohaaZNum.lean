import Derived.KernelRfl
import Derived.Test.YtgghhedkephohaaProg
import Derived.WalkKit
import Derived.LoopTactic
import Derived.Lib.Hide
import Derived.IntWalk
set_option linter.all false
set_option maxRecDepth 100000
set_option maxHeartbeats 8000000
open Go.Lib
namespace Go.Proofs.Ytgghhedkephohaa
namespace M
def Di(n lo hi:Int):Bool:=decide (lo<=n/\n<=hi)
theorem DT{n lo hi:Int}(h:lo<=n/\n<=hi):Di n lo hi=true:=by simp[Di,h]
theorem CX{n lo hi:Int}(h:¬ (lo<=n/\n<=hi)):Di n lo hi=false:=by simp only[Di,decide_eq_false_iff_not]; exact h
end M
end Go.Proofs.Ytgghhedkephohaa
namespace Go.Proofs.Ytgghhedkephohaa
open Go.RowKit
open M
theorem Av{c d:Bool}(g:c=d):Ending.returned (.bool c)=.returned (.bool d):=by rw[g]
theorem Dq(n lo hi:Int)(w:World):Calls Try.prog 59 #[.int .i64 n,.int .i64 lo,.int .i64 hi] w fun e w'=>e=.returned (.bool (Di n lo hi))/\w=w':=by
 by_cases h1:lo<=n
 . by_cases h2:n<=hi
   . have E:=hid (DT ⟨h1,h2⟩);go_enter Try.func59,Try.ntmps59;go_wp2;go_ret;exact⟨Av (by rw[E.out]),rfl⟩
   . have E:=hid (CX (n:=n) (lo:=lo) (hi:=hi) (by omega));go_enter Try.func59,Try.ntmps59;go_wp2;go_ret;exact⟨Av (by rw[E.out]),rfl⟩
 . have E:=hid (CX (n:=n) (lo:=lo) (hi:=hi) (by omega));go_enter Try.func59,Try.ntmps59;go_wp2;go_ret;exact⟨Av (by rw[E.out]),rfl⟩
open Go.RowKit
open M
end Go.Proofs.Ytgghhedkephohaa
namespace Go.Proofs.Ytgghhedkephohaa
namespace M
end M
end Go.Proofs.Ytgghhedkephohaa
