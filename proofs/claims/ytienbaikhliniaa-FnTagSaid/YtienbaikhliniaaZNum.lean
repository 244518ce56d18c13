import Derived.KernelRfl
import Derived.Test.YtienbaikhliniaaProg
import Derived.WalkKit
import Derived.LoopTactic
import Derived.Lib.Hide
import Derived.IntWalk
set_option linter.all false
set_option maxRecDepth 100000
set_option maxHeartbeats 8000000
open Go.Lib
namespace Go.Proofs.Ytienbaikhliniaa
namespace M
def AN(n lo hi:Int):Bool:=decide (lo<=n/\n<=hi)
theorem AD{n lo hi:Int}(h:lo<=n/\n<=hi):AN n lo hi=true:=by simp[AN,h]
theorem AY{n lo hi:Int}(h:¬ (lo<=n/\n<=hi)):AN n lo hi=false:=by simp only[AN,decide_eq_false_iff_not]; exact h
def okB(n:Int):Bool:=AN n (-2000000000) 2000000000
def cl(n:Int):Int:=if n>2000000000 then 2000000000 else if n< -2000000000 then -2000000000 else n
theorem Bg(n:Int):okB n=true↔-2000000000<=n/\n<=2000000000:=by simp[okB,AN]
theorem Cr{n:Int}(h:-2000000000<=n/\n<=2000000000):okB n=true:=(Bg n).2 h
theorem Cn{n:Int}(h:¬ (-2000000000<=n/\n<=2000000000)):okB n=false:=by
 cases e:okB n with
 | false=>rfl
 | true=>exact absurd ((Bg n).1 e) h
def CB(a b:Int):Bool:=okB a&&okB b
def Cs(a b:Int):Int:=if CB a b then cl ((a*b).tdiv 1000) else 0
def Ct(a b:Int):Bool:=CB a b&&okB ((a*b).tdiv 1000)
end M
end Go.Proofs.Ytienbaikhliniaa
namespace Go.Proofs.Ytienbaikhliniaa
open Go.RowKit
open M
theorem Al{k:IntKind}{a b:Int}(h:a=b):Ending.returned (.int k a)=.returned (.int k b):=by rw[h]
theorem Af{c d:Bool}(g:c=d):Ending.returned (.bool c)=.returned (.bool d):=by rw[g]
theorem BL(n lo hi:Int)(w:World):Calls Try.prog 22 #[.int .i64 n,.int .i64 lo,.int .i64 hi] w fun e w'=>e=.returned (.bool (AN n lo hi))/\w=w':=by
 by_cases h1:lo<=n
 . by_cases h2:n<=hi
   . have E:=hid (AD ⟨h1,h2⟩);go_enter Try.func22,Try.ntmps22;go_wp2;go_ret;exact⟨Af (by rw[E.out]),rfl⟩
   . have E:=hid (AY (n:=n) (lo:=lo) (hi:=hi) (by omega));go_enter Try.func22,Try.ntmps22;go_wp2;go_ret;exact⟨Af (by rw[E.out]),rfl⟩
 . have E:=hid (AY (n:=n) (lo:=lo) (hi:=hi) (by omega));go_enter Try.func22,Try.ntmps22;go_wp2;go_ret;exact⟨Af (by rw[E.out]),rfl⟩
theorem Cu(n:Int)(w:World):Calls Try.prog 30 #[.int .i64 n] w fun e w'=>e=.returned (.bool (okB n))/\w=w':=by
 go_enter Try.func30,Try.ntmps30;go_wp2_with (go_at_call 22; refine(BL _ _ _ _).mono ?_; rintro e w' ⟨rfl,rfl⟩);go_ret;exact⟨Af rfl,rfl⟩
theorem Cv(n:Int)(w:World):Calls Try.prog 27 #[.int .i64 n] w fun e w'=>e=.returned (.bool (okB n))/\w=w':=by
 by_cases h1:-2000000000<=n
 . by_cases h2:n<=2000000000
   . have E:=hid (Cr ⟨h1,h2⟩);go_enter Try.func27,Try.ntmps27;go_wp2;go_ret;exact⟨by rw[E.out]; rfl,rfl⟩
   . have E:=hid (Cn (n:=n) (by omega));go_enter Try.func27,Try.ntmps27;go_wp2;go_ret;exact⟨by rw[E.out]; rfl,rfl⟩
 . have E:=hid (Cn (n:=n) (by omega));go_enter Try.func27,Try.ntmps27;go_wp2;go_ret;exact⟨by rw[E.out]; rfl,rfl⟩
open Go.RowKit
open M
end Go.Proofs.Ytienbaikhliniaa
namespace Go.Proofs.Ytienbaikhliniaa
namespace M
theorem mul_comm(a b:Int):Cs b a=Cs a b/\Ct b a=Ct a b:=by
 unfold Cs Ct CB;rw[Int.mul_comm b a,Bool.and_comm (okB b) (okB a)];exact⟨rfl,rfl⟩
end M
end Go.Proofs.Ytienbaikhliniaa
