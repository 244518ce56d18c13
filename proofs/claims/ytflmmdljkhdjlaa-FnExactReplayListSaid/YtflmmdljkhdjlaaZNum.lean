import Derived.KernelRfl
import Derived.Test.YtflmmdljkhdjlaaProg
import Derived.WalkKit
import Derived.LoopTactic
import Derived.Lib.Hide
import Derived.IntWalk
set_option linter.all false
set_option maxRecDepth 100000
set_option maxHeartbeats 8000000
open Go.Lib
namespace Go.Proofs.Ytflmmdljkhdjlaa
namespace M
def Aw(n lo hi:Int):Bool:=decide (lo<=n/\n<=hi)
theorem CV{n lo hi:Int}(h:lo<=n/\n<=hi):Aw n lo hi=true:=by simp[Aw,h]
theorem Cj{n lo hi:Int}(h:¬ (lo<=n/\n<=hi)):Aw n lo hi=false:=by simp only[Aw,decide_eq_false_iff_not]; exact h
def EU:Nat->Nat
 | 0=>0
 | n+1=>if (EU n+1)*(EU n+1)<=n+1 then EU n+1 else EU n
def sq(n:Int):Int:=(EU n.toNat:Int)
end M
end Go.Proofs.Ytflmmdljkhdjlaa
namespace Go.Proofs.Ytflmmdljkhdjlaa
open Go.RowKit
open M
theorem AY{k:IntKind}{a b:Int}(h:a=b):Ending.returned (.int k a)=.returned (.int k b):=by rw[h]
theorem Al{c d:Bool}(g:c=d):Ending.returned (.bool c)=.returned (.bool d):=by rw[g]
theorem Ee(n lo hi:Int)(w:World):Calls Try.prog 64 #[.int .i64 n,.int .i64 lo,.int .i64 hi] w fun e w'=>e=.returned (.bool (Aw n lo hi))/\w=w':=by
 by_cases h1:lo<=n
 . by_cases h2:n<=hi
   . have E:=hid (CV ⟨h1,h2⟩);go_enter Try.func64,Try.ntmps64;go_wp2;go_ret;exact⟨Al (by rw[E.out]),rfl⟩
   . have E:=hid (Cj (n:=n) (lo:=lo) (hi:=hi) (by omega));go_enter Try.func64,Try.ntmps64;go_wp2;go_ret;exact⟨Al (by rw[E.out]),rfl⟩
 . have E:=hid (Cj (n:=n) (lo:=lo) (hi:=hi) (by omega));go_enter Try.func64,Try.ntmps64;go_wp2;go_ret;exact⟨Al (by rw[E.out]),rfl⟩
open Go.RowKit
open M
end Go.Proofs.Ytflmmdljkhdjlaa
namespace Go.Proofs.Ytflmmdljkhdjlaa
namespace M
end M
end Go.Proofs.Ytflmmdljkhdjlaa
