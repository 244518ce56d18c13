import Derived.KernelRfl
import Derived.Test.YtbeohbhhmcjokaaProg
import Derived.WalkKit
import Derived.LoopTactic
import Derived.Lib.Hide
import Derived.IntWalk
set_option linter.all false
set_option maxRecDepth 100000
set_option maxHeartbeats 8000000
open Go.Lib
namespace Go.Proofs.Ytbeohbhhmcjokaa
namespace M
def Al(n lo hi:Int):Bool:=decide (lo<=n/\n<=hi)
theorem Bc{n lo hi:Int}(h:lo<=n/\n<=hi):Al n lo hi=true:=by simp[Al,h]
theorem AZ{n lo hi:Int}(h:¬ (lo<=n/\n<=hi)):Al n lo hi=false:=by simp only[Al,decide_eq_false_iff_not]; exact h
def okB(n:Int):Bool:=Al n (-2000000000) 2000000000
def cl(n:Int):Int:=if n>2000000000 then 2000000000 else if n< -2000000000 then -2000000000 else n
theorem FE(n:Int):okB n=true↔-2000000000<=n/\n<=2000000000:=by simp[okB,Al]
theorem G6{n:Int}(h:-2000000000<=n/\n<=2000000000):okB n=true:=(FE n).2 h
theorem Hr{n:Int}(h:-2000000000<=n/\n<=2000000000):cl n=n:=by
 unfold cl; rw[if_neg (by omega),if_neg (by omega)]
theorem BM{a b:Int}(a1:-2000000000<=a)(a2:a<=2000000000)(b1:-2000000000<=b)(b2:b<=2000000000):-4000000000000000000<=a*b/\a*b<=4000000000000000000:=by
 have h:(a*b).natAbs<=2000000000*2000000000:=by
  rw[Int.natAbs_mul]; exact Nat.mul_le_mul (by omega) (by omega)
 omega
def ok2(a b:Int):Bool:=okB a&&okB b
def G8(a b:Int):Int:=if ok2 a b then cl (a+b) else 0
def Ha(a b:Int):Bool:=ok2 a b&&okB (a+b)
def Hd(a b:Int):Int:=if ok2 a b then cl ((a*b).tdiv 1000) else 0
def He(a b:Int):Bool:=ok2 a b&&okB ((a*b).tdiv 1000)
theorem Gw{a b:Int}(h:okB a=true)(g:okB b=true):G8 a b=cl (a+b)/\Ha a b=okB (a+b):=by simp[G8,Ha,ok2,h,g]
theorem Gx:okB 0=true:=G6 (by omega)
def Hs:Nat->Nat
 | 0=>0
 | n+1=>if (Hs n+1)*(Hs n+1)<=n+1 then Hs n+1 else Hs n
def sq(n:Int):Int:=(Hs n.toNat:Int)
end M
end Go.Proofs.Ytbeohbhhmcjokaa
namespace Go.Proofs.Ytbeohbhhmcjokaa
open Go.RowKit
open M
theorem Ad{c d:Bool}(g:c=d):Ending.returned (.bool c)=.returned (.bool d):=by rw[g]
theorem A0(n lo hi:Int)(w:World):Calls Try.prog 52 #[.int .i64 n,.int .i64 lo,.int .i64 hi] w fun e w'=>e=.returned (.bool (Al n lo hi))/\w=w':=by
 by_cases h1:lo<=n
 . by_cases h2:n<=hi
   . have E:=hid (Bc ⟨h1,h2⟩);go_enter Try.func52,Try.ntmps52;go_wp2;go_ret;exact⟨Ad (by rw[E.out]),rfl⟩
   . have E:=hid (AZ (n:=n) (lo:=lo) (hi:=hi) (by omega));go_enter Try.func52,Try.ntmps52;go_wp2;go_ret;exact⟨Ad (by rw[E.out]),rfl⟩
 . have E:=hid (AZ (n:=n) (lo:=lo) (hi:=hi) (by omega));go_enter Try.func52,Try.ntmps52;go_wp2;go_ret;exact⟨Ad (by rw[E.out]),rfl⟩
open Go.RowKit
open M
end Go.Proofs.Ytbeohbhhmcjokaa
namespace Go.Proofs.Ytbeohbhhmcjokaa
namespace M
theorem add_zero{a:Int}(h:okB a=true):G8 a 0=a/\Ha a 0=true:=by
 have⟨e,f⟩:=Gw h Gx;rw[e,f,Int.add_zero];exact⟨Hr ((FE a).1 h),h⟩
theorem mul_comm(a b:Int):Hd b a=Hd a b/\He b a=He a b:=by
 unfold Hd He ok2;rw[Int.mul_comm b a,Bool.and_comm (okB b) (okB a)];exact⟨rfl,rfl⟩
end M
end Go.Proofs.Ytbeohbhhmcjokaa
