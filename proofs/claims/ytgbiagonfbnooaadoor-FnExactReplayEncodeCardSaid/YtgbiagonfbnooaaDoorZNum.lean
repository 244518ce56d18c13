import Derived.KernelRfl
import Derived.Test.YtgbiagonfbnooaaDoorProg
import Derived.WalkKit
import Derived.LoopTactic
import Derived.Lib.Hide
import Derived.IntWalk
set_option linter.all false
set_option maxRecDepth 100000
set_option maxHeartbeats 8000000
open Go.Lib
namespace Go.Proofs.YtgbiagonfbnooaaDoor
namespace M
def Ax(n lo hi:Int):Bool:=decide (lo<=n/\n<=hi)
theorem CC{n lo hi:Int}(h:lo<=n/\n<=hi):Ax n lo hi=true:=by simp[Ax,h]
theorem Cr{n lo hi:Int}(h:¬ (lo<=n/\n<=hi)):Ax n lo hi=false:=by simp only[Ax,decide_eq_false_iff_not]; exact h
def okB(n:Int):Bool:=Ax n (-2000000000) 2000000000
def cl(n:Int):Int:=if n>2000000000 then 2000000000 else if n< -2000000000 then -2000000000 else n
theorem Ix(n:Int):okB n=true↔-2000000000<=n/\n<=2000000000:=by simp[okB,Ax]
theorem Iy{n:Int}(h:-2000000000<=n/\n<=2000000000):okB n=true:=(Ix n).2 h
theorem KI{n:Int}(h:-2000000000<=n/\n<=2000000000):cl n=n:=by
 unfold cl; rw[if_neg (by omega),if_neg (by omega)]
theorem Bt{a b:Int}(a1:-2000000000<=a)(a2:a<=2000000000)(b1:-2000000000<=b)(b2:b<=2000000000):-4000000000000000000<=a*b/\a*b<=4000000000000000000:=by
 have h:(a*b).natAbs<=2000000000*2000000000:=by
  rw[Int.natAbs_mul]; exact Nat.mul_le_mul (by omega) (by omega)
 omega
def Lg(a b:Int):Bool:=okB a&&okB b
def Lh(a b:Int):Int:=if Lg a b then cl (a+b) else 0
def Li(a b:Int):Bool:=Lg a b&&okB (a+b)
def Hn(a b:Int):Int:=if Lg a b then cl ((a*b).tdiv 1000) else 0
def Ho(a b:Int):Bool:=Lg a b&&okB ((a*b).tdiv 1000)
theorem J9{a b:Int}(h:okB a=true)(g:okB b=true):Lh a b=cl (a+b)/\Li a b=okB (a+b):=by simp[Lh,Li,Lg,h,g]
theorem Ka{a b:Int}(h:okB a=true)(g:okB b=true):Hn a b=cl ((a*b).tdiv 1000)/\Ho a b=okB ((a*b).tdiv 1000):=by simp[Hn,Ho,Lg,h,g]
theorem GH:okB 0=true:=Iy (by omega)
def Ew:Nat->Nat
 | 0=>0
 | n+1=>if (Ew n+1)*(Ew n+1)<=n+1 then Ew n+1 else Ew n
theorem Iz(n:Nat):Ew n*Ew n<=n/\n<(Ew n+1)*(Ew n+1):=by
 induction n with
 | zero=>simp[Ew]
 | succ n ih =>
  unfold Ew;split
  . refine⟨by assumption,?_⟩;have e:(Ew n+1+1)*(Ew n+1+1)=(Ew n+1)*(Ew n+1)+2*Ew n+3:=by
     simp only[Nat.add_mul,Nat.mul_add]; omega
    omega
  . omega
def sq(n:Int):Int:=(Ew n.toNat:Int)
theorem BA(n:Int):0<=sq n:=by unfold sq; omega
theorem CE{n:Int}(h:0<=n):sq n*sq n<=n/\n<(sq n+1)*(sq n+1):=by
 have s:=Iz n.toNat;have e1:((Ew n.toNat*Ew n.toNat:Nat):Int)=sq n*sq n:=by unfold sq; push_cast; rfl
 have e2:(((Ew n.toNat+1)*(Ew n.toNat+1):Nat):Int)=(sq n+1)*(sq n+1):=by unfold sq; push_cast; rfl
 constructor
 . rw[<- e1]; omega
 . rw[<- e2]; omega
theorem Bb{a b:Int}(ha:0<=a)(hb:0<=b)(h:a*a<b*b):a<b:=by
 by_cases c:a<b
 . exact c
 . have:b*b<=a*a:=Int.mul_le_mul (by omega) (by omega) hb ha;omega
theorem Ex{n r:Int}(h:0<=n)(hr:0<=r)(h1:r*r<=n)(h2:n<(r+1)*(r+1)):r=sq n:=by
 have⟨s1,s2⟩:=CE h;have p:=BA n;have a1:=Bb (a:=r) (b:=sq n+1) hr (by omega) (by omega);have a2:=Bb (a:=sq n) (b:=r+1) p (by omega) (by omega);omega
theorem Kb{a b:Int}(ha:0<=a)(h:a<=b):sq a<=sq b:=by
 have⟨s1,_⟩:=CE ha;have⟨_,t2⟩:=CE (n:=b) (by omega);have:=Bb (a:=sq a) (b:=sq b+1) (BA a) (by have:=BA b; omega) (by omega);omega
theorem LF{n:Int}(h:0<=n)(hn:n<=2000000000000):0<=sq n/\sq n<1414214:=by
 refine⟨BA n,?_⟩;have⟨s1,_⟩:=CE h;exact Bb (BA n) (by omega) (by omega)
structure Root2(n l h:Int):Prop where
 bd:0<=l/\l<=h/\h<=2000000
 lo:l*l<=n
 hi:n<(h+1)*(h+1)
theorem Fx{n:Int}(h0:0<=n)(hn:n<=2000000000000):Root2 n 0 2000000:=⟨by omega,by omega,by omega⟩
theorem IA{n l h:Int}(R:Root2 n l h):0<=l/\l<=h/\h<=2000000:=R.bd
theorem IB{n l h m:Int}(R:Root2 n l h)(m1:0<m)(m2:m<=h)(c:m*m<=n):Root2 n m h :=
 ⟨⟨by omega,m2,R.bd.2.2⟩,c,R.hi⟩
theorem Gi{n l h m:Int}(R:Root2 n l h)(m1:l<m)(m2:m<=h)(c:¬ m*m<=n):Root2 n l (m-1) :=
 ⟨⟨R.bd.1,by omega,by have:=R.bd.2.2; omega⟩,R.lo,by rw[show m-1+1=m from by omega]; omega⟩
theorem Hp{n l h:Int}(h0:0<=n)(R:Root2 n l h)(g:h<=l):l=sq n:=by
 have b:=R.bd;have e:h=l:=by omega
 subst e;exact Ex h0 b.1 R.lo R.hi
end M
end Go.Proofs.YtgbiagonfbnooaaDoor
namespace Go.Proofs.YtgbiagonfbnooaaDoor
open Go.RowKit
open M
theorem AF{k:IntKind}{a b:Int}(h:a=b):Ending.returned (.int k a)=.returned (.int k b):=by rw[h]
theorem Am{c d:Bool}(g:c=d):Ending.returned (.bool c)=.returned (.bool d):=by rw[g]
theorem DJ(n lo hi:Int)(w:World):Calls Tryd.prog 49 #[.int .i64 n,.int .i64 lo,.int .i64 hi] w fun e w'=>e=.returned (.bool (Ax n lo hi))/\w=w':=by
 by_cases h1:lo<=n
 . by_cases h2:n<=hi
   . have E:=hid (CC ⟨h1,h2⟩);go_enter Tryd.func49,Tryd.ntmps49;go_wp2;go_ret;exact⟨Am (by rw[E.out]),rfl⟩
   . have E:=hid (Cr (n:=n) (lo:=lo) (hi:=hi) (by omega));go_enter Tryd.func49,Tryd.ntmps49;go_wp2;go_ret;exact⟨Am (by rw[E.out]),rfl⟩
 . have E:=hid (Cr (n:=n) (lo:=lo) (hi:=hi) (by omega));go_enter Tryd.func49,Tryd.ntmps49;go_wp2;go_ret;exact⟨Am (by rw[E.out]),rfl⟩
theorem IC(a b:Int)(w:World)(a1:-2000000000<=a)(a2:a<=2000000000)(b1:-2000000000<=b)(b2:b<=2000000000):Calls Tryd.prog 159 #[.int .i64 a,.int .i64 b] w fun e w'=>e=.returned (.int .i64 ((a*b).tdiv 1000))/\w=w':=by
 have p:=Bt a1 a2 b1 b2;go_enter Tryd.func159,Tryd.ntmps159;go_wp2;go_ret;exact⟨rfl,rfl⟩
open Go.RowKit
open M
theorem ID(n:Int)(w:World)(h0:0<=n)(hn:n<=2000000000000):Calls Tryd.prog 163 #[.int .i64 n] w fun e w'=>e=.returned (.int .i64 (sq n))/\w=w':=by
 go_enter Tryd.func163,Tryd.ntmps163;go_wp2
 go_loop [3,4] (fun s t=>∃ l h:Int,Root2 n l h/\s=.int .i64 l/\t=.int .i64 h) (fun s t=>(intOf t-intOf s).toNat)
 case atStart=>exact⟨0,2000000,Fx h0 hn,rfl,rfl⟩
 case round =>
  obtain⟨l,h,R,rfl,rfl⟩:=hrel;obtain⟨l0,lh,hh⟩:=IA R;by_cases g:l<h
  . have m1:l<(l+h+1) / 2:=by omega
    have m2:(l+h+1) / 2<=h:=by omega
    have d1:=Bt (a:=(l+h+1) / 2) (b:=(l+h+1) / 2) (by omega) (by omega) (by omega) (by omega);by_cases c:(l+h+1) / 2*((l+h+1) / 2)<=n
    . have R':=hid (IB R (by omega) m2 c);go_wp2
      go_round
      case rel=>exact⟨_,_,R'.out,rfl,rfl⟩
      case measure=>simp[intOf]; omega
    . have R':=hid (Gi R m1 m2 c);go_wp2
      go_round
      case rel=>exact⟨_,_,R'.out,rfl,rfl⟩
      case measure=>simp[intOf]; omega
  . have E:=hid (Hp h0 R (by omega));go_wp2;go_ret;exact⟨AF E.out,rfl⟩
end Go.Proofs.YtgbiagonfbnooaaDoor
namespace Go.Proofs.YtgbiagonfbnooaaDoor
namespace M
theorem add_zero{a:Int}(h:okB a=true):Lh a 0=a/\Li a 0=true:=by
 have⟨e,f⟩:=J9 h GH;rw[e,f,Int.add_zero];exact⟨KI ((Ix a).1 h),h⟩
theorem mul_comm(a b:Int):Hn b a=Hn a b/\Ho b a=Ho a b:=by
 unfold Hn Ho Lg;rw[Int.mul_comm b a,Bool.and_comm (okB b) (okB a)];exact⟨rfl,rfl⟩
theorem mul_zero{a:Int}(h:okB a=true):Hn a 0=0/\Ho a 0=true:=by
 have⟨e,f⟩:=Ka h GH;rw[e,f,Int.mul_zero];exact⟨KI (by decide),Iy (by decide)⟩
end M
end Go.Proofs.YtgbiagonfbnooaaDoor
