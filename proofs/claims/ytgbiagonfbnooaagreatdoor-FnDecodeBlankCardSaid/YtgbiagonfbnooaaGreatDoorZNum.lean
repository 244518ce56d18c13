import Derived.KernelRfl
import Derived.Test.YtgbiagonfbnooaaGreatDoorProg
import Derived.WalkKit
import Derived.LoopTactic
import Derived.Lib.Hide
import Derived.IntWalk
set_option linter.all false
set_option maxRecDepth 100000
set_option maxHeartbeats 8000000
open Go.Lib
namespace Go.Proofs.YtgbiagonfbnooaaGreatDoor
namespace M
def Ax(n lo hi:Int):Bool:=decide (lo<=n/\n<=hi)
theorem De{n lo hi:Int}(h:lo<=n/\n<=hi):Ax n lo hi=true:=by simp[Ax,h]
theorem Cs{n lo hi:Int}(h:¬ (lo<=n/\n<=hi)):Ax n lo hi=false:=by simp only[Ax,decide_eq_false_iff_not]; exact h
def okB(n:Int):Bool:=Ax n (-2000000000) 2000000000
def cl(n:Int):Int:=if n>2000000000 then 2000000000 else if n< -2000000000 then -2000000000 else n
theorem JV(n:Int):okB n=true↔-2000000000<=n/\n<=2000000000:=by simp[okB,Ax]
theorem JW{n:Int}(h:-2000000000<=n/\n<=2000000000):okB n=true:=(JV n).2 h
theorem Mq{n:Int}(h:-2000000000<=n/\n<=2000000000):cl n=n:=by
 unfold cl; rw[if_neg (by omega),if_neg (by omega)]
theorem BS{a b:Int}(a1:-2000000000<=a)(a2:a<=2000000000)(b1:-2000000000<=b)(b2:b<=2000000000):-4000000000000000000<=a*b/\a*b<=4000000000000000000:=by
 have h:(a*b).natAbs<=2000000000*2000000000:=by
  rw[Int.natAbs_mul]; exact Nat.mul_le_mul (by omega) (by omega)
 omega
def Mr(a b:Int):Bool:=okB a&&okB b
def IM(a b:Int):Int:=if Mr a b then cl (a+b) else 0
def IP(a b:Int):Bool:=Mr a b&&okB (a+b)
def IQ(a b:Int):Int:=if Mr a b then cl ((a*b).tdiv 1000) else 0
def IR(a b:Int):Bool:=Mr a b&&okB ((a*b).tdiv 1000)
theorem LH{a b:Int}(h:okB a=true)(g:okB b=true):IM a b=cl (a+b)/\IP a b=okB (a+b):=by simp[IM,IP,Mr,h,g]
theorem LI{a b:Int}(h:okB a=true)(g:okB b=true):IQ a b=cl ((a*b).tdiv 1000)/\IR a b=okB ((a*b).tdiv 1000):=by simp[IQ,IR,Mr,h,g]
theorem HW:okB 0=true:=JW (by omega)
def Ft:Nat->Nat
 | 0=>0
 | n+1=>if (Ft n+1)*(Ft n+1)<=n+1 then Ft n+1 else Ft n
theorem JX(n:Nat):Ft n*Ft n<=n/\n<(Ft n+1)*(Ft n+1):=by
 induction n with
 | zero=>simp[Ft]
 | succ n ih =>
  unfold Ft;split
  . refine⟨by assumption,?_⟩;have e:(Ft n+1+1)*(Ft n+1+1)=(Ft n+1)*(Ft n+1)+2*Ft n+3:=by
     simp only[Nat.add_mul,Nat.mul_add]; omega
    omega
  . omega
def sq(n:Int):Int:=(Ft n.toNat:Int)
theorem M5(n:Int):0<=sq n:=by unfold sq; omega
theorem Df{n:Int}(h:0<=n):sq n*sq n<=n/\n<(sq n+1)*(sq n+1):=by
 have s:=JX n.toNat;have e1:((Ft n.toNat*Ft n.toNat:Nat):Int)=sq n*sq n:=by unfold sq; push_cast; rfl
 have e2:(((Ft n.toNat+1)*(Ft n.toNat+1):Nat):Int)=(sq n+1)*(sq n+1):=by unfold sq; push_cast; rfl
 constructor
 . rw[<- e1]; omega
 . rw[<- e2]; omega
theorem Bt{a b:Int}(ha:0<=a)(hb:0<=b)(h:a*a<b*b):a<b:=by
 by_cases c:a<b
 . exact c
 . have:b*b<=a*a:=Int.mul_le_mul (by omega) (by omega) hb ha;omega
theorem Fu{n r:Int}(h:0<=n)(hr:0<=r)(h1:r*r<=n)(h2:n<(r+1)*(r+1)):r=sq n:=by
 have⟨s1,s2⟩:=Df h;have p:=M5 n;have a1:=Bt (a:=r) (b:=sq n+1) hr (by omega) (by omega);have a2:=Bt (a:=sq n) (b:=r+1) p (by omega) (by omega);omega
theorem LJ{a b:Int}(ha:0<=a)(h:a<=b):sq a<=sq b:=by
 have⟨s1,_⟩:=Df ha;have⟨_,t2⟩:=Df (n:=b) (by omega);have:=Bt (a:=sq a) (b:=sq b+1) (M5 a) (by have:=M5 b; omega) (by omega);omega
theorem Nx{n:Int}(h:0<=n)(hn:n<=2000000000000):0<=sq n/\sq n<1414214:=by
 refine⟨M5 n,?_⟩;have⟨s1,_⟩:=Df h;exact Bt (M5 n) (by omega) (by omega)
structure Root2(n l h:Int):Prop where
 bd:0<=l/\l<=h/\h<=2000000
 lo:l*l<=n
 hi:n<(h+1)*(h+1)
theorem Gl{n:Int}(h0:0<=n)(hn:n<=2000000000000):Root2 n 0 2000000:=⟨by omega,by omega,by omega⟩
theorem JY{n l h:Int}(R:Root2 n l h):0<=l/\l<=h/\h<=2000000:=R.bd
theorem JZ{n l h m:Int}(R:Root2 n l h)(m1:0<m)(m2:m<=h)(c:m*m<=n):Root2 n m h :=
 ⟨⟨by omega,m2,R.bd.2.2⟩,c,R.hi⟩
theorem Hf{n l h m:Int}(R:Root2 n l h)(m1:l<m)(m2:m<=h)(c:¬ m*m<=n):Root2 n l (m-1) :=
 ⟨⟨R.bd.1,by omega,by have:=R.bd.2.2; omega⟩,R.lo,by rw[show m-1+1=m from by omega]; omega⟩
theorem IU{n l h:Int}(h0:0<=n)(R:Root2 n l h)(g:h<=l):l=sq n:=by
 have b:=R.bd;have e:h=l:=by omega
 subst e;exact Fu h0 b.1 R.lo R.hi
end M
end Go.Proofs.YtgbiagonfbnooaaGreatDoor
namespace Go.Proofs.YtgbiagonfbnooaaGreatDoor
open Go.RowKit
open M
theorem AN{k:IntKind}{a b:Int}(h:a=b):Ending.returned (.int k a)=.returned (.int k b):=by rw[h]
theorem Al{c d:Bool}(g:c=d):Ending.returned (.bool c)=.returned (.bool d):=by rw[g]
theorem Ew(n lo hi:Int)(w:World):Calls Tryz.prog 41 #[.int .i64 n,.int .i64 lo,.int .i64 hi] w fun e w'=>e=.returned (.bool (Ax n lo hi))/\w=w':=by
 by_cases h1:lo<=n
 . by_cases h2:n<=hi
   . have E:=hid (De ⟨h1,h2⟩);go_enter Tryz.func41,Tryz.ntmps41;go_wp2;go_ret;exact⟨Al (by rw[E.out]),rfl⟩
   . have E:=hid (Cs (n:=n) (lo:=lo) (hi:=hi) (by omega));go_enter Tryz.func41,Tryz.ntmps41;go_wp2;go_ret;exact⟨Al (by rw[E.out]),rfl⟩
 . have E:=hid (Cs (n:=n) (lo:=lo) (hi:=hi) (by omega));go_enter Tryz.func41,Tryz.ntmps41;go_wp2;go_ret;exact⟨Al (by rw[E.out]),rfl⟩
theorem J5(a b:Int)(w:World)(a1:-2000000000<=a)(a2:a<=2000000000)(b1:-2000000000<=b)(b2:b<=2000000000):Calls Tryz.prog 149 #[.int .i64 a,.int .i64 b] w fun e w'=>e=.returned (.int .i64 ((a*b).tdiv 1000))/\w=w':=by
 have p:=BS a1 a2 b1 b2;go_enter Tryz.func149,Tryz.ntmps149;go_wp2;go_ret;exact⟨rfl,rfl⟩
open Go.RowKit
open M
theorem J6(n:Int)(w:World)(h0:0<=n)(hn:n<=2000000000000):Calls Tryz.prog 153 #[.int .i64 n] w fun e w'=>e=.returned (.int .i64 (sq n))/\w=w':=by
 go_enter Tryz.func153,Tryz.ntmps153;go_wp2
 go_loop [3,4] (fun s t=>∃ l h:Int,Root2 n l h/\s=.int .i64 l/\t=.int .i64 h) (fun s t=>(RowKit.intOf t-RowKit.intOf s).toNat)
 case atStart=>exact⟨0,2000000,Gl h0 hn,rfl,rfl⟩
 case round =>
  obtain⟨l,h,R,rfl,rfl⟩:=hrel;obtain⟨l0,lh,hh⟩:=JY R;by_cases g:l<h
  . have m1:l<(l+h+1) / 2:=by omega
    have m2:(l+h+1) / 2<=h:=by omega
    have d1:=BS (a:=(l+h+1) / 2) (b:=(l+h+1) / 2) (by omega) (by omega) (by omega) (by omega);by_cases c:(l+h+1) / 2*((l+h+1) / 2)<=n
    . have R':=hid (JZ R (by omega) m2 c);go_wp2
      go_round
      case rel=>exact⟨_,_,R'.out,rfl,rfl⟩
      case measure=>simp[RowKit.intOf]; omega
    . have R':=hid (Hf R m1 m2 c);go_wp2
      go_round
      case rel=>exact⟨_,_,R'.out,rfl,rfl⟩
      case measure=>simp[RowKit.intOf]; omega
  . have E:=hid (IU h0 R (by omega));go_wp2;go_ret;exact⟨AN E.out,rfl⟩
end Go.Proofs.YtgbiagonfbnooaaGreatDoor
namespace Go.Proofs.YtgbiagonfbnooaaGreatDoor
namespace M
theorem add_comm(a b:Int):IM b a=IM a b/\IP b a=IP a b:=by
 unfold IM IP Mr;rw[Int.add_comm b a,Bool.and_comm (okB b) (okB a)];exact⟨rfl,rfl⟩
theorem add_zero{a:Int}(h:okB a=true):IM a 0=a/\IP a 0=true:=by
 have⟨e,f⟩:=LH h HW;rw[e,f,Int.add_zero];exact⟨Mq ((JV a).1 h),h⟩
theorem mul_comm(a b:Int):IQ b a=IQ a b/\IR b a=IR a b:=by
 unfold IQ IR Mr;rw[Int.mul_comm b a,Bool.and_comm (okB b) (okB a)];exact⟨rfl,rfl⟩
theorem mul_zero{a:Int}(h:okB a=true):IQ a 0=0/\IR a 0=true:=by
 have⟨e,f⟩:=LI h HW;rw[e,f,Int.mul_zero];exact⟨Mq (by decide),JW (by decide)⟩
end M
end Go.Proofs.YtgbiagonfbnooaaGreatDoor
