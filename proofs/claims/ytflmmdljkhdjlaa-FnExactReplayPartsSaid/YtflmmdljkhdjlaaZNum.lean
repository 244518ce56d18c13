import Derived.KernelRfl
import Derived.Test.YtflmmdljkhdjlaaProg
import Derived.WalkKit
import Derived.LoopTactic
import Derived.Lib.Hide
import Derived.IntWalk
set_option linter.all false
set_option maxRecDepth 100000
set_option maxHeartbeats 8000000
open Go.Lib
namespace Go.Proofs.Ytflmmdljkhdjlaa
namespace M
def Aw(n lo hi:Int):Bool:=decide (lo<=n/\n<=hi)
theorem CV{n lo hi:Int}(h:lo<=n/\n<=hi):Aw n lo hi=true:=by simp[Aw,h]
theorem Cj{n lo hi:Int}(h:¬ (lo<=n/\n<=hi)):Aw n lo hi=false:=by simp only[Aw,decide_eq_false_iff_not]; exact h
def okB(n:Int):Bool:=Aw n (-2000000000) 2000000000
def cl(n:Int):Int:=if n>2000000000 then 2000000000 else if n< -2000000000 then -2000000000 else n
theorem Iw(n:Int):okB n=true↔-2000000000<=n/\n<=2000000000:=by simp[okB,Aw]
theorem Kw{n:Int}(h:-2000000000<=n/\n<=2000000000):okB n=true:=(Iw n).2 h
theorem KR{n:Int}(h:-2000000000<=n/\n<=2000000000):cl n=n:=by
 unfold cl; rw[if_neg (by omega),if_neg (by omega)]
theorem BP{a b:Int}(a1:-2000000000<=a)(a2:a<=2000000000)(b1:-2000000000<=b)(b2:b<=2000000000):-4000000000000000000<=a*b/\a*b<=4000000000000000000:=by
 have h:(a*b).natAbs<=2000000000*2000000000:=by
  rw[Int.natAbs_mul]; exact Nat.mul_le_mul (by omega) (by omega)
 omega
def JE(a b:Int):Bool:=okB a&&okB b
def Hm(a b:Int):Int:=if JE a b then cl (a+b) else 0
def Hn(a b:Int):Bool:=JE a b&&okB (a+b)
def Kx(a b:Int):Int:=if JE a b then cl ((a*b).tdiv 1000) else 0
def Ky(a b:Int):Bool:=JE a b&&okB ((a*b).tdiv 1000)
theorem JF{a b:Int}(h:okB a=true)(g:okB b=true):Hm a b=cl (a+b)/\Hn a b=okB (a+b):=by simp[Hm,Hn,JE,h,g]
theorem JG:okB 0=true:=Kw (by omega)
def EU:Nat->Nat
 | 0=>0
 | n+1=>if (EU n+1)*(EU n+1)<=n+1 then EU n+1 else EU n
theorem Ix(n:Nat):EU n*EU n<=n/\n<(EU n+1)*(EU n+1):=by
 induction n with
 | zero=>simp[EU]
 | succ n ih =>
  unfold EU;split
  . refine⟨by assumption,?_⟩;have e:(EU n+1+1)*(EU n+1+1)=(EU n+1)*(EU n+1)+2*EU n+3:=by
     simp only[Nat.add_mul,Nat.mul_add]; omega
    omega
  . omega
def sq(n:Int):Int:=(EU n.toNat:Int)
theorem BW(n:Int):0<=sq n:=by unfold sq; omega
theorem CW{n:Int}(h:0<=n):sq n*sq n<=n/\n<(sq n+1)*(sq n+1):=by
 have s:=Ix n.toNat;have e1:((EU n.toNat*EU n.toNat:Nat):Int)=sq n*sq n:=by unfold sq; push_cast; rfl
 have e2:(((EU n.toNat+1)*(EU n.toNat+1):Nat):Int)=(sq n+1)*(sq n+1):=by unfold sq; push_cast; rfl
 constructor
 . rw[<- e1]; omega
 . rw[<- e2]; omega
theorem Bt{a b:Int}(ha:0<=a)(hb:0<=b)(h:a*a<b*b):a<b:=by
 by_cases c:a<b
 . exact c
 . have:b*b<=a*a:=Int.mul_le_mul (by omega) (by omega) hb ha;omega
theorem EV{n r:Int}(h:0<=n)(hr:0<=r)(h1:r*r<=n)(h2:n<(r+1)*(r+1)):r=sq n:=by
 have⟨s1,s2⟩:=CW h;have p:=BW n;have a1:=Bt (a:=r) (b:=sq n+1) hr (by omega) (by omega);have a2:=Bt (a:=sq n) (b:=r+1) p (by omega) (by omega);omega
theorem JH{a b:Int}(ha:0<=a)(h:a<=b):sq a<=sq b:=by
 have⟨s1,_⟩:=CW ha;have⟨_,t2⟩:=CW (n:=b) (by omega);have:=Bt (a:=sq a) (b:=sq b+1) (BW a) (by have:=BW b; omega) (by omega);omega
theorem KS{n:Int}(h:0<=n)(hn:n<=2000000000000):0<=sq n/\sq n<1414214:=by
 refine⟨BW n,?_⟩;have⟨s1,_⟩:=CW h;exact Bt (BW n) (by omega) (by omega)
structure Root2(n l h:Int):Prop where
 bd:0<=l/\l<=h/\h<=2000000
 lo:l*l<=n
 hi:n<(h+1)*(h+1)
theorem FV{n:Int}(h0:0<=n)(hn:n<=2000000000000):Root2 n 0 2000000:=⟨by omega,by omega,by omega⟩
theorem Iy{n l h:Int}(R:Root2 n l h):0<=l/\l<=h/\h<=2000000:=R.bd
theorem Iz{n l h m:Int}(R:Root2 n l h)(m1:0<m)(m2:m<=h)(c:m*m<=n):Root2 n m h :=
 ⟨⟨by omega,m2,R.bd.2.2⟩,c,R.hi⟩
theorem Gs{n l h m:Int}(R:Root2 n l h)(m1:l<m)(m2:m<=h)(c:¬ m*m<=n):Root2 n l (m-1) :=
 ⟨⟨R.bd.1,by omega,by have:=R.bd.2.2; omega⟩,R.lo,by rw[show m-1+1=m from by omega]; omega⟩
theorem Ho{n l h:Int}(h0:0<=n)(R:Root2 n l h)(g:h<=l):l=sq n:=by
 have b:=R.bd;have e:h=l:=by omega
 subst e;exact EV h0 b.1 R.lo R.hi
end M
end Go.Proofs.Ytflmmdljkhdjlaa
namespace Go.Proofs.Ytflmmdljkhdjlaa
open Go.RowKit
open M
theorem AY{k:IntKind}{a b:Int}(h:a=b):Ending.returned (.int k a)=.returned (.int k b):=by rw[h]
theorem Al{c d:Bool}(g:c=d):Ending.returned (.bool c)=.returned (.bool d):=by rw[g]
theorem Ee(n lo hi:Int)(w:World):Calls Try.prog 64 #[.int .i64 n,.int .i64 lo,.int .i64 hi] w fun e w'=>e=.returned (.bool (Aw n lo hi))/\w=w':=by
 by_cases h1:lo<=n
 . by_cases h2:n<=hi
   . have E:=hid (CV ⟨h1,h2⟩);go_enter Try.func64,Try.ntmps64;go_wp2;go_ret;exact⟨Al (by rw[E.out]),rfl⟩
   . have E:=hid (Cj (n:=n) (lo:=lo) (hi:=hi) (by omega));go_enter Try.func64,Try.ntmps64;go_wp2;go_ret;exact⟨Al (by rw[E.out]),rfl⟩
 . have E:=hid (Cj (n:=n) (lo:=lo) (hi:=hi) (by omega));go_enter Try.func64,Try.ntmps64;go_wp2;go_ret;exact⟨Al (by rw[E.out]),rfl⟩
theorem IA(a b:Int)(w:World)(a1:-2000000000<=a)(a2:a<=2000000000)(b1:-2000000000<=b)(b2:b<=2000000000):Calls Try.prog 119 #[.int .i64 a,.int .i64 b] w fun e w'=>e=.returned (.int .i64 ((a*b).tdiv 1000))/\w=w':=by
 have p:=BP a1 a2 b1 b2;go_enter Try.func119,Try.ntmps119;go_wp2;go_ret;exact⟨rfl,rfl⟩
open Go.RowKit
open M
theorem IB(n:Int)(w:World)(h0:0<=n)(hn:n<=2000000000000):Calls Try.prog 121 #[.int .i64 n] w fun e w'=>e=.returned (.int .i64 (sq n))/\w=w':=by
 go_enter Try.func121,Try.ntmps121;go_wp2
 go_loop [3,4] (fun s t=>∃ l h:Int,Root2 n l h/\s=.int .i64 l/\t=.int .i64 h) (fun s t=>(intOf t-intOf s).toNat)
 case atStart=>exact⟨0,2000000,FV h0 hn,rfl,rfl⟩
 case round =>
  obtain⟨l,h,R,rfl,rfl⟩:=hrel;obtain⟨l0,lh,hh⟩:=Iy R;by_cases g:l<h
  . have m1:l<(l+h+1) / 2:=by omega
    have m2:(l+h+1) / 2<=h:=by omega
    have d1:=BP (a:=(l+h+1) / 2) (b:=(l+h+1) / 2) (by omega) (by omega) (by omega) (by omega);by_cases c:(l+h+1) / 2*((l+h+1) / 2)<=n
    . have R':=hid (Iz R (by omega) m2 c);go_wp2
      go_round
      case rel=>exact⟨_,_,R'.out,rfl,rfl⟩
      case measure=>simp[intOf]; omega
    . have R':=hid (Gs R m1 m2 c);go_wp2
      go_round
      case rel=>exact⟨_,_,R'.out,rfl,rfl⟩
      case measure=>simp[intOf]; omega
  . have E:=hid (Ho h0 R (by omega));go_wp2;go_ret;exact⟨AY E.out,rfl⟩
end Go.Proofs.Ytflmmdljkhdjlaa
namespace Go.Proofs.Ytflmmdljkhdjlaa
namespace M
theorem add_comm(a b:Int):Hm b a=Hm a b/\Hn b a=Hn a b:=by
 unfold Hm Hn JE;rw[Int.add_comm b a,Bool.and_comm (okB b) (okB a)];exact⟨rfl,rfl⟩
theorem add_zero{a:Int}(h:okB a=true):Hm a 0=a/\Hn a 0=true:=by
 have⟨e,f⟩:=JF h JG;rw[e,f,Int.add_zero];exact⟨KR ((Iw a).1 h),h⟩
theorem mul_comm(a b:Int):Kx b a=Kx a b/\Ky b a=Ky a b:=by
 unfold Kx Ky JE;rw[Int.mul_comm b a,Bool.and_comm (okB b) (okB a)];exact⟨rfl,rfl⟩
end M
end Go.Proofs.Ytflmmdljkhdjlaa
