import Derived.KernelRfl
import Derived.Test.YtaemcekcancpdaaGreatDoorProg
import Derived.WalkKit
import Derived.LoopTactic
import Derived.Lib.Hide
import Derived.IntWalk
set_option linter.all false
set_option maxRecDepth 100000
set_option maxHeartbeats 8000000
open Go.Lib
namespace Go.Proofs.YtaemcekcancpdaaGreatDoor
namespace M
def Bc(n lo hi:Int):Bool:=decide (lo<=n/\n<=hi)
theorem BR{n lo hi:Int}(h:lo<=n/\n<=hi):Bc n lo hi=true:=by simp[Bc,h]
theorem CJ{n lo hi:Int}(h:¬ (lo<=n/\n<=hi)):Bc n lo hi=false:=by simp only[Bc,decide_eq_false_iff_not]; exact h
def okB(n:Int):Bool:=Bc n (-2000000000) 2000000000
def cl(n:Int):Int:=if n>2000000000 then 2000000000 else if n< -2000000000 then -2000000000 else n
theorem Gt(n:Int):okB n=true↔-2000000000<=n/\n<=2000000000:=by simp[okB,Bc]
theorem Gv{n:Int}(h:-2000000000<=n/\n<=2000000000):okB n=true:=(Gt n).2 h
theorem M7{n:Int}(h:¬ (-2000000000<=n/\n<=2000000000)):okB n=false:=by
 cases e:okB n with
 | false=>rfl
 | true=>exact absurd ((Gt n).1 e) h
theorem M8{n:Int}(h:-2000000000<=n/\n<=2000000000):cl n=n:=by
 unfold cl; rw[if_neg (by omega),if_neg (by omega)]
theorem HW(n:Int):(2000000000<n/\(cl n=2000000000/\okB n=false))\/(n< -2000000000/\(cl n=-2000000000/\okB n=false))\/(-2000000000<=n/\n<=2000000000/\(cl n=n/\okB n=true)):=by
 by_cases h1:2000000000<n
 . exact .inl ⟨h1,by unfold cl; rw[if_pos (by omega)],M7 (by omega)⟩
 . by_cases h2:n< -2000000000
   . exact .inr (.inl ⟨h2,by unfold cl; rw[if_neg (by omega),if_pos (by omega)],M7 (by omega)⟩)
   . exact .inr (.inr ⟨by omega,by omega,M8 (by omega),Gv (by omega)⟩)
theorem Cm{a b:Int}(a1:-2000000000<=a)(a2:a<=2000000000)(b1:-2000000000<=b)(b2:b<=2000000000):-4000000000000000000<=a*b/\a*b<=4000000000000000000:=by
 have h:(a*b).natAbs<=2000000000*2000000000:=by
  rw[Int.natAbs_mul]; exact Nat.mul_le_mul (by omega) (by omega)
 omega
def ok2(a b:Int):Bool:=okB a&&okB b
def NX(a b:Int):Int:=if ok2 a b then cl (a+b) else 0
def NY(a b:Int):Bool:=ok2 a b&&okB (a+b)
def HX(a b:Int):Int:=if ok2 a b then cl ((a*b).tdiv 1000) else 0
def HY(a b:Int):Bool:=ok2 a b&&okB ((a*b).tdiv 1000)
theorem Rv{a b:Int}(h:okB a=true)(g:okB b=true):NX a b=cl (a+b)/\NY a b=okB (a+b):=by simp[NX,NY,ok2,h,g]
theorem Rw{a b:Int}(h:okB a=false):HX a b=0/\HY a b=false:=by simp[HX,HY,ok2,h]
theorem Rx{a b:Int}(h:okB b=false):HX a b=0/\HY a b=false:=by simp[HX,HY,ok2,h]
theorem M9{a b:Int}(h:okB a=true)(g:okB b=true):HX a b=cl ((a*b).tdiv 1000)/\HY a b=okB ((a*b).tdiv 1000):=by simp[HX,HY,ok2,h,g]
theorem Ry:okB 0=true:=Gv (by omega)
def Jj:Nat->Nat
 | 0=>0
 | n+1=>if (Jj n+1)*(Jj n+1)<=n+1 then Jj n+1 else Jj n
theorem PD(n:Nat):Jj n*Jj n<=n/\n<(Jj n+1)*(Jj n+1):=by
 induction n with
 | zero=>simp[Jj]
 | succ n ih =>
  unfold Jj;split
  . refine⟨by assumption,?_⟩;have e:(Jj n+1+1)*(Jj n+1+1)=(Jj n+1)*(Jj n+1)+2*Jj n+3:=by
     simp only[Nat.add_mul,Nat.mul_add]; omega
    omega
  . omega
def sq(n:Int):Int:=(Jj n.toNat:Int)
theorem DR(n:Int):0<=sq n:=by unfold sq; omega
theorem FO{n:Int}(h:0<=n):sq n*sq n<=n/\n<(sq n+1)*(sq n+1):=by
 have s:=PD n.toNat;have e1:((Jj n.toNat*Jj n.toNat:Nat):Int)=sq n*sq n:=by unfold sq; push_cast; rfl
 have e2:(((Jj n.toNat+1)*(Jj n.toNat+1):Nat):Int)=(sq n+1)*(sq n+1):=by unfold sq; push_cast; rfl
 constructor
 . rw[<- e1]; omega
 . rw[<- e2]; omega
theorem CK{a b:Int}(ha:0<=a)(hb:0<=b)(h:a*a<b*b):a<b:=by
 by_cases c:a<b
 . exact c
 . have:b*b<=a*a:=Int.mul_le_mul (by omega) (by omega) hb ha;omega
theorem Gw{n r:Int}(h:0<=n)(hr:0<=r)(h1:r*r<=n)(h2:n<(r+1)*(r+1)):r=sq n:=by
 have⟨s1,s2⟩:=FO h;have p:=DR n;have a1:=CK (a:=r) (b:=sq n+1) hr (by omega) (by omega);have a2:=CK (a:=sq n) (b:=r+1) p (by omega) (by omega);omega
theorem RA{a b:Int}(ha:0<=a)(h:a<=b):sq a<=sq b:=by
 have⟨s1,_⟩:=FO ha;have⟨_,t2⟩:=FO (n:=b) (by omega);have:=CK (a:=sq a) (b:=sq b+1) (DR a) (by have:=DR b; omega) (by omega);omega
theorem Ur{n:Int}(h:0<=n)(hn:n<=2000000000000):0<=sq n/\sq n<1414214:=by
 refine⟨DR n,?_⟩;have⟨s1,_⟩:=FO h;exact CK (DR n) (by omega) (by omega)
structure Root(n l h:Int):Prop where
 bd:0<=l/\l<h/\h<=n+1
 lo:l*l<=n
 hi:n<h*h
theorem L6{n:Int}(h0:0<=n):Root n 0 (n+1) :=
 ⟨by omega,by omega,by
  have e:(n+1)*(n+1)=n*n+2*n+1:=by simp only[Int.add_mul,Int.mul_add]; omega
  have:=Int.mul_nonneg h0 h0;omega⟩
theorem RB{n l h:Int}(R:Root n l h):0<=l/\l<h/\h<=n+1:=R.bd
theorem PE{n m:Int}(h0:0<=n)(hm:0<m):0<=n / m/\n / m<=n :=
 ⟨Int.ediv_nonneg h0 (by omega),Int.ediv_le_self _ h0⟩
theorem RD{n l h m:Int}(R:Root n l h)(m1:0<m)(m2:m<h)(c:m<=n / m):Root n m h :=
 ⟨⟨by omega,m2,R.bd.2.2⟩,(Int.le_ediv_iff_mul_le m1).1 c,R.hi⟩
theorem NZ{n l h m:Int}(R:Root n l h)(m1:l<m)(c:¬ m<=n / m)(m2:m<=n+1):Root n l m :=
 ⟨⟨R.bd.1,m1,m2⟩,R.lo,by
  have hm:0<m:=by have:=R.bd.1; omega
  have:=mt (Int.le_ediv_iff_mul_le hm).2 c;omega⟩
theorem PF{n l h:Int}(h0:0<=n)(R:Root n l h)(g:h-l<=1):l=sq n:=by
 have b:=R.bd;have e:h=l+1:=by omega
 subst e;exact Gw h0 b.1 R.lo R.hi
structure Root2(n l h:Int):Prop where
 bd:0<=l/\l<=h/\h<=2000000
 lo:l*l<=n
 hi:n<(h+1)*(h+1)
theorem KQ{n:Int}(h0:0<=n)(hn:n<=2000000000000):Root2 n 0 2000000:=⟨by omega,by omega,by omega⟩
theorem PG{n l h:Int}(R:Root2 n l h):0<=l/\l<=h/\h<=2000000:=R.bd
theorem PH{n l h m:Int}(R:Root2 n l h)(m1:0<m)(m2:m<=h)(c:m*m<=n):Root2 n m h :=
 ⟨⟨by omega,m2,R.bd.2.2⟩,c,R.hi⟩
theorem L8{n l h m:Int}(R:Root2 n l h)(m1:l<m)(m2:m<=h)(c:¬ m*m<=n):Root2 n l (m-1) :=
 ⟨⟨R.bd.1,by omega,by have:=R.bd.2.2; omega⟩,R.lo,by rw[show m-1+1=m from by omega]; omega⟩
theorem N2{n l h:Int}(h0:0<=n)(R:Root2 n l h)(g:h<=l):l=sq n:=by
 have b:=R.bd;have e:h=l:=by omega
 subst e;exact Gw h0 b.1 R.lo R.hi
end M
end Go.Proofs.YtaemcekcancpdaaGreatDoor
namespace Go.Proofs.YtaemcekcancpdaaGreatDoor
open Go.RowKit
open M
theorem BK{k:IntKind}{a b:Int}(h:a=b):Ending.returned (.int k a)=.returned (.int k b):=by rw[h]
theorem Gx{k:IntKind}{a b:Int}{c d:Bool}(h:a=b)(g:c=d):Ending.returned (.tuple #[.int k a,.bool c])=.returned (.tuple #[.int k b,.bool d]):=by rw[h,g]
theorem Aq{c d:Bool}(g:c=d):Ending.returned (.bool c)=.returned (.bool d):=by rw[g]
theorem Gy(n lo hi:Int)(w:World):Calls Tryz.prog 27 #[.int .i64 n,.int .i64 lo,.int .i64 hi] w fun e w'=>e=.returned (.bool (Bc n lo hi))/\w=w':=by
 by_cases h1:lo<=n
 . by_cases h2:n<=hi
   . have E:=hid (BR ⟨h1,h2⟩);go_enter Tryz.func27,Tryz.ntmps27;go_wp2;go_ret;exact⟨Aq (by rw[E.out]),rfl⟩
   . have E:=hid (CJ (n:=n) (lo:=lo) (hi:=hi) (by omega));go_enter Tryz.func27,Tryz.ntmps27;go_wp2;go_ret;exact⟨Aq (by rw[E.out]),rfl⟩
 . have E:=hid (CJ (n:=n) (lo:=lo) (hi:=hi) (by omega));go_enter Tryz.func27,Tryz.ntmps27;go_wp2;go_ret;exact⟨Aq (by rw[E.out]),rfl⟩
theorem HZ(n:Int)(w:World):Calls Tryz.prog 101 #[.int .i64 n] w fun e w'=>e=.returned (.bool (okB n))/\w=w':=by
 by_cases h1:-2000000000<=n
 . by_cases h2:n<=2000000000
   . have E:=hid (Gv ⟨h1,h2⟩);go_enter Tryz.func101,Tryz.ntmps101;go_wp2;go_ret;exact⟨by rw[E.out]; rfl,rfl⟩
   . have E:=hid (M7 (n:=n) (by omega));go_enter Tryz.func101,Tryz.ntmps101;go_wp2;go_ret;exact⟨by rw[E.out]; rfl,rfl⟩
 . have E:=hid (M7 (n:=n) (by omega));go_enter Tryz.func101,Tryz.ntmps101;go_wp2;go_ret;exact⟨by rw[E.out]; rfl,rfl⟩
theorem KR(n:Int)(w:World):Calls Tryz.prog 108 #[.int .i64 n] w fun e w'=>e=.returned (.tuple #[.int .i64 (cl n),.bool (okB n)])/\w=w':=by
 rcases HW n with⟨h,E0⟩ | ⟨h,E0⟩ | ⟨h1,h2,E0⟩
 all_goals
  have E:=hid E0;clear E0;go_enter Tryz.func108,Tryz.ntmps108;go_wp2
  go_ret2
  exact⟨Gx (by rw[E.out.1]) (by rw[E.out.2]),rfl⟩
theorem Hs(a b:Int)(w:World):Calls Tryz.prog 102 #[.int .i64 a,.int .i64 b] w fun e w'=>e=.returned (.tuple #[.int .i64 (HX a b),.bool (HY a b)])/\w=w':=by
 cases ha:okB a
 . have E:=hid (Rw (b:=b) ha);go_enter Tryz.func102,Tryz.ntmps102;go_wp2_with (go_at_call 101; refine(HZ _ _).mono ?_; rintro e w' ⟨rfl,rfl⟩)
   go_ret2
   exact⟨Gx (by rw[E.out.1]) (by rw[E.out.2]),rfl⟩
 . cases hb:okB b
   . have E:=hid (Rx (a:=a) hb);go_enter Tryz.func102,Tryz.ntmps102;go_wp2_with (go_at_call 101; refine(HZ _ _).mono ?_; rintro e w' ⟨rfl,rfl⟩)
     go_ret2
     exact⟨Gx (by rw[E.out.1]) (by rw[E.out.2]),rfl⟩
   . have E:=hid (M9 ha hb);obtain⟨a1,a2⟩:=(Gt a).1 ha;obtain⟨b1,b2⟩:=(Gt b).1 hb;have p:=Cm a1 a2 b1 b2;go_enter Tryz.func102,Tryz.ntmps102;go_wp2_with (first | (go_at_call 101; refine(HZ _ _).mono ?_; rintro e w' ⟨rfl,rfl⟩) | (go_at_call 108; refine(KR _ _).mono ?_; rintro e w' ⟨rfl,rfl⟩))
     go_ret2
     exact⟨Gx (by rw[E.out.1]) (by rw[E.out.2]),rfl⟩
theorem PI(a b:Int)(w:World)(a1:-2000000000<=a)(a2:a<=2000000000)(b1:-2000000000<=b)(b2:b<=2000000000):Calls Tryz.prog 97 #[.int .i64 a,.int .i64 b] w fun e w'=>e=.returned (.int .i64 ((a*b).tdiv 1000))/\w=w':=by
 have p:=Cm a1 a2 b1 b2;go_enter Tryz.func97,Tryz.ntmps97;go_wp2;go_ret;exact⟨rfl,rfl⟩
open Go.RowKit
open M
theorem PK(n:Int)(w:World)(h0:0<=n)(hn:n<=2000000000000):Calls Tryz.prog 104 #[.int .i64 n] w fun e w'=>e=.returned (.int .i64 (sq n))/\w=w':=by
 go_enter Tryz.func104,Tryz.ntmps104;go_wp2
 go_loop [3,4] (fun s t=>∃ l h:Int,Root n l h/\s=.int .i64 l/\t=.int .i64 h) (fun s t=>(intOf t-intOf s).toNat)
 case atStart=>exact⟨0,n+1,L6 h0,rfl,rfl⟩
 case round =>
  obtain⟨l,h,R,rfl,rfl⟩:=hrel;obtain⟨l0,lh,hh⟩:=RB R;by_cases g:1<h-l
  . have m1:l<l+(h-l) / 2:=by omega
    have m2:l+(h-l) / 2<h:=by omega
    have d1:=PE (n:=n) (m:=l+(h-l) / 2) h0 (by omega);have z:((l+(h-l) / 2)==0)=false:=beq_eq_false_iff_ne.2 (by omega);by_cases c:l+(h-l) / 2<=n / (l+(h-l) / 2)
    . have R':=hid (RD R (by omega) m2 c);go_wp2
      go_round
      case rel=>exact⟨_,_,R'.out,rfl,rfl⟩
      case measure=>simp[intOf]; omega
    . have R':=hid (NZ R m1 c (by omega));go_wp2
      go_round
      case rel=>exact⟨_,_,R'.out,rfl,rfl⟩
      case measure=>simp[intOf]; omega
  . have E:=hid (PF h0 R (by omega));go_wp2;go_ret;exact⟨BK E.out,rfl⟩
theorem PL(n:Int)(w:World)(h0:0<=n)(hn:n<=2000000000000):Calls Tryz.prog 103 #[.int .i64 n] w fun e w'=>e=.returned (.int .i64 (sq n))/\w=w':=by
 go_enter Tryz.func103,Tryz.ntmps103;go_wp2
 go_loop [3,4] (fun s t=>∃ l h:Int,Root2 n l h/\s=.int .i64 l/\t=.int .i64 h) (fun s t=>(intOf t-intOf s).toNat)
 case atStart=>exact⟨0,2000000,KQ h0 hn,rfl,rfl⟩
 case round =>
  obtain⟨l,h,R,rfl,rfl⟩:=hrel;obtain⟨l0,lh,hh⟩:=PG R;by_cases g:l<h
  . have m1:l<(l+h+1) / 2:=by omega
    have m2:(l+h+1) / 2<=h:=by omega
    have d1:=Cm (a:=(l+h+1) / 2) (b:=(l+h+1) / 2) (by omega) (by omega) (by omega) (by omega);by_cases c:(l+h+1) / 2*((l+h+1) / 2)<=n
    . have R':=hid (PH R (by omega) m2 c);go_wp2
      go_round
      case rel=>exact⟨_,_,R'.out,rfl,rfl⟩
      case measure=>simp[intOf]; omega
    . have R':=hid (L8 R m1 m2 c);go_wp2
      go_round
      case rel=>exact⟨_,_,R'.out,rfl,rfl⟩
      case measure=>simp[intOf]; omega
  . have E:=hid (N2 h0 R (by omega));go_wp2;go_ret;exact⟨BK E.out,rfl⟩
end Go.Proofs.YtaemcekcancpdaaGreatDoor
namespace Go.Proofs.YtaemcekcancpdaaGreatDoor
namespace M
theorem add_comm(a b:Int):NX b a=NX a b/\NY b a=NY a b:=by
 unfold NX NY ok2;rw[Int.add_comm b a,Bool.and_comm (okB b) (okB a)];exact⟨rfl,rfl⟩
theorem add_zero{a:Int}(h:okB a=true):NX a 0=a/\NY a 0=true:=by
 have⟨e,f⟩:=Rv h Ry;rw[e,f,Int.add_zero];exact⟨M8 ((Gt a).1 h),h⟩
theorem mul_comm(a b:Int):HX b a=HX a b/\HY b a=HY a b:=by
 unfold HX HY ok2;rw[Int.mul_comm b a,Bool.and_comm (okB b) (okB a)];exact⟨rfl,rfl⟩
end M
end Go.Proofs.YtaemcekcancpdaaGreatDoor
