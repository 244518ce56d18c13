import Derived.KernelRfl
import Derived.Test.YtaemcekcancpdabGreatDoorProg
import Derived.WalkKit
import Derived.LoopTactic
import Derived.Lib.Hide
import Derived.IntWalk
set_option linter.all false
set_option maxRecDepth 100000
set_option maxHeartbeats 8000000
open Go.Lib
namespace Go.Proofs.YtaemcekcancpdabGreatDoor
namespace M
def Be(n lo hi:Int):Bool:=decide (lo<=n/\n<=hi)
theorem BO{n lo hi:Int}(h:lo<=n/\n<=hi):Be n lo hi=true:=by simp[Be,h]
theorem CJ{n lo hi:Int}(h:¬ (lo<=n/\n<=hi)):Be n lo hi=false:=by simp only[Be,decide_eq_false_iff_not]; exact h
def okB(n:Int):Bool:=Be n (-2000000000) 2000000000
def cl(n:Int):Int:=if n>2000000000 then 2000000000 else if n< -2000000000 then -2000000000 else n
theorem Gn(n:Int):okB n=true↔-2000000000<=n/\n<=2000000000:=by simp[okB,Be]
theorem Gp{n:Int}(h:-2000000000<=n/\n<=2000000000):okB n=true:=(Gn n).2 h
theorem Ng{n:Int}(h:¬ (-2000000000<=n/\n<=2000000000)):okB n=false:=by
 cases e:okB n with
 | false=>rfl
 | true=>exact absurd ((Gn n).1 e) h
theorem Nh{n:Int}(h:-2000000000<=n/\n<=2000000000):cl n=n:=by
 unfold cl; rw[if_neg (by omega),if_neg (by omega)]
theorem HP(n:Int):(2000000000<n/\(cl n=2000000000/\okB n=false))\/(n< -2000000000/\(cl n=-2000000000/\okB n=false))\/(-2000000000<=n/\n<=2000000000/\(cl n=n/\okB n=true)):=by
 by_cases h1:2000000000<n
 . exact .inl ⟨h1,by unfold cl; rw[if_pos (by omega)],Ng (by omega)⟩
 . by_cases h2:n< -2000000000
   . exact .inr (.inl ⟨h2,by unfold cl; rw[if_neg (by omega),if_pos (by omega)],Ng (by omega)⟩)
   . exact .inr (.inr ⟨by omega,by omega,Nh (by omega),Gp (by omega)⟩)
theorem Ck{a b:Int}(a1:-2000000000<=a)(a2:a<=2000000000)(b1:-2000000000<=b)(b2:b<=2000000000):-4000000000000000000<=a*b/\a*b<=4000000000000000000:=by
 have h:(a*b).natAbs<=2000000000*2000000000:=by
  rw[Int.natAbs_mul]; exact Nat.mul_le_mul (by omega) (by omega)
 omega
def ok2(a b:Int):Bool:=okB a&&okB b
def NY(a b:Int):Int:=if ok2 a b then cl (a+b) else 0
def NZ(a b:Int):Bool:=ok2 a b&&okB (a+b)
def HQ(a b:Int):Int:=if ok2 a b then cl ((a*b).tdiv 1000) else 0
def HR(a b:Int):Bool:=ok2 a b&&okB ((a*b).tdiv 1000)
theorem RS{a b:Int}(h:okB a=true)(g:okB b=true):NY a b=cl (a+b)/\NZ a b=okB (a+b):=by simp[NY,NZ,ok2,h,g]
theorem RU{a b:Int}(h:okB a=false):HQ a b=0/\HR a b=false:=by simp[HQ,HR,ok2,h]
theorem RV{a b:Int}(h:okB b=false):HQ a b=0/\HR a b=false:=by simp[HQ,HR,ok2,h]
theorem Ni{a b:Int}(h:okB a=true)(g:okB b=true):HQ a b=cl ((a*b).tdiv 1000)/\HR a b=okB ((a*b).tdiv 1000):=by simp[HQ,HR,ok2,h,g]
theorem RX:okB 0=true:=Gp (by omega)
def Jm:Nat->Nat
 | 0=>0
 | n+1=>if (Jm n+1)*(Jm n+1)<=n+1 then Jm n+1 else Jm n
theorem PN(n:Nat):Jm n*Jm n<=n/\n<(Jm n+1)*(Jm n+1):=by
 induction n with
 | zero=>simp[Jm]
 | succ n ih =>
  unfold Jm;split
  . refine⟨by assumption,?_⟩;have e:(Jm n+1+1)*(Jm n+1+1)=(Jm n+1)*(Jm n+1)+2*Jm n+3:=by
     simp only[Nat.add_mul,Nat.mul_add]; omega
    omega
  . omega
def sq(n:Int):Int:=(Jm n.toNat:Int)
theorem DL(n:Int):0<=sq n:=by unfold sq; omega
theorem FH{n:Int}(h:0<=n):sq n*sq n<=n/\n<(sq n+1)*(sq n+1):=by
 have s:=PN n.toNat;have e1:((Jm n.toNat*Jm n.toNat:Nat):Int)=sq n*sq n:=by unfold sq; push_cast; rfl
 have e2:(((Jm n.toNat+1)*(Jm n.toNat+1):Nat):Int)=(sq n+1)*(sq n+1):=by unfold sq; push_cast; rfl
 constructor
 . rw[<- e1]; omega
 . rw[<- e2]; omega
theorem CK{a b:Int}(ha:0<=a)(hb:0<=b)(h:a*a<b*b):a<b:=by
 by_cases c:a<b
 . exact c
 . have:b*b<=a*a:=Int.mul_le_mul (by omega) (by omega) hb ha;omega
theorem Gq{n r:Int}(h:0<=n)(hr:0<=r)(h1:r*r<=n)(h2:n<(r+1)*(r+1)):r=sq n:=by
 have⟨s1,s2⟩:=FH h;have p:=DL n;have a1:=CK (a:=r) (b:=sq n+1) hr (by omega) (by omega);have a2:=CK (a:=sq n) (b:=r+1) p (by omega) (by omega);omega
theorem RY{a b:Int}(ha:0<=a)(h:a<=b):sq a<=sq b:=by
 have⟨s1,_⟩:=FH ha;have⟨_,t2⟩:=FH (n:=b) (by omega);have:=CK (a:=sq a) (b:=sq b+1) (DL a) (by have:=DL b; omega) (by omega);omega
theorem UR{n:Int}(h:0<=n)(hn:n<=2000000000000):0<=sq n/\sq n<1414214:=by
 refine⟨DL n,?_⟩;have⟨s1,_⟩:=FH h;exact CK (DL n) (by omega) (by omega)
structure Root(n l h:Int):Prop where
 bd:0<=l/\l<h/\h<=n+1
 lo:l*l<=n
 hi:n<h*h
theorem Me{n:Int}(h0:0<=n):Root n 0 (n+1) :=
 ⟨by omega,by omega,by
  have e:(n+1)*(n+1)=n*n+2*n+1:=by simp only[Int.add_mul,Int.mul_add]; omega
  have:=Int.mul_nonneg h0 h0;omega⟩
theorem RZ{n l h:Int}(R:Root n l h):0<=l/\l<h/\h<=n+1:=R.bd
theorem PO{n m:Int}(h0:0<=n)(hm:0<m):0<=n / m/\n / m<=n :=
 ⟨Int.ediv_nonneg h0 (by omega),Int.ediv_le_self _ h0⟩
theorem Sa{n l h m:Int}(R:Root n l h)(m1:0<m)(m2:m<h)(c:m<=n / m):Root n m h :=
 ⟨⟨by omega,m2,R.bd.2.2⟩,(Int.le_ediv_iff_mul_le m1).1 c,R.hi⟩
theorem N2{n l h m:Int}(R:Root n l h)(m1:l<m)(c:¬ m<=n / m)(m2:m<=n+1):Root n l m :=
 ⟨⟨R.bd.1,m1,m2⟩,R.lo,by
  have hm:0<m:=by have:=R.bd.1; omega
  have:=mt (Int.le_ediv_iff_mul_le hm).2 c;omega⟩
theorem PQ{n l h:Int}(h0:0<=n)(R:Root n l h)(g:h-l<=1):l=sq n:=by
 have b:=R.bd;have e:h=l+1:=by omega
 subst e;exact Gq h0 b.1 R.lo R.hi
structure Root2(n l h:Int):Prop where
 bd:0<=l/\l<=h/\h<=2000000
 lo:l*l<=n
 hi:n<(h+1)*(h+1)
theorem KW{n:Int}(h0:0<=n)(hn:n<=2000000000000):Root2 n 0 2000000:=⟨by omega,by omega,by omega⟩
theorem PR{n l h:Int}(R:Root2 n l h):0<=l/\l<=h/\h<=2000000:=R.bd
theorem PS{n l h m:Int}(R:Root2 n l h)(m1:0<m)(m2:m<=h)(c:m*m<=n):Root2 n m h :=
 ⟨⟨by omega,m2,R.bd.2.2⟩,c,R.hi⟩
theorem Mf{n l h m:Int}(R:Root2 n l h)(m1:l<m)(m2:m<=h)(c:¬ m*m<=n):Root2 n l (m-1) :=
 ⟨⟨R.bd.1,by omega,by have:=R.bd.2.2; omega⟩,R.lo,by rw[show m-1+1=m from by omega]; omega⟩
theorem N3{n l h:Int}(h0:0<=n)(R:Root2 n l h)(g:h<=l):l=sq n:=by
 have b:=R.bd;have e:h=l:=by omega
 subst e;exact Gq h0 b.1 R.lo R.hi
end M
end Go.Proofs.YtaemcekcancpdabGreatDoor
namespace Go.Proofs.YtaemcekcancpdabGreatDoor
open Go.RowKit
open M
theorem AX{k:IntKind}{a b:Int}(h:a=b):Ending.returned (.int k a)=.returned (.int k b):=by rw[h]
theorem Gs{k:IntKind}{a b:Int}{c d:Bool}(h:a=b)(g:c=d):Ending.returned (.tuple #[.int k a,.bool c])=.returned (.tuple #[.int k b,.bool d]):=by rw[h,g]
theorem An{c d:Bool}(g:c=d):Ending.returned (.bool c)=.returned (.bool d):=by rw[g]
theorem HT(n lo hi:Int)(w:World):Calls Tryz.prog 44 #[.int .i64 n,.int .i64 lo,.int .i64 hi] w fun e w'=>e=.returned (.bool (Be n lo hi))/\w=w':=by
 by_cases h1:lo<=n
 . by_cases h2:n<=hi
   . have E:=hid (BO ⟨h1,h2⟩);go_enter Tryz.func44,Tryz.ntmps44;go_wp2;go_ret;exact⟨An (by rw[E.out]),rfl⟩
   . have E:=hid (CJ (n:=n) (lo:=lo) (hi:=hi) (by omega));go_enter Tryz.func44,Tryz.ntmps44;go_wp2;go_ret;exact⟨An (by rw[E.out]),rfl⟩
 . have E:=hid (CJ (n:=n) (lo:=lo) (hi:=hi) (by omega));go_enter Tryz.func44,Tryz.ntmps44;go_wp2;go_ret;exact⟨An (by rw[E.out]),rfl⟩
theorem HU(n:Int)(w:World):Calls Tryz.prog 130 #[.int .i64 n] w fun e w'=>e=.returned (.bool (okB n))/\w=w':=by
 by_cases h1:-2000000000<=n
 . by_cases h2:n<=2000000000
   . have E:=hid (Gp ⟨h1,h2⟩);go_enter Tryz.func130,Tryz.ntmps130;go_wp2;go_ret;exact⟨by rw[E.out]; rfl,rfl⟩
   . have E:=hid (Ng (n:=n) (by omega));go_enter Tryz.func130,Tryz.ntmps130;go_wp2;go_ret;exact⟨by rw[E.out]; rfl,rfl⟩
 . have E:=hid (Ng (n:=n) (by omega));go_enter Tryz.func130,Tryz.ntmps130;go_wp2;go_ret;exact⟨by rw[E.out]; rfl,rfl⟩
theorem KX(n:Int)(w:World):Calls Tryz.prog 136 #[.int .i64 n] w fun e w'=>e=.returned (.tuple #[.int .i64 (cl n),.bool (okB n)])/\w=w':=by
 rcases HP n with⟨h,E0⟩ | ⟨h,E0⟩ | ⟨h1,h2,E0⟩
 all_goals
  have E:=hid E0;clear E0;go_enter Tryz.func136,Tryz.ntmps136;go_wp2
  go_ret2
  exact⟨Gs (by rw[E.out.1]) (by rw[E.out.2]),rfl⟩
theorem Hs(a b:Int)(w:World):Calls Tryz.prog 131 #[.int .i64 a,.int .i64 b] w fun e w'=>e=.returned (.tuple #[.int .i64 (HQ a b),.bool (HR a b)])/\w=w':=by
 cases ha:okB a
 . have E:=hid (RU (b:=b) ha);go_enter Tryz.func131,Tryz.ntmps131;go_wp2_with (go_at_call 130; refine(HU _ _).mono ?_; rintro e w' ⟨rfl,rfl⟩)
   go_ret2
   exact⟨Gs (by rw[E.out.1]) (by rw[E.out.2]),rfl⟩
 . cases hb:okB b
   . have E:=hid (RV (a:=a) hb);go_enter Tryz.func131,Tryz.ntmps131;go_wp2_with (go_at_call 130; refine(HU _ _).mono ?_; rintro e w' ⟨rfl,rfl⟩)
     go_ret2
     exact⟨Gs (by rw[E.out.1]) (by rw[E.out.2]),rfl⟩
   . have E:=hid (Ni ha hb);obtain⟨a1,a2⟩:=(Gn a).1 ha;obtain⟨b1,b2⟩:=(Gn b).1 hb;have p:=Ck a1 a2 b1 b2;go_enter Tryz.func131,Tryz.ntmps131;go_wp2_with (first | (go_at_call 130; refine(HU _ _).mono ?_; rintro e w' ⟨rfl,rfl⟩) | (go_at_call 136; refine(KX _ _).mono ?_; rintro e w' ⟨rfl,rfl⟩))
     go_ret2
     exact⟨Gs (by rw[E.out.1]) (by rw[E.out.2]),rfl⟩
theorem PT(a b:Int)(w:World)(a1:-2000000000<=a)(a2:a<=2000000000)(b1:-2000000000<=b)(b2:b<=2000000000):Calls Tryz.prog 120 #[.int .i64 a,.int .i64 b] w fun e w'=>e=.returned (.int .i64 ((a*b).tdiv 1000))/\w=w':=by
 have p:=Ck a1 a2 b1 b2;go_enter Tryz.func120,Tryz.ntmps120;go_wp2;go_ret;exact⟨rfl,rfl⟩
open Go.RowKit
open M
theorem PU(n:Int)(w:World)(h0:0<=n)(hn:n<=2000000000000):Calls Tryz.prog 105 #[.int .i64 n] w fun e w'=>e=.returned (.int .i64 (sq n))/\w=w':=by
 go_enter Tryz.func105,Tryz.ntmps105;go_wp2
 go_loop [3,4] (fun s t=>∃ l h:Int,Root n l h/\s=.int .i64 l/\t=.int .i64 h) (fun s t=>(intOf t-intOf s).toNat)
 case atStart=>exact⟨0,n+1,Me h0,rfl,rfl⟩
 case round =>
  obtain⟨l,h,R,rfl,rfl⟩:=hrel;obtain⟨l0,lh,hh⟩:=RZ R;by_cases g:1<h-l
  . have m1:l<l+(h-l) / 2:=by omega
    have m2:l+(h-l) / 2<h:=by omega
    have d1:=PO (n:=n) (m:=l+(h-l) / 2) h0 (by omega);have z:((l+(h-l) / 2)==0)=false:=beq_eq_false_iff_ne.2 (by omega);by_cases c:l+(h-l) / 2<=n / (l+(h-l) / 2)
    . have R':=hid (Sa R (by omega) m2 c);go_wp2
      go_round
      case rel=>exact⟨_,_,R'.out,rfl,rfl⟩
      case measure=>simp[intOf]; omega
    . have R':=hid (N2 R m1 c (by omega));go_wp2
      go_round
      case rel=>exact⟨_,_,R'.out,rfl,rfl⟩
      case measure=>simp[intOf]; omega
  . have E:=hid (PQ h0 R (by omega));go_wp2;go_ret;exact⟨AX E.out,rfl⟩
theorem PV(n:Int)(w:World)(h0:0<=n)(hn:n<=2000000000000):Calls Tryz.prog 128 #[.int .i64 n] w fun e w'=>e=.returned (.int .i64 (sq n))/\w=w':=by
 go_enter Tryz.func128,Tryz.ntmps128;go_wp2
 go_loop [3,4] (fun s t=>∃ l h:Int,Root2 n l h/\s=.int .i64 l/\t=.int .i64 h) (fun s t=>(intOf t-intOf s).toNat)
 case atStart=>exact⟨0,2000000,KW h0 hn,rfl,rfl⟩
 case round =>
  obtain⟨l,h,R,rfl,rfl⟩:=hrel;obtain⟨l0,lh,hh⟩:=PR R;by_cases g:l<h
  . have m1:l<(l+h+1) / 2:=by omega
    have m2:(l+h+1) / 2<=h:=by omega
    have d1:=Ck (a:=(l+h+1) / 2) (b:=(l+h+1) / 2) (by omega) (by omega) (by omega) (by omega);by_cases c:(l+h+1) / 2*((l+h+1) / 2)<=n
    . have R':=hid (PS R (by omega) m2 c);go_wp2
      go_round
      case rel=>exact⟨_,_,R'.out,rfl,rfl⟩
      case measure=>simp[intOf]; omega
    . have R':=hid (Mf R m1 m2 c);go_wp2
      go_round
      case rel=>exact⟨_,_,R'.out,rfl,rfl⟩
      case measure=>simp[intOf]; omega
  . have E:=hid (N3 h0 R (by omega));go_wp2;go_ret;exact⟨AX E.out,rfl⟩
end Go.Proofs.YtaemcekcancpdabGreatDoor
namespace Go.Proofs.YtaemcekcancpdabGreatDoor
namespace M
theorem add_comm(a b:Int):NY b a=NY a b/\NZ b a=NZ a b:=by
 unfold NY NZ ok2;rw[Int.add_comm b a,Bool.and_comm (okB b) (okB a)];exact⟨rfl,rfl⟩
theorem add_zero{a:Int}(h:okB a=true):NY a 0=a/\NZ a 0=true:=by
 have⟨e,f⟩:=RS h RX;rw[e,f,Int.add_zero];exact⟨Nh ((Gn a).1 h),h⟩
theorem mul_comm(a b:Int):HQ b a=HQ a b/\HR b a=HR a b:=by
 unfold HQ HR ok2;rw[Int.mul_comm b a,Bool.and_comm (okB b) (okB a)];exact⟨rfl,rfl⟩
end M
end Go.Proofs.YtaemcekcancpdabGreatDoor
