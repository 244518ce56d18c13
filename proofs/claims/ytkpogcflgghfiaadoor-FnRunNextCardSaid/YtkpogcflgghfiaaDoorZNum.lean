import Derived.KernelRfl
import Derived.Test.YtkpogcflgghfiaaDoorProg
import Derived.WalkKit
import Derived.LoopTactic
import Derived.Lib.Hide
import Derived.IntWalk
set_option linter.all false
set_option maxRecDepth 100000
set_option maxHeartbeats 8000000
open Go.Lib
namespace Go.Proofs.YtkpogcflgghfiaaDoor
namespace M
def A9 (n lo hi:Int):Bool:=decide (lo≤n∧n≤hi)
theorem BL {n lo hi:Int} (h:lo≤n∧n≤hi):A9 n lo hi=true:=by simp [A9,h]
theorem Cy {n lo hi:Int} (h:¬ (lo≤n∧n≤hi)):A9 n lo hi=false:=by simp only [A9,decide_eq_false_iff_not]; exact h
def okB (n:Int):Bool:=A9 n (-2000000000) 2000000000
def cl (n:Int):Int:=if n>2000000000 then 2000000000 else if n< -2000000000 then -2000000000 else n
theorem E3 (n:Int):okB n=true↔-2000000000≤n∧n≤2000000000:=by simp [okB,A9]
theorem F1 {n:Int} (h:-2000000000≤n∧n≤2000000000):okB n=true:=(E3 n).2 h
theorem Mk {n:Int} (h:¬ (-2000000000≤n∧n≤2000000000)):okB n=false:=by
 cases e:okB n with
 | false=>rfl
 | true=>exact absurd ((E3 n).1 e) h
theorem Kc {n:Int} (h:-2000000000≤n∧n≤2000000000):cl n=n:=by
 unfold cl; rw [if_neg (by omega),if_neg (by omega)]
theorem Hm (n:Int):(2000000000<n∧(cl n=2000000000∧okB n=false))∨(n< -2000000000∧(cl n=-2000000000∧okB n=false))∨(-2000000000≤n∧n≤2000000000∧(cl n=n∧okB n=true)):=by
 by_cases h1:2000000000<n
 · exact .inl ⟨h1,by unfold cl; rw [if_pos (by omega)],Mk (by omega)⟩
 · by_cases h2:n< -2000000000
   · exact .inr (.inl ⟨h2,by unfold cl; rw [if_neg (by omega),if_pos (by omega)],Mk (by omega)⟩)
   · exact .inr (.inr ⟨by omega,by omega,Kc (by omega),F1 (by omega)⟩)
theorem Ce {a b:Int} (a1:-2000000000≤a) (a2:a≤2000000000) (b1:-2000000000≤b) (b2:b≤2000000000):-4000000000000000000≤a*b∧a*b≤4000000000000000000:=by
 have h:(a*b).natAbs≤2000000000*2000000000:=by
  rw [Int.natAbs_mul]; exact Nat.mul_le_mul (by omega) (by omega)
 omega
def ok2 (a b:Int):Bool:=okB a&&okB b
def Lf (a b:Int):Int:=if ok2 a b then cl (a+b) else 0
def Kd (a b:Int):Bool:=ok2 a b&&okB (a+b)
def Hn (a b:Int):Int:=if ok2 a b then cl ((a*b).tdiv 1000) else 0
def Ho (a b:Int):Bool:=ok2 a b&&okB ((a*b).tdiv 1000)
theorem Ml {a b:Int} (h:okB a=true) (g:okB b=true):Lf a b=cl (a+b)∧Kd a b=okB (a+b):=by simp [Lf,Kd,ok2,h,g]
theorem QB {a b:Int} (h:okB a=false):Hn a b=0∧Ho a b=false:=by simp [Hn,Ho,ok2,h]
theorem QC {a b:Int} (h:okB b=false):Hn a b=0∧Ho a b=false:=by simp [Hn,Ho,ok2,h]
theorem Mm {a b:Int} (h:okB a=true) (g:okB b=true):Hn a b=cl ((a*b).tdiv 1000)∧Ho a b=okB ((a*b).tdiv 1000):=by simp [Hn,Ho,ok2,h,g]
theorem QD:okB 0=true:=F1 (by omega)
theorem Uo {n b:Int} (h1:-2000000000000≤n) (h2:n≤2000000000000):-2000000000000≤n.tdiv b∧n.tdiv b≤2000000000000:=by
 have h:(n.tdiv b).natAbs≤n.natAbs:=by
  rw [Int.natAbs_tdiv]; exact Nat.div_le_self _ _
 omega
def IC:Nat→Nat
 | 0=>0
 | n+1=>if (IC n+1)*(IC n+1)≤n+1 then IC n+1 else IC n
theorem OH (n:Nat):IC n*IC n≤n∧n<(IC n+1)*(IC n+1):=by
 induction n with
 | zero=>simp [IC]
 | succ n ih =>
  unfold IC;split
  · refine ⟨by assumption,?_⟩;have e:(IC n+1+1)*(IC n+1+1)=(IC n+1)*(IC n+1)+2*IC n+3:=by
     simp only [Nat.add_mul,Nat.mul_add]; omega
    omega
  · omega
def sq (n:Int):Int:=(IC n.toNat:Int)
theorem DD (n:Int):0≤sq n:=by unfold sq; omega
theorem Ft {n:Int} (h:0≤n):sq n*sq n≤n∧n<(sq n+1)*(sq n+1):=by
 have s:=OH n.toNat;have e1:((IC n.toNat*IC n.toNat:Nat):Int)=sq n*sq n:=by unfold sq; push_cast; rfl
 have e2:(((IC n.toNat+1)*(IC n.toNat+1):Nat):Int)=(sq n+1)*(sq n+1):=by unfold sq; push_cast; rfl
 constructor
 · rw [← e1]; omega
 · rw [← e2]; omega
theorem Cz {a b:Int} (ha:0≤a) (hb:0≤b) (h:a*a<b*b):a<b:=by
 by_cases c:a<b
 · exact c
 · have:b*b≤a*a:=Int.mul_le_mul (by omega) (by omega) hb ha;omega
theorem F2 {n r:Int} (h:0≤n) (hr:0≤r) (h1:r*r≤n) (h2:n<(r+1)*(r+1)):r=sq n:=by
 have ⟨s1,s2⟩:=Ft h;have p:=DD n;have a1:=Cz (a:=r) (b:=sq n+1) hr (by omega) (by omega);have a2:=Cz (a:=sq n) (b:=r+1) p (by omega) (by omega);omega
theorem QE {a b:Int} (ha:0≤a) (h:a≤b):sq a≤sq b:=by
 have ⟨s1,_⟩:=Ft ha;have ⟨_,t2⟩:=Ft (n:=b) (by omega);have:=Cz (a:=sq a) (b:=sq b+1) (DD a) (by have:=DD b; omega) (by omega);omega
def OI (a:Int):Bool:=decide (0≤a∧a≤2000000000)
def Su (a:Int):Int:=if OI a then sq (a*1000) else 0
theorem QF {a:Int} (h:¬ (0≤a∧a≤2000000000)):OI a=false:=by simp only [OI,decide_eq_false_iff_not]; exact h
theorem TG {n:Int} (h:0≤n) (hn:n≤2000000000000):0≤sq n∧sq n<1414214:=by
 refine ⟨DD n,?_⟩;have ⟨s1,_⟩:=Ft h;exact Cz (DD n) (by omega) (by omega)
theorem Sv {a:Int} (h:¬ (0≤a∧a≤2000000000)):Su a=0∧OI a=false:=by simp [Su,QF h]
theorem Up {a:Int} (h:a<0):Su a=0∧OI a=false:=Sv (by omega)
structure Root (n l h:Int):Prop where
 bd:0≤l∧l<h∧h≤n+1
 lo:l*l≤n
 hi:n<h*h
theorem Lg {n:Int} (h0:0≤n):Root n 0 (n+1) :=
 ⟨by omega,by omega,by
  have e:(n+1)*(n+1)=n*n+2*n+1:=by simp only [Int.add_mul,Int.mul_add]; omega
  have:=Int.mul_nonneg h0 h0;omega⟩
theorem QG {n l h:Int} (R:Root n l h):0≤l∧l<h∧h≤n+1:=R.bd
theorem OJ {n m:Int} (h0:0≤n) (hm:0<m):0≤n / m∧n / m≤n :=
 ⟨Int.ediv_nonneg h0 (by omega),Int.ediv_le_self _ h0⟩
theorem QH {n l h m:Int} (R:Root n l h) (m1:0<m) (m2:m<h) (c:m≤n / m):Root n m h :=
 ⟨⟨by omega,m2,R.bd.2.2⟩,(Int.le_ediv_iff_mul_le m1).1 c,R.hi⟩
theorem M6 {n l h m:Int} (R:Root n l h) (m1:l<m) (c:¬ m≤n / m) (m2:m≤n+1):Root n l m :=
 ⟨⟨R.bd.1,m1,m2⟩,R.lo,by
  have hm:0<m:=by have:=R.bd.1; omega
  have:=mt (Int.le_ediv_iff_mul_le hm).2 c;omega⟩
theorem OK {n l h:Int} (h0:0≤n) (R:Root n l h) (g:h-l≤1):l=sq n:=by
 have b:=R.bd;have e:h=l+1:=by omega
 subst e;exact F2 h0 b.1 R.lo R.hi
structure Root2 (n l h:Int):Prop where
 bd:0≤l∧l≤h∧h≤2000000
 lo:l*l≤n
 hi:n<(h+1)*(h+1)
theorem Ke {n:Int} (h0:0≤n) (hn:n≤2000000000000):Root2 n 0 2000000:=⟨by omega,by omega,by omega⟩
theorem OL {n l h:Int} (R:Root2 n l h):0≤l∧l≤h∧h≤2000000:=R.bd
theorem ON {n l h m:Int} (R:Root2 n l h) (m1:0<m) (m2:m≤h) (c:m*m≤n):Root2 n m h :=
 ⟨⟨by omega,m2,R.bd.2.2⟩,c,R.hi⟩
theorem Lh {n l h m:Int} (R:Root2 n l h) (m1:l<m) (m2:m≤h) (c:¬ m*m≤n):Root2 n l (m-1) :=
 ⟨⟨R.bd.1,by omega,by have:=R.bd.2.2; omega⟩,R.lo,by rw [show m-1+1=m from by omega]; omega⟩
theorem M7 {n l h:Int} (h0:0≤n) (R:Root2 n l h) (g:h≤l):l=sq n:=by
 have b:=R.bd;have e:h=l:=by omega
 subst e;exact F2 h0 b.1 R.lo R.hi
end M
end Go.Proofs.YtkpogcflgghfiaaDoor
namespace Go.Proofs.YtkpogcflgghfiaaDoor
open Go.RowKit
open M
theorem BD {k:IntKind} {a b:Int} (h:a=b):Ending.returned (.int k a)=.returned (.int k b):=by rw [h]
theorem F4 {k:IntKind} {a b:Int} {c d:Bool} (h:a=b) (g:c=d):Ending.returned (.tuple #[.int k a,.bool c])=.returned (.tuple #[.int k b,.bool d]):=by rw [h,g]
theorem Ao {c d:Bool} (g:c=d):Ending.returned (.bool c)=.returned (.bool d):=by rw [g]
theorem F5 (n lo hi:Int) (w:World):Calls Tryd.prog 20 #[.int .i64 n,.int .i64 lo,.int .i64 hi] w fun e w'=>e=.returned (.bool (A9 n lo hi))∧w=w':=by
 by_cases h1:lo≤n
 · by_cases h2:n≤hi
   · have E:=hid (BL ⟨h1,h2⟩);go_enter Tryd.func20,Tryd.ntmps20;go_wp2;go_ret;exact ⟨Ao (by rw [E.out]),rfl⟩
   · have E:=hid (Cy (n:=n) (lo:=lo) (hi:=hi) (by omega));go_enter Tryd.func20,Tryd.ntmps20;go_wp2;go_ret;exact ⟨Ao (by rw [E.out]),rfl⟩
 · have E:=hid (Cy (n:=n) (lo:=lo) (hi:=hi) (by omega));go_enter Tryd.func20,Tryd.ntmps20;go_wp2;go_ret;exact ⟨Ao (by rw [E.out]),rfl⟩
theorem Jd (n:Int) (w:World):Calls Tryd.prog 83 #[.int .i64 n] w fun e w'=>e=.returned (.bool (okB n))∧w=w':=by
 by_cases h1:-2000000000≤n
 · by_cases h2:n≤2000000000
   · have E:=hid (F1 ⟨h1,h2⟩);go_enter Tryd.func83,Tryd.ntmps83;go_wp2;go_ret;exact ⟨by rw [E.out]; rfl,rfl⟩
   · have E:=hid (Mk (n:=n) (by omega));go_enter Tryd.func83,Tryd.ntmps83;go_wp2;go_ret;exact ⟨by rw [E.out]; rfl,rfl⟩
 · have E:=hid (Mk (n:=n) (by omega));go_enter Tryd.func83,Tryd.ntmps83;go_wp2;go_ret;exact ⟨by rw [E.out]; rfl,rfl⟩
theorem Kf (n:Int) (w:World):Calls Tryd.prog 97 #[.int .i64 n] w fun e w'=>e=.returned (.tuple #[.int .i64 (cl n),.bool (okB n)])∧w=w':=by
 rcases Hm n with ⟨h,E0⟩ | ⟨h,E0⟩ | ⟨h1,h2,E0⟩
 all_goals
  have E:=hid E0;clear E0;go_enter Tryd.func97,Tryd.ntmps97;go_wp2
  go_ret2
  exact ⟨F4 (by rw [E.out.1]) (by rw [E.out.2]),rfl⟩
theorem GR (a b:Int) (w:World):Calls Tryd.prog 84 #[.int .i64 a,.int .i64 b] w fun e w'=>e=.returned (.tuple #[.int .i64 (Hn a b),.bool (Ho a b)])∧w=w':=by
 cases ha:okB a
 · have E:=hid (QB (b:=b) ha);go_enter Tryd.func84,Tryd.ntmps84;go_wp2_with (go_at_call 83; refine (Jd _ _).mono ?_; rintro e w' ⟨rfl,rfl⟩)
   go_ret2
   exact ⟨F4 (by rw [E.out.1]) (by rw [E.out.2]),rfl⟩
 · cases hb:okB b
   · have E:=hid (QC (a:=a) hb);go_enter Tryd.func84,Tryd.ntmps84;go_wp2_with (go_at_call 83; refine (Jd _ _).mono ?_; rintro e w' ⟨rfl,rfl⟩)
     go_ret2
     exact ⟨F4 (by rw [E.out.1]) (by rw [E.out.2]),rfl⟩
   · have E:=hid (Mm ha hb);obtain ⟨a1,a2⟩:=(E3 a).1 ha;obtain ⟨b1,b2⟩:=(E3 b).1 hb;have p:=Ce a1 a2 b1 b2;go_enter Tryd.func84,Tryd.ntmps84;go_wp2_with (first | (go_at_call 83; refine (Jd _ _).mono ?_; rintro e w' ⟨rfl,rfl⟩) | (go_at_call 97; refine (Kf _ _).mono ?_; rintro e w' ⟨rfl,rfl⟩))
     go_ret2
     exact ⟨F4 (by rw [E.out.1]) (by rw [E.out.2]),rfl⟩
theorem OO (a b:Int) (w:World) (a1:-2000000000≤a) (a2:a≤2000000000) (b1:-2000000000≤b) (b2:b≤2000000000):Calls Tryd.prog 99 #[.int .i64 a,.int .i64 b] w fun e w'=>e=.returned (.int .i64 ((a*b).tdiv 1000))∧w=w':=by
 have p:=Ce a1 a2 b1 b2;go_enter Tryd.func99,Tryd.ntmps99;go_wp2;go_ret;exact ⟨rfl,rfl⟩
end Go.Proofs.YtkpogcflgghfiaaDoor
namespace Go.Proofs.YtkpogcflgghfiaaDoor
open Go.RowKit
open M
theorem OQ (n:Int) (w:World) (h0:0≤n) (hn:n≤2000000000000):Calls Tryd.prog 88 #[.int .i64 n] w fun e w'=>e=.returned (.int .i64 (sq n))∧w=w':=by
 go_enter Tryd.func88,Tryd.ntmps88;go_wp2
 go_loop [3,4] (fun s t=>∃ l h:Int,Root n l h∧s=.int .i64 l∧t=.int .i64 h) (fun s t=>(intOf t-intOf s).toNat)
 case atStart=>exact ⟨0,n+1,Lg h0,rfl,rfl⟩
 case round =>
  obtain ⟨l,h,R,rfl,rfl⟩:=hrel;obtain ⟨l0,lh,hh⟩:=QG R;by_cases g:1<h-l
  · have m1:l<l+(h-l) / 2:=by omega
    have m2:l+(h-l) / 2<h:=by omega
    have d1:=OJ (n:=n) (m:=l+(h-l) / 2) h0 (by omega);have z:((l+(h-l) / 2)==0)=false:=beq_eq_false_iff_ne.2 (by omega);by_cases c:l+(h-l) / 2≤n / (l+(h-l) / 2)
    · have R':=hid (QH R (by omega) m2 c);go_wp2
      go_round
      case rel=>exact ⟨_,_,R'.out,rfl,rfl⟩
      case measure=>simp [intOf]; omega
    · have R':=hid (M6 R m1 c (by omega));go_wp2
      go_round
      case rel=>exact ⟨_,_,R'.out,rfl,rfl⟩
      case measure=>simp [intOf]; omega
  · have E:=hid (OK h0 R (by omega));go_wp2;go_ret;exact ⟨BD E.out,rfl⟩
theorem OS (n:Int) (w:World) (h0:0≤n) (hn:n≤2000000000000):Calls Tryd.prog 101 #[.int .i64 n] w fun e w'=>e=.returned (.int .i64 (sq n))∧w=w':=by
 go_enter Tryd.func101,Tryd.ntmps101;go_wp2
 go_loop [3,4] (fun s t=>∃ l h:Int,Root2 n l h∧s=.int .i64 l∧t=.int .i64 h) (fun s t=>(intOf t-intOf s).toNat)
 case atStart=>exact ⟨0,2000000,Ke h0 hn,rfl,rfl⟩
 case round =>
  obtain ⟨l,h,R,rfl,rfl⟩:=hrel;obtain ⟨l0,lh,hh⟩:=OL R;by_cases g:l<h
  · have m1:l<(l+h+1) / 2:=by omega
    have m2:(l+h+1) / 2≤h:=by omega
    have d1:=Ce (a:=(l+h+1) / 2) (b:=(l+h+1) / 2) (by omega) (by omega) (by omega) (by omega);by_cases c:(l+h+1) / 2*((l+h+1) / 2)≤n
    · have R':=hid (ON R (by omega) m2 c);go_wp2
      go_round
      case rel=>exact ⟨_,_,R'.out,rfl,rfl⟩
      case measure=>simp [intOf]; omega
    · have R':=hid (Lh R m1 m2 c);go_wp2
      go_round
      case rel=>exact ⟨_,_,R'.out,rfl,rfl⟩
      case measure=>simp [intOf]; omega
  · have E:=hid (M7 h0 R (by omega));go_wp2;go_ret;exact ⟨BD E.out,rfl⟩
end Go.Proofs.YtkpogcflgghfiaaDoor
namespace Go.Proofs.YtkpogcflgghfiaaDoor
namespace M
theorem add_comm (a b:Int):Lf b a=Lf a b∧Kd b a=Kd a b:=by
 unfold Lf Kd ok2;rw [Int.add_comm b a,Bool.and_comm (okB b) (okB a)];exact ⟨rfl,rfl⟩
theorem add_zero {a:Int} (h:okB a=true):Lf a 0=a∧Kd a 0=true:=by
 have ⟨e,f⟩:=Ml h QD;rw [e,f,Int.add_zero];exact ⟨Kc ((E3 a).1 h),h⟩
theorem TH {a b:Int} (h:Kd a b=true):okB a=true∧okB b=true∧okB (a+b)=true∧Lf a b=a+b:=by
 have h0:=h;unfold Kd ok2 at h;simp only [Bool.and_eq_true] at h;obtain ⟨⟨h1,h2⟩,h3⟩:=h;have ⟨e,_⟩:=Ml h1 h2;exact ⟨h1,h2,h3,by rw [e,Kc ((E3 _).1 h3)]⟩
theorem mul_comm (a b:Int):Hn b a=Hn a b∧Ho b a=Ho a b:=by
 unfold Hn Ho ok2;rw [Int.mul_comm b a,Bool.and_comm (okB b) (okB a)];exact ⟨rfl,rfl⟩
end M
end Go.Proofs.YtkpogcflgghfiaaDoor
