import Derived.KernelRfl
import Derived.Test.YtkpogcflgghfiaaDoorProg
import Derived.WalkKit
import Derived.LoopTactic
import Derived.Lib.Hide
import Derived.IntWalk
set_option linter.all false
set_option maxRecDepth 100000
set_option maxHeartbeats 8000000
open Go.Lib
namespace Go.Proofs.YtkpogcflgghfiaaDoor
namespace M
def Ba (n lo hi:Int):Bool:=decide (lo≤n∧n≤hi)
theorem BN {n lo hi:Int} (h:lo≤n∧n≤hi):Ba n lo hi=true:=by simp [Ba,h]
theorem CC {n lo hi:Int} (h:¬ (lo≤n∧n≤hi)):Ba n lo hi=false:=by simp only [Ba,decide_eq_false_iff_not]; exact h
def okB (n:Int):Bool:=Ba n (-2000000000) 2000000000
def cl (n:Int):Int:=if n>2000000000 then 2000000000 else if n< -2000000000 then -2000000000 else n
theorem Ff (n:Int):okB n=true↔-2000000000≤n∧n≤2000000000:=by simp [okB,Ba]
theorem F9 {n:Int} (h:-2000000000≤n∧n≤2000000000):okB n=true:=(Ff n).2 h
theorem Mq {n:Int} (h:¬ (-2000000000≤n∧n≤2000000000)):okB n=false:=by
 cases e:okB n with
 | false=>rfl
 | true=>exact absurd ((Ff n).1 e) h
theorem Kh {n:Int} (h:-2000000000≤n∧n≤2000000000):cl n=n:=by
 unfold cl; rw [if_neg (by omega),if_neg (by omega)]
theorem Hu (n:Int):(2000000000<n∧(cl n=2000000000∧okB n=false))∨(n< -2000000000∧(cl n=-2000000000∧okB n=false))∨(-2000000000≤n∧n≤2000000000∧(cl n=n∧okB n=true)):=by
 by_cases h1:2000000000<n
 · exact .inl ⟨h1,by unfold cl; rw [if_pos (by omega)],Mq (by omega)⟩
 · by_cases h2:n< -2000000000
   · exact .inr (.inl ⟨h2,by unfold cl; rw [if_neg (by omega),if_pos (by omega)],Mq (by omega)⟩)
   · exact .inr (.inr ⟨by omega,by omega,Kh (by omega),F9 (by omega)⟩)
theorem Ci {a b:Int} (a1:-2000000000≤a) (a2:a≤2000000000) (b1:-2000000000≤b) (b2:b≤2000000000):-4000000000000000000≤a*b∧a*b≤4000000000000000000:=by
 have h:(a*b).natAbs≤2000000000*2000000000:=by
  rw [Int.natAbs_mul]; exact Nat.mul_le_mul (by omega) (by omega)
 omega
def ok2 (a b:Int):Bool:=okB a&&okB b
def Lm (a b:Int):Int:=if ok2 a b then cl (a+b) else 0
def Ki (a b:Int):Bool:=ok2 a b&&okB (a+b)
def Hv (a b:Int):Int:=if ok2 a b then cl ((a*b).tdiv 1000) else 0
def Hw (a b:Int):Bool:=ok2 a b&&okB ((a*b).tdiv 1000)
theorem Mr {a b:Int} (h:okB a=true) (g:okB b=true):Lm a b=cl (a+b)∧Ki a b=okB (a+b):=by simp [Lm,Ki,ok2,h,g]
theorem QH {a b:Int} (h:okB a=false):Hv a b=0∧Hw a b=false:=by simp [Hv,Hw,ok2,h]
theorem QI {a b:Int} (h:okB b=false):Hv a b=0∧Hw a b=false:=by simp [Hv,Hw,ok2,h]
theorem Ms {a b:Int} (h:okB a=true) (g:okB b=true):Hv a b=cl ((a*b).tdiv 1000)∧Hw a b=okB ((a*b).tdiv 1000):=by simp [Hv,Hw,ok2,h,g]
theorem QJ:okB 0=true:=F9 (by omega)
theorem Ut {n b:Int} (h1:-2000000000000≤n) (h2:n≤2000000000000):-2000000000000≤n.tdiv b∧n.tdiv b≤2000000000000:=by
 have h:(n.tdiv b).natAbs≤n.natAbs:=by
  rw [Int.natAbs_tdiv]; exact Nat.div_le_self _ _
 omega
def IH:Nat→Nat
 | 0=>0
 | n+1=>if (IH n+1)*(IH n+1)≤n+1 then IH n+1 else IH n
theorem OL (n:Nat):IH n*IH n≤n∧n<(IH n+1)*(IH n+1):=by
 induction n with
 | zero=>simp [IH]
 | succ n ih =>
  unfold IH;split
  · refine ⟨by assumption,?_⟩;have e:(IH n+1+1)*(IH n+1+1)=(IH n+1)*(IH n+1)+2*IH n+3:=by
     simp only [Nat.add_mul,Nat.mul_add]; omega
    omega
  · omega
def sq (n:Int):Int:=(IH n.toNat:Int)
theorem DJ (n:Int):0≤sq n:=by unfold sq; omega
theorem FB {n:Int} (h:0≤n):sq n*sq n≤n∧n<(sq n+1)*(sq n+1):=by
 have s:=OL n.toNat;have e1:((IH n.toNat*IH n.toNat:Nat):Int)=sq n*sq n:=by unfold sq; push_cast; rfl
 have e2:(((IH n.toNat+1)*(IH n.toNat+1):Nat):Int)=(sq n+1)*(sq n+1):=by unfold sq; push_cast; rfl
 constructor
 · rw [← e1]; omega
 · rw [← e2]; omega
theorem CH {a b:Int} (ha:0≤a) (hb:0≤b) (h:a*a<b*b):a<b:=by
 by_cases c:a<b
 · exact c
 · have:b*b≤a*a:=Int.mul_le_mul (by omega) (by omega) hb ha;omega
theorem Ga {n r:Int} (h:0≤n) (hr:0≤r) (h1:r*r≤n) (h2:n<(r+1)*(r+1)):r=sq n:=by
 have ⟨s1,s2⟩:=FB h;have p:=DJ n;have a1:=CH (a:=r) (b:=sq n+1) hr (by omega) (by omega);have a2:=CH (a:=sq n) (b:=r+1) p (by omega) (by omega);omega
theorem QK {a b:Int} (ha:0≤a) (h:a≤b):sq a≤sq b:=by
 have ⟨s1,_⟩:=FB ha;have ⟨_,t2⟩:=FB (n:=b) (by omega);have:=CH (a:=sq a) (b:=sq b+1) (DJ a) (by have:=DJ b; omega) (by omega);omega
def ON (a:Int):Bool:=decide (0≤a∧a≤2000000000)
def SA (a:Int):Int:=if ON a then sq (a*1000) else 0
theorem QL {a:Int} (h:¬ (0≤a∧a≤2000000000)):ON a=false:=by simp only [ON,decide_eq_false_iff_not]; exact h
theorem TL {n:Int} (h:0≤n) (hn:n≤2000000000000):0≤sq n∧sq n<1414214:=by
 refine ⟨DJ n,?_⟩;have ⟨s1,_⟩:=FB h;exact CH (DJ n) (by omega) (by omega)
theorem SB {a:Int} (h:¬ (0≤a∧a≤2000000000)):SA a=0∧ON a=false:=by simp [SA,QL h]
theorem Uu {a:Int} (h:a<0):SA a=0∧ON a=false:=SB (by omega)
structure Root (n l h:Int):Prop where
 bd:0≤l∧l<h∧h≤n+1
 lo:l*l≤n
 hi:n<h*h
theorem Ln {n:Int} (h0:0≤n):Root n 0 (n+1) :=
 ⟨by omega,by omega,by
  have e:(n+1)*(n+1)=n*n+2*n+1:=by simp only [Int.add_mul,Int.mul_add]; omega
  have:=Int.mul_nonneg h0 h0;omega⟩
theorem QM {n l h:Int} (R:Root n l h):0≤l∧l<h∧h≤n+1:=R.bd
theorem OO {n m:Int} (h0:0≤n) (hm:0<m):0≤n / m∧n / m≤n :=
 ⟨Int.ediv_nonneg h0 (by omega),Int.ediv_le_self _ h0⟩
theorem QN {n l h m:Int} (R:Root n l h) (m1:0<m) (m2:m<h) (c:m≤n / m):Root n m h :=
 ⟨⟨by omega,m2,R.bd.2.2⟩,(Int.le_ediv_iff_mul_le m1).1 c,R.hi⟩
theorem Nc {n l h m:Int} (R:Root n l h) (m1:l<m) (c:¬ m≤n / m) (m2:m≤n+1):Root n l m :=
 ⟨⟨R.bd.1,m1,m2⟩,R.lo,by
  have hm:0<m:=by have:=R.bd.1; omega
  have:=mt (Int.le_ediv_iff_mul_le hm).2 c;omega⟩
theorem OQ {n l h:Int} (h0:0≤n) (R:Root n l h) (g:h-l≤1):l=sq n:=by
 have b:=R.bd;have e:h=l+1:=by omega
 subst e;exact Ga h0 b.1 R.lo R.hi
structure Root2 (n l h:Int):Prop where
 bd:0≤l∧l≤h∧h≤2000000
 lo:l*l≤n
 hi:n<(h+1)*(h+1)
theorem Kj {n:Int} (h0:0≤n) (hn:n≤2000000000000):Root2 n 0 2000000:=⟨by omega,by omega,by omega⟩
theorem OS {n l h:Int} (R:Root2 n l h):0≤l∧l≤h∧h≤2000000:=R.bd
theorem OT {n l h m:Int} (R:Root2 n l h) (m1:0<m) (m2:m≤h) (c:m*m≤n):Root2 n m h :=
 ⟨⟨by omega,m2,R.bd.2.2⟩,c,R.hi⟩
theorem Lo {n l h m:Int} (R:Root2 n l h) (m1:l<m) (m2:m≤h) (c:¬ m*m≤n):Root2 n l (m-1) :=
 ⟨⟨R.bd.1,by omega,by have:=R.bd.2.2; omega⟩,R.lo,by rw [show m-1+1=m from by omega]; omega⟩
theorem Nf {n l h:Int} (h0:0≤n) (R:Root2 n l h) (g:h≤l):l=sq n:=by
 have b:=R.bd;have e:h=l:=by omega
 subst e;exact Ga h0 b.1 R.lo R.hi
end M
end Go.Proofs.YtkpogcflgghfiaaDoor
namespace Go.Proofs.YtkpogcflgghfiaaDoor
open Go.RowKit
open M
theorem BE {k:IntKind} {a b:Int} (h:a=b):Ending.returned (.int k a)=.returned (.int k b):=by rw [h]
theorem Gb {k:IntKind} {a b:Int} {c d:Bool} (h:a=b) (g:c=d):Ending.returned (.tuple #[.int k a,.bool c])=.returned (.tuple #[.int k b,.bool d]):=by rw [h,g]
theorem Ao {c d:Bool} (g:c=d):Ending.returned (.bool c)=.returned (.bool d):=by rw [g]
theorem Gc (n lo hi:Int) (w:World):Calls Tryd.prog 20 #[.int .i64 n,.int .i64 lo,.int .i64 hi] w fun e w'=>e=.returned (.bool (Ba n lo hi))∧w=w':=by
 by_cases h1:lo≤n
 · by_cases h2:n≤hi
   · have E:=hid (BN ⟨h1,h2⟩);go_enter Tryd.func20,Tryd.ntmps20;go_wp2;go_ret;exact ⟨Ao (by rw [E.out]),rfl⟩
   · have E:=hid (CC (n:=n) (lo:=lo) (hi:=hi) (by omega));go_enter Tryd.func20,Tryd.ntmps20;go_wp2;go_ret;exact ⟨Ao (by rw [E.out]),rfl⟩
 · have E:=hid (CC (n:=n) (lo:=lo) (hi:=hi) (by omega));go_enter Tryd.func20,Tryd.ntmps20;go_wp2;go_ret;exact ⟨Ao (by rw [E.out]),rfl⟩
theorem Ji (n:Int) (w:World):Calls Tryd.prog 83 #[.int .i64 n] w fun e w'=>e=.returned (.bool (okB n))∧w=w':=by
 by_cases h1:-2000000000≤n
 · by_cases h2:n≤2000000000
   · have E:=hid (F9 ⟨h1,h2⟩);go_enter Tryd.func83,Tryd.ntmps83;go_wp2;go_ret;exact ⟨by rw [E.out]; rfl,rfl⟩
   · have E:=hid (Mq (n:=n) (by omega));go_enter Tryd.func83,Tryd.ntmps83;go_wp2;go_ret;exact ⟨by rw [E.out]; rfl,rfl⟩
 · have E:=hid (Mq (n:=n) (by omega));go_enter Tryd.func83,Tryd.ntmps83;go_wp2;go_ret;exact ⟨by rw [E.out]; rfl,rfl⟩
theorem Kk (n:Int) (w:World):Calls Tryd.prog 97 #[.int .i64 n] w fun e w'=>e=.returned (.tuple #[.int .i64 (cl n),.bool (okB n)])∧w=w':=by
 rcases Hu n with ⟨h,E0⟩ | ⟨h,E0⟩ | ⟨h1,h2,E0⟩
 all_goals
  have E:=hid E0;clear E0;go_enter Tryd.func97,Tryd.ntmps97;go_wp2
  go_ret2
  exact ⟨Gb (by rw [E.out.1]) (by rw [E.out.2]),rfl⟩
theorem GY (a b:Int) (w:World):Calls Tryd.prog 84 #[.int .i64 a,.int .i64 b] w fun e w'=>e=.returned (.tuple #[.int .i64 (Hv a b),.bool (Hw a b)])∧w=w':=by
 cases ha:okB a
 · have E:=hid (QH (b:=b) ha);go_enter Tryd.func84,Tryd.ntmps84;go_wp2_with (go_at_call 83; refine (Ji _ _).mono ?_; rintro e w' ⟨rfl,rfl⟩)
   go_ret2
   exact ⟨Gb (by rw [E.out.1]) (by rw [E.out.2]),rfl⟩
 · cases hb:okB b
   · have E:=hid (QI (a:=a) hb);go_enter Tryd.func84,Tryd.ntmps84;go_wp2_with (go_at_call 83; refine (Ji _ _).mono ?_; rintro e w' ⟨rfl,rfl⟩)
     go_ret2
     exact ⟨Gb (by rw [E.out.1]) (by rw [E.out.2]),rfl⟩
   · have E:=hid (Ms ha hb);obtain ⟨a1,a2⟩:=(Ff a).1 ha;obtain ⟨b1,b2⟩:=(Ff b).1 hb;have p:=Ci a1 a2 b1 b2;go_enter Tryd.func84,Tryd.ntmps84;go_wp2_with (first | (go_at_call 83; refine (Ji _ _).mono ?_; rintro e w' ⟨rfl,rfl⟩) | (go_at_call 97; refine (Kk _ _).mono ?_; rintro e w' ⟨rfl,rfl⟩))
     go_ret2
     exact ⟨Gb (by rw [E.out.1]) (by rw [E.out.2]),rfl⟩
theorem OU (a b:Int) (w:World) (a1:-2000000000≤a) (a2:a≤2000000000) (b1:-2000000000≤b) (b2:b≤2000000000):Calls Tryd.prog 99 #[.int .i64 a,.int .i64 b] w fun e w'=>e=.returned (.int .i64 ((a*b).tdiv 1000))∧w=w':=by
 have p:=Ci a1 a2 b1 b2;go_enter Tryd.func99,Tryd.ntmps99;go_wp2;go_ret;exact ⟨rfl,rfl⟩
end Go.Proofs.YtkpogcflgghfiaaDoor
namespace Go.Proofs.YtkpogcflgghfiaaDoor
open Go.RowKit
open M
theorem OV (n:Int) (w:World) (h0:0≤n) (hn:n≤2000000000000):Calls Tryd.prog 88 #[.int .i64 n] w fun e w'=>e=.returned (.int .i64 (sq n))∧w=w':=by
 go_enter Tryd.func88,Tryd.ntmps88;go_wp2
 go_loop [3,4] (fun s t=>∃ l h:Int,Root n l h∧s=.int .i64 l∧t=.int .i64 h) (fun s t=>(intOf t-intOf s).toNat)
 case atStart=>exact ⟨0,n+1,Ln h0,rfl,rfl⟩
 case round =>
  obtain ⟨l,h,R,rfl,rfl⟩:=hrel;obtain ⟨l0,lh,hh⟩:=QM R;by_cases g:1<h-l
  · have m1:l<l+(h-l) / 2:=by omega
    have m2:l+(h-l) / 2<h:=by omega
    have d1:=OO (n:=n) (m:=l+(h-l) / 2) h0 (by omega);have z:((l+(h-l) / 2)==0)=false:=beq_eq_false_iff_ne.2 (by omega);by_cases c:l+(h-l) / 2≤n / (l+(h-l) / 2)
    · have R':=hid (QN R (by omega) m2 c);go_wp2
      go_round
      case rel=>exact ⟨_,_,R'.out,rfl,rfl⟩
      case measure=>simp [intOf]; omega
    · have R':=hid (Nc R m1 c (by omega));go_wp2
      go_round
      case rel=>exact ⟨_,_,R'.out,rfl,rfl⟩
      case measure=>simp [intOf]; omega
  · have E:=hid (OQ h0 R (by omega));go_wp2;go_ret;exact ⟨BE E.out,rfl⟩
theorem OX (n:Int) (w:World) (h0:0≤n) (hn:n≤2000000000000):Calls Tryd.prog 101 #[.int .i64 n] w fun e w'=>e=.returned (.int .i64 (sq n))∧w=w':=by
 go_enter Tryd.func101,Tryd.ntmps101;go_wp2
 go_loop [3,4] (fun s t=>∃ l h:Int,Root2 n l h∧s=.int .i64 l∧t=.int .i64 h) (fun s t=>(intOf t-intOf s).toNat)
 case atStart=>exact ⟨0,2000000,Kj h0 hn,rfl,rfl⟩
 case round =>
  obtain ⟨l,h,R,rfl,rfl⟩:=hrel;obtain ⟨l0,lh,hh⟩:=OS R;by_cases g:l<h
  · have m1:l<(l+h+1) / 2:=by omega
    have m2:(l+h+1) / 2≤h:=by omega
    have d1:=Ci (a:=(l+h+1) / 2) (b:=(l+h+1) / 2) (by omega) (by omega) (by omega) (by omega);by_cases c:(l+h+1) / 2*((l+h+1) / 2)≤n
    · have R':=hid (OT R (by omega) m2 c);go_wp2
      go_round
      case rel=>exact ⟨_,_,R'.out,rfl,rfl⟩
      case measure=>simp [intOf]; omega
    · have R':=hid (Lo R m1 m2 c);go_wp2
      go_round
      case rel=>exact ⟨_,_,R'.out,rfl,rfl⟩
      case measure=>simp [intOf]; omega
  · have E:=hid (Nf h0 R (by omega));go_wp2;go_ret;exact ⟨BE E.out,rfl⟩
end Go.Proofs.YtkpogcflgghfiaaDoor
namespace Go.Proofs.YtkpogcflgghfiaaDoor
namespace M
theorem add_comm (a b:Int):Lm b a=Lm a b∧Ki b a=Ki a b:=by
 unfold Lm Ki ok2;rw [Int.add_comm b a,Bool.and_comm (okB b) (okB a)];exact ⟨rfl,rfl⟩
theorem add_zero {a:Int} (h:okB a=true):Lm a 0=a∧Ki a 0=true:=by
 have ⟨e,f⟩:=Mr h QJ;rw [e,f,Int.add_zero];exact ⟨Kh ((Ff a).1 h),h⟩
theorem TM {a b:Int} (h:Ki a b=true):okB a=true∧okB b=true∧okB (a+b)=true∧Lm a b=a+b:=by
 have h0:=h;unfold Ki ok2 at h;simp only [Bool.and_eq_true] at h;obtain ⟨⟨h1,h2⟩,h3⟩:=h;have ⟨e,_⟩:=Mr h1 h2;exact ⟨h1,h2,h3,by rw [e,Kh ((Ff _).1 h3)]⟩
theorem mul_comm (a b:Int):Hv b a=Hv a b∧Hw b a=Hw a b:=by
 unfold Hv Hw ok2;rw [Int.mul_comm b a,Bool.and_comm (okB b) (okB a)];exact ⟨rfl,rfl⟩
end M
end Go.Proofs.YtkpogcflgghfiaaDoor
