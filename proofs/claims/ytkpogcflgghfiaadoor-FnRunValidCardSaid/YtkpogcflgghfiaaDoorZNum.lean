import Derived.KernelRfl
import Derived.Test.YtkpogcflgghfiaaDoorProg
import Derived.WalkKit
import Derived.LoopTactic
import Derived.Lib.Hide
import Derived.IntWalk
set_option maxRecDepth 100000
set_option maxHeartbeats 8000000
open Go.Lib
namespace Go.Proofs.YtkpogcflgghfiaaDoor
namespace M
def inB (n lo hi:Int):Bool:=decide (lo≤n∧n≤hi)
theorem inB_yes {n lo hi:Int} (h:lo≤n∧n≤hi):inB n lo hi=true:=by simp [inB,h]
theorem inB_no {n lo hi:Int} (h:¬ (lo≤n∧n≤hi)):inB n lo hi=false:=by simp only [inB,decide_eq_false_iff_not]; exact h
def okB (n:Int):Bool:=inB n (-2000000000) 2000000000
def cl (n:Int):Int:=if n>2000000000 then 2000000000 else if n< -2000000000 then -2000000000 else n
theorem ok_iff (n:Int):okB n=true↔-2000000000≤n∧n≤2000000000:=by simp [okB,inB]
theorem ok_yes {n:Int} (h:-2000000000≤n∧n≤2000000000):okB n=true:=(ok_iff n).2 h
theorem ok_no {n:Int} (h:¬ (-2000000000≤n∧n≤2000000000)):okB n=false:=by
 cases e:okB n with
 | false=>rfl
 | true=>exact absurd ((ok_iff n).1 e) h
theorem cl_id {n:Int} (h:-2000000000≤n∧n≤2000000000):cl n=n:=by
 unfold cl; rw [if_neg (by omega),if_neg (by omega)]
theorem cl_three (n:Int):(2000000000<n∧(cl n=2000000000∧okB n=false))∨(n< -2000000000∧(cl n=-2000000000∧okB n=false))∨(-2000000000≤n∧n≤2000000000∧(cl n=n∧okB n=true)):=by
 by_cases h1:2000000000<n
 · exact .inl ⟨h1,by unfold cl; rw [if_pos (by omega)],ok_no (by omega)⟩
 · by_cases h2:n< -2000000000
   · exact .inr (.inl ⟨h2,by unfold cl; rw [if_neg (by omega),if_pos (by omega)],ok_no (by omega)⟩)
   · exact .inr (.inr ⟨by omega,by omega,cl_id (by omega),ok_yes (by omega)⟩)
theorem mul_bd {a b:Int} (a1:-2000000000≤a) (a2:a≤2000000000) (b1:-2000000000≤b) (b2:b≤2000000000):-4000000000000000000≤a*b∧a*b≤4000000000000000000:=by
 have h:(a*b).natAbs≤2000000000*2000000000:=by
  rw [Int.natAbs_mul]; exact Nat.mul_le_mul (by omega) (by omega)
 omega
def ok2 (a b:Int):Bool:=okB a&&okB b
def addI (a b:Int):Int:=if ok2 a b then cl (a+b) else 0
def addB (a b:Int):Bool:=ok2 a b&&okB (a+b)
def mulI (a b:Int):Int:=if ok2 a b then cl ((a*b).tdiv 1000) else 0
def mulB (a b:Int):Bool:=ok2 a b&&okB ((a*b).tdiv 1000)
theorem add_yes {a b:Int} (h:okB a=true) (g:okB b=true):addI a b=cl (a+b)∧addB a b=okB (a+b):=by simp [addI,addB,ok2,h,g]
theorem mul_no1 {a b:Int} (h:okB a=false):mulI a b=0∧mulB a b=false:=by simp [mulI,mulB,ok2,h]
theorem mul_no2 {a b:Int} (h:okB b=false):mulI a b=0∧mulB a b=false:=by simp [mulI,mulB,ok2,h]
theorem mul_yes {a b:Int} (h:okB a=true) (g:okB b=true):mulI a b=cl ((a*b).tdiv 1000)∧mulB a b=okB ((a*b).tdiv 1000):=by simp [mulI,mulB,ok2,h,g]
theorem ok_zero:okB 0=true:=ok_yes (by omega)
theorem tdiv_bd {n b:Int} (h1:-2000000000000≤n) (h2:n≤2000000000000):-2000000000000≤n.tdiv b∧n.tdiv b≤2000000000000:=by
 have h:(n.tdiv b).natAbs≤n.natAbs:=by
  rw [Int.natAbs_tdiv]; exact Nat.div_le_self _ _
 omega
def isq:Nat→Nat
 | 0=>0
 | n+1=>if (isq n+1)*(isq n+1)≤n+1 then isq n+1 else isq n
theorem isq_spec (n:Nat):isq n*isq n≤n∧n<(isq n+1)*(isq n+1):=by
 induction n with
 | zero=>simp [isq]
 | succ n ih =>
  unfold isq;split
  · refine ⟨by assumption,?_⟩;have e:(isq n+1+1)*(isq n+1+1)=(isq n+1)*(isq n+1)+2*isq n+3:=by
     simp only [Nat.add_mul,Nat.mul_add]; omega
    omega
  · omega
def sq (n:Int):Int:=(isq n.toNat:Int)
theorem sq_nonneg (n:Int):0≤sq n:=by unfold sq; omega
theorem sq_spec {n:Int} (h:0≤n):sq n*sq n≤n∧n<(sq n+1)*(sq n+1):=by
 have s:=isq_spec n.toNat;have e1:((isq n.toNat*isq n.toNat:Nat):Int)=sq n*sq n:=by unfold sq; push_cast; rfl
 have e2:(((isq n.toNat+1)*(isq n.toNat+1):Nat):Int)=(sq n+1)*(sq n+1):=by unfold sq; push_cast; rfl
 constructor
 · rw [← e1]; omega
 · rw [← e2]; omega
theorem sq_mono_lt {a b:Int} (ha:0≤a) (hb:0≤b) (h:a*a<b*b):a<b:=by
 by_cases c:a<b
 · exact c
 · have:b*b≤a*a:=Int.mul_le_mul (by omega) (by omega) hb ha;omega
theorem sq_unique {n r:Int} (h:0≤n) (hr:0≤r) (h1:r*r≤n) (h2:n<(r+1)*(r+1)):r=sq n:=by
 have ⟨s1,s2⟩:=sq_spec h;have p:=sq_nonneg n;have a1:=sq_mono_lt (a:=r) (b:=sq n+1) hr (by omega) (by omega);have a2:=sq_mono_lt (a:=sq n) (b:=r+1) p (by omega) (by omega);omega
theorem sq_mono {a b:Int} (ha:0≤a) (h:a≤b):sq a≤sq b:=by
 have ⟨s1,_⟩:=sq_spec ha;have ⟨_,t2⟩:=sq_spec (n:=b) (by omega);have:=sq_mono_lt (a:=sq a) (b:=sq b+1) (sq_nonneg a) (by have:=sq_nonneg b; omega) (by omega);omega
def inSq (a:Int):Bool:=decide (0≤a∧a≤2000000000)
def sqrI (a:Int):Int:=if inSq a then sq (a*1000) else 0
theorem inSq_no {a:Int} (h:¬ (0≤a∧a≤2000000000)):inSq a=false:=by simp only [inSq,decide_eq_false_iff_not]; exact h
theorem sq_bd {n:Int} (h:0≤n) (hn:n≤2000000000000):0≤sq n∧sq n<1414214:=by
 refine ⟨sq_nonneg n,?_⟩;have ⟨s1,_⟩:=sq_spec h;exact sq_mono_lt (sq_nonneg n) (by omega) (by omega)
theorem sqr_no {a:Int} (h:¬ (0≤a∧a≤2000000000)):sqrI a=0∧inSq a=false:=by simp [sqrI,inSq_no h]
theorem sqr_no2 {a:Int} (h:a<0):sqrI a=0∧inSq a=false:=sqr_no (by omega)
structure Root (n l h:Int):Prop where
 bd:0≤l∧l<h∧h≤n+1
 lo:l*l≤n
 hi:n<h*h
theorem root_start {n:Int} (h0:0≤n):Root n 0 (n+1) :=
 ⟨by omega,by omega,by
  have e:(n+1)*(n+1)=n*n+2*n+1:=by simp only [Int.add_mul,Int.mul_add]; omega
  have:=Int.mul_nonneg h0 h0;omega⟩
theorem root_bd {n l h:Int} (R:Root n l h):0≤l∧l<h∧h≤n+1:=R.bd
theorem root_div {n m:Int} (h0:0≤n) (hm:0<m):0≤n / m∧n / m≤n :=
 ⟨Int.ediv_nonneg h0 (by omega),Int.ediv_le_self _ h0⟩
theorem root_up {n l h m:Int} (R:Root n l h) (m1:0<m) (m2:m<h) (c:m≤n / m):Root n m h :=
 ⟨⟨by omega,m2,R.bd.2.2⟩,(Int.le_ediv_iff_mul_le m1).1 c,R.hi⟩
theorem root_down {n l h m:Int} (R:Root n l h) (m1:l<m) (c:¬ m≤n / m) (m2:m≤n+1):Root n l m :=
 ⟨⟨R.bd.1,m1,m2⟩,R.lo,by
  have hm:0<m:=by have:=R.bd.1; omega
  have:=mt (Int.le_ediv_iff_mul_le hm).2 c;omega⟩
theorem root_end {n l h:Int} (h0:0≤n) (R:Root n l h) (g:h-l≤1):l=sq n:=by
 have b:=R.bd;have e:h=l+1:=by omega
 subst e;exact sq_unique h0 b.1 R.lo R.hi
structure Root2 (n l h:Int):Prop where
 bd:0≤l∧l≤h∧h≤2000000
 lo:l*l≤n
 hi:n<(h+1)*(h+1)
theorem root2_start {n:Int} (h0:0≤n) (hn:n≤2000000000000):Root2 n 0 2000000:=⟨by omega,by omega,by omega⟩
theorem root2_bd {n l h:Int} (R:Root2 n l h):0≤l∧l≤h∧h≤2000000:=R.bd
theorem root2_up {n l h m:Int} (R:Root2 n l h) (m1:0<m) (m2:m≤h) (c:m*m≤n):Root2 n m h :=
 ⟨⟨by omega,m2,R.bd.2.2⟩,c,R.hi⟩
theorem root2_down {n l h m:Int} (R:Root2 n l h) (m1:l<m) (m2:m≤h) (c:¬ m*m≤n):Root2 n l (m-1) :=
 ⟨⟨R.bd.1,by omega,by have:=R.bd.2.2; omega⟩,R.lo,by rw [show m-1+1=m from by omega]; omega⟩
theorem root2_end {n l h:Int} (h0:0≤n) (R:Root2 n l h) (g:h≤l):l=sq n:=by
 have b:=R.bd;have e:h=l:=by omega
 subst e;exact sq_unique h0 b.1 R.lo R.hi
end M
end Go.Proofs.YtkpogcflgghfiaaDoor
namespace Go.Proofs.YtkpogcflgghfiaaDoor
open Go.RowKit
open M
theorem ret_int {k:IntKind} {a b:Int} (h:a=b):Ending.returned (.int k a)=.returned (.int k b):=by rw [h]
theorem ret_ib {k:IntKind} {a b:Int} {c d:Bool} (h:a=b) (g:c=d):Ending.returned (.tuple #[.int k a,.bool c])=.returned (.tuple #[.int k b,.bool d]):=by rw [h,g]
theorem ret_b {c d:Bool} (g:c=d):Ending.returned (.bool c)=.returned (.bool d):=by rw [g]
theorem in_any (n lo hi:Int) (w:World):Calls Tryd.prog 20 #[.int .i64 n,.int .i64 lo,.int .i64 hi] w fun e w'=>e=.returned (.bool (inB n lo hi))∧w=w':=by
 by_cases h1:lo≤n
 · by_cases h2:n≤hi
   · have E:=hid (inB_yes ⟨h1,h2⟩);go_enter Tryd.func20,Tryd.ntmps20;go_wp2;go_ret;exact ⟨ret_b (by rw [E.out]),rfl⟩
   · have E:=hid (inB_no (n:=n) (lo:=lo) (hi:=hi) (by omega));go_enter Tryd.func20,Tryd.ntmps20;go_wp2;go_ret;exact ⟨ret_b (by rw [E.out]),rfl⟩
 · have E:=hid (inB_no (n:=n) (lo:=lo) (hi:=hi) (by omega));go_enter Tryd.func20,Tryd.ntmps20;go_wp2;go_ret;exact ⟨ret_b (by rw [E.out]),rfl⟩
theorem implOk (n:Int) (w:World):Calls Tryd.prog 83 #[.int .i64 n] w fun e w'=>e=.returned (.bool (okB n))∧w=w':=by
 by_cases h1:-2000000000≤n
 · by_cases h2:n≤2000000000
   · have E:=hid (ok_yes ⟨h1,h2⟩);go_enter Tryd.func83,Tryd.ntmps83;go_wp2;go_ret;exact ⟨by rw [E.out]; rfl,rfl⟩
   · have E:=hid (ok_no (n:=n) (by omega));go_enter Tryd.func83,Tryd.ntmps83;go_wp2;go_ret;exact ⟨by rw [E.out]; rfl,rfl⟩
 · have E:=hid (ok_no (n:=n) (by omega));go_enter Tryd.func83,Tryd.ntmps83;go_wp2;go_ret;exact ⟨by rw [E.out]; rfl,rfl⟩
theorem implNearest (n:Int) (w:World):Calls Tryd.prog 97 #[.int .i64 n] w fun e w'=>e=.returned (.tuple #[.int .i64 (cl n),.bool (okB n)])∧w=w':=by
 rcases cl_three n with ⟨h,E0⟩ | ⟨h,E0⟩ | ⟨h1,h2,E0⟩
 all_goals
  have E:=hid E0;clear E0;go_enter Tryd.func97,Tryd.ntmps97;go_wp2
  go_ret2
  exact ⟨ret_ib (by rw [E.out.1]) (by rw [E.out.2]),rfl⟩
theorem implMul (a b:Int) (w:World):Calls Tryd.prog 84 #[.int .i64 a,.int .i64 b] w fun e w'=>e=.returned (.tuple #[.int .i64 (mulI a b),.bool (mulB a b)])∧w=w':=by
 cases ha:okB a
 · have E:=hid (mul_no1 (b:=b) ha);go_enter Tryd.func84,Tryd.ntmps84;go_wp2_with (go_at_call 83; refine (implOk _ _).mono ?_; rintro e w' ⟨rfl,rfl⟩)
   go_ret2
   exact ⟨ret_ib (by rw [E.out.1]) (by rw [E.out.2]),rfl⟩
 · cases hb:okB b
   · have E:=hid (mul_no2 (a:=a) hb);go_enter Tryd.func84,Tryd.ntmps84;go_wp2_with (go_at_call 83; refine (implOk _ _).mono ?_; rintro e w' ⟨rfl,rfl⟩)
     go_ret2
     exact ⟨ret_ib (by rw [E.out.1]) (by rw [E.out.2]),rfl⟩
   · have E:=hid (mul_yes ha hb);obtain ⟨a1,a2⟩:=(ok_iff a).1 ha;obtain ⟨b1,b2⟩:=(ok_iff b).1 hb;have p:=mul_bd a1 a2 b1 b2;go_enter Tryd.func84,Tryd.ntmps84;go_wp2_with (first | (go_at_call 83; refine (implOk _ _).mono ?_; rintro e w' ⟨rfl,rfl⟩) | (go_at_call 97; refine (implNearest _ _).mono ?_; rintro e w' ⟨rfl,rfl⟩))
     go_ret2
     exact ⟨ret_ib (by rw [E.out.1]) (by rw [E.out.2]),rfl⟩
theorem specMul0 (a b:Int) (w:World) (a1:-2000000000≤a) (a2:a≤2000000000) (b1:-2000000000≤b) (b2:b≤2000000000):Calls Tryd.prog 99 #[.int .i64 a,.int .i64 b] w fun e w'=>e=.returned (.int .i64 ((a*b).tdiv 1000))∧w=w':=by
 have p:=mul_bd a1 a2 b1 b2;go_enter Tryd.func99,Tryd.ntmps99;go_wp2;go_ret;exact ⟨rfl,rfl⟩
end Go.Proofs.YtkpogcflgghfiaaDoor
namespace Go.Proofs.YtkpogcflgghfiaaDoor
open Go.RowKit
open M
theorem implRoot (n:Int) (w:World) (h0:0≤n) (hn:n≤2000000000000):Calls Tryd.prog 88 #[.int .i64 n] w fun e w'=>e=.returned (.int .i64 (sq n))∧w=w':=by
 go_enter Tryd.func88,Tryd.ntmps88;go_wp2
 go_loop [3,4] (fun s t=>∃ l h:Int,Root n l h∧s=.int .i64 l∧t=.int .i64 h) (fun s t=>(intOf t-intOf s).toNat)
 case atStart=>exact ⟨0,n+1,root_start h0,rfl,rfl⟩
 case round =>
  obtain ⟨l,h,R,rfl,rfl⟩:=hrel;obtain ⟨l0,lh,hh⟩:=root_bd R;by_cases g:1<h-l
  · have m1:l<l+(h-l) / 2:=by omega
    have m2:l+(h-l) / 2<h:=by omega
    have d1:=root_div (n:=n) (m:=l+(h-l) / 2) h0 (by omega);have z:((l+(h-l) / 2)==0)=false:=beq_eq_false_iff_ne.2 (by omega);by_cases c:l+(h-l) / 2≤n / (l+(h-l) / 2)
    · have R':=hid (root_up R (by omega) m2 c);go_wp2
      go_round
      case rel=>exact ⟨_,_,R'.out,rfl,rfl⟩
      case measure=>simp [intOf]; omega
    · have R':=hid (root_down R m1 c (by omega));go_wp2
      go_round
      case rel=>exact ⟨_,_,R'.out,rfl,rfl⟩
      case measure=>simp [intOf]; omega
  · have E:=hid (root_end h0 R (by omega));go_wp2;go_ret;exact ⟨ret_int E.out,rfl⟩
theorem specRoot (n:Int) (w:World) (h0:0≤n) (hn:n≤2000000000000):Calls Tryd.prog 101 #[.int .i64 n] w fun e w'=>e=.returned (.int .i64 (sq n))∧w=w':=by
 go_enter Tryd.func101,Tryd.ntmps101;go_wp2
 go_loop [3,4] (fun s t=>∃ l h:Int,Root2 n l h∧s=.int .i64 l∧t=.int .i64 h) (fun s t=>(intOf t-intOf s).toNat)
 case atStart=>exact ⟨0,2000000,root2_start h0 hn,rfl,rfl⟩
 case round =>
  obtain ⟨l,h,R,rfl,rfl⟩:=hrel;obtain ⟨l0,lh,hh⟩:=root2_bd R;by_cases g:l<h
  · have m1:l<(l+h+1) / 2:=by omega
    have m2:(l+h+1) / 2≤h:=by omega
    have d1:=mul_bd (a:=(l+h+1) / 2) (b:=(l+h+1) / 2) (by omega) (by omega) (by omega) (by omega);by_cases c:(l+h+1) / 2*((l+h+1) / 2)≤n
    · have R':=hid (root2_up R (by omega) m2 c);go_wp2
      go_round
      case rel=>exact ⟨_,_,R'.out,rfl,rfl⟩
      case measure=>simp [intOf]; omega
    · have R':=hid (root2_down R m1 m2 c);go_wp2
      go_round
      case rel=>exact ⟨_,_,R'.out,rfl,rfl⟩
      case measure=>simp [intOf]; omega
  · have E:=hid (root2_end h0 R (by omega));go_wp2;go_ret;exact ⟨ret_int E.out,rfl⟩
end Go.Proofs.YtkpogcflgghfiaaDoor
namespace Go.Proofs.YtkpogcflgghfiaaDoor
namespace M
theorem add_comm (a b:Int):addI b a=addI a b∧addB b a=addB a b:=by
 unfold addI addB ok2;rw [Int.add_comm b a,Bool.and_comm (okB b) (okB a)];exact ⟨rfl,rfl⟩
theorem add_zero {a:Int} (h:okB a=true):addI a 0=a∧addB a 0=true:=by
 have ⟨e,f⟩:=add_yes h ok_zero;rw [e,f,Int.add_zero];exact ⟨cl_id ((ok_iff a).1 h),h⟩
theorem add_true {a b:Int} (h:addB a b=true):okB a=true∧okB b=true∧okB (a+b)=true∧addI a b=a+b:=by
 have h0:=h;unfold addB ok2 at h;simp only [Bool.and_eq_true] at h;obtain ⟨⟨h1,h2⟩,h3⟩:=h;have ⟨e,_⟩:=add_yes h1 h2;exact ⟨h1,h2,h3,by rw [e,cl_id ((ok_iff _).1 h3)]⟩
theorem mul_comm (a b:Int):mulI b a=mulI a b∧mulB b a=mulB a b:=by
 unfold mulI mulB ok2;rw [Int.mul_comm b a,Bool.and_comm (okB b) (okB a)];exact ⟨rfl,rfl⟩
end M
end Go.Proofs.YtkpogcflgghfiaaDoor
