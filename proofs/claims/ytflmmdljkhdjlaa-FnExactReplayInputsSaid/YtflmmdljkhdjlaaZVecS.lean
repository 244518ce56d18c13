import Derived.Test.YtflmmdljkhdjlaaZNum
import Derived.Below
import Derived.Deep.RegionWith
import Derived.RegionTactic
import Derived.BigQuiet
import Derived.Deep.QuietTactic
set_option linter.all false
set_option maxRecDepth 100000
set_option maxHeartbeats 8000000
open Go.Lib
namespace Go.Proofs.Ytflmmdljkhdjlaa
namespace M
def AG(x y:Int):Bool:=Aw x (-1000000) 1000000&&Aw y (-1000000) 1000000
theorem JV{x y:Int}(h:Aw x (-1000000) 1000000=false):AG x y=false:=by simp[AG,h]
theorem Jg{x y:Int}(h:Aw x (-1000000) 1000000=true):AG x y=Aw y (-1000000) 1000000:=by simp[AG,h]
theorem Cd(x y:Int):AG x y=true↔(-1000000<=x/\x<=1000000)/\(-1000000<=y/\y<=1000000):=by simp[AG,Aw]
theorem Dg{x y:Int}(h:(-1000000<=x/\x<=1000000)/\(-1000000<=y/\y<=1000000)):AG x y=true:=(Cd x y).2 h
def mu(a b:Int):Int:=(a*b).tdiv 1000
def vl(x y:Int):Int:=sq (x*x+y*y)
def Ld(x y:Int):Int:=if AG x y then vl x y else 0
theorem Ew{x y:Int}(h:AG x y=true):Ld x y=vl x y:=by simp[Ld,h]
theorem Bo{x:Int}(x1:-1000000<=x)(x2:x<=1000000):0<=x*x/\x*x<=1000000000000:=by
 have h:(x*x).natAbs<=1000000*1000000:=by rw[Int.natAbs_mul]; exact Nat.mul_le_mul (by omega) (by omega)
 have p:0<=x*x:=by
  by_cases g:0<=x
  . exact Int.mul_nonneg g g
  . exact Int.mul_nonneg_of_nonpos_of_nonpos (by omega) (by omega)
 omega
theorem Kb{x y:Int}(x1:-1000000<=x)(x2:x<=1000000)(y1:-1000000<=y)(y2:y<=1000000):0<=vl x y/\vl x y<1414214:=by
 have a:=Bo x1 x2;have b:=Bo y1 y2;exact KS (by omega) (by omega)
def dirs:List Int:=[1000,924,707,383,0,-383,-707,-924,-1000,-924,-707,-383,0,383,707,924]
def Dh(d:Int):Int:=if Aw d 0 15 then dirs.getD d.toNat 0 else 0
def Di(d:Int):Int:=if Aw d 0 15 then dirs.getD ((d.toNat+12) % 16) 0 else 0
theorem F8{a m n:Int}(a1:-1000000<=a)(a2:a<=1000000)(m1:0<=m)(m2:m<=1000000):-1000000000000<=(a*m).tdiv n/\(a*m).tdiv n<=1000000000000:=by
 have h:((a*m).tdiv n).natAbs<=1000000*1000000:=by
  rw[Int.natAbs_tdiv,Int.natAbs_mul];exact Nat.le_trans (Nat.div_le_self _ _) (Nat.mul_le_mul (by omega) (by omega))
 omega
def HG(x y m:Int):Bool:=AG x y&&Aw m 0 1000000
def Jh(x y m:Int):Int:=if HG x y m then (if vl x y<=m then x else (x*m).tdiv (vl x y)) else 0
def Ji(x y m:Int):Int:=if HG x y m then (if vl x y<=m then y else (y*m).tdiv (vl x y)) else 0
theorem Jj{x y m:Int}(h:AG x y=true)(g:Aw m 0 1000000=true):HG x y m=true:=by simp[HG,h,g]
theorem Kc{x y m:Int}(h:AG x y=true)(g:Aw m 0 1000000=true)(k:vl x y<=m):Jh x y m=x/\Ji x y m=y/\HG x y m=true:=by simp[Jh,Ji,HG,h,g,k]
theorem Jk{x y m:Int}(h:AG x y=true)(g:Aw m 0 1000000=true)(k:¬ vl x y<=m):Jh x y m=(x*m).tdiv (vl x y)/\Ji x y m=(y*m).tdiv (vl x y)/\HG x y m=true:=by simp[Jh,Ji,HG,h,g,k]
end M
end Go.Proofs.Ytflmmdljkhdjlaa
namespace Go.Proofs.Ytflmmdljkhdjlaa
open Go.RowKit
open M
abbrev DK(x y:Int):Value:=.agg #[.int .i64 x,.int .i64 y]
theorem AF{W w1:World}(hb:Below W.heap.size W w1):(∀ b o,b<W.heap.size->w1.cell? ⟨b,o,none⟩=W.cell? ⟨b,o,none⟩)/\(∀ b o,b<W.heap.size->w1.frozen? ⟨b,o,none⟩=W.frozen? ⟨b,o,none⟩) :=
 ⟨fun b o h=>hb.cell (p:=⟨b,o,none⟩) h,fun b o h=>hb.frozen (p:=⟨b,o,none⟩) h⟩
theorem Ab{w a:World}(h:Below w.heap.size w a)(o:Obj):Below w.heap.size w (a.alloc o):=h.alloc h.size o
theorem Ar{w a:World}(h:Below w.heap.size w a)(b o:Nat)(v:Value)(hp:w.heap.size<=b):Below w.heap.size w (a.setCell ⟨b,o,none⟩ v):=h.setCell (p:=⟨b,o,none⟩) hp v
theorem Aa{w a b:World}(h:Below w.heap.size w a)(k:Below a.heap.size a b):Below w.heap.size w b:=h.trans (k.mono h.size)
theorem AM{w a:World}(h:Below w.heap.size w a)(n:Nat):Below w.heap.size w (a.drewN n):=h.trans ⟨rfl,rfl,rfl,Nat.le_refl _,fun _ _=>rfl⟩
theorem Ac(w:World):Below w.heap.size w w:=Below.refl _ _
theorem Fy{P:Program}{f:FuncId}{args:Array Value}{w:World}{n:Nat}{v:Value}(h:Calls P f args (w.drewN n) fun e w'=>e=.returned v/\w.drewN n=w') :
 Calls P f args (w.drewN n) fun e w''=>e=.returned v/\∃ m,w''=w.drewN m:=h.mono fun _ _ ⟨he,hm⟩=>⟨he,n,hm.symm⟩
theorem Jl{x y x' y':Int}(h1:x=x')(h2:y=y'):Ending.returned (.agg #[.int .i64 x,.int .i64 y])=.returned (DK x' y'):=by rw[h1,h2]
theorem AC(x y:Int)(w:World):Calls Try.prog 99 #[DK x y] w fun e w'=>e=.returned (.bool (AG x y))/\Below w.heap.size w w':=by
 cases hx:Aw x (-1000000) 1000000
 . have E:=hid (JV (y:=y) hx);go_enter Try.func99,Try.ntmps99;go_wp2_with (go_at_call 64; refine(Ee _ _ _ _).mono ?_; rintro e w' ⟨rfl,rfl⟩);go_ret;exact⟨Al (by rw[E.out]),Ab (Below.refl _ _) _⟩
 . have E:=hid (Jg (y:=y) hx);go_enter Try.func99,Try.ntmps99;go_wp2_with (go_at_call 64; refine(Ee _ _ _ _).mono ?_; rintro e w' ⟨rfl,rfl⟩);go_ret;exact⟨Al (by rw[E.out]),Ab (Below.refl _ _) _⟩
end Go.Proofs.Ytflmmdljkhdjlaa
namespace Go.Proofs.Ytflmmdljkhdjlaa
namespace M
theorem Fz{x y:Int}(h:AG x y=true):∃ s,Ld x y=s/\vl x y=s/\(0<=s/\s<1414214)/\(0<=x*x/\x*x<=1000000000000)/\(0<=y*y/\y*y<=1000000000000)/\s*s<=x*x+y*y/\x*x+y*y<(s+1)*(s+1):=by
 obtain⟨⟨x1,x2⟩,y1,y2⟩:=(Cd x y).1 h;have a:=Bo x1 x2;have b:=Bo y1 y2;have⟨s1,s2⟩:=CW (n:=x*x+y*y) (by omega);exact⟨vl x y,Ew h,rfl,Kb x1 x2 y1 y2,a,b,s1,s2⟩
theorem JW:Ld 0 0=0/\AG 0 0=true:=by
 have h:AG 0 0=true:=Dg (by omega);refine⟨?_,h⟩;rw[Ew h];exact(EV (n:=0*0+0*0) (r:=0) (by omega) (by omega) (by omega) (by omega)).symm
theorem FA(z:Int):z*z=(z.natAbs:Int)*(z.natAbs:Int):=by
 by_cases g:0<=z
 . rw[show(z.natAbs:Int)=z from by omega]
 . rw[show(z.natAbs:Int)=-z from by omega,Int.neg_mul_neg]
theorem AZ{a b:Int}(h:a.natAbs<=b.natAbs):a*a<=b*b:=by
 rw[FA a,FA b];exact Int.mul_le_mul (by omega) (by omega) (by omega) (by omega)
theorem F9{a b:Int}(ha:0<=a)(hb:0<=b)(h:a*a<=b*b):a<=b:=by
 by_cases g:a<=b
 . exact g
 . have:=Int.mul_le_mul (a:=b+1) (b:=b+1) (c:=a) (d:=a) (by omega) (by omega) (by omega) (by omega);have e:(b+1)*(b+1)=b*b+2*b+1:=by rw[Int.add_mul,Int.mul_add]; omega
   omega
theorem Le(a b:Int):a*a*(b*b)=a*b*(a*b):=by simp only[Int.mul_comm,Int.mul_left_comm]
theorem E0{x m n:Int}(m0:0<=m)(h:m<n):((x*m).tdiv n).natAbs<=x.natAbs/\0<=(x*m).tdiv n*x/\((x*m).tdiv n*n).natAbs<=(x*m).natAbs:=by
 have n1:((x*m).tdiv n*n).natAbs<=(x*m).natAbs:=by
  rw[Int.natAbs_mul,Int.natAbs_tdiv]; exact Nat.div_mul_le_self _ _
 refine⟨?_,?_,n1⟩
 . rw[Int.natAbs_tdiv,Int.natAbs_mul];exact Nat.div_le_of_le_mul (by rw[Nat.mul_comm]; exact Nat.mul_le_mul (by omega) (Nat.le_refl _))
 . by_cases g:0<=x
   . exact Int.mul_nonneg (Int.tdiv_nonneg (Int.mul_nonneg g m0) (by omega)) g
   . have p:0<=(-(x*m)).tdiv n:=Int.tdiv_nonneg (by rw[<- Int.neg_mul]; exact Int.mul_nonneg (by omega) m0) (by omega);rw[Int.neg_tdiv] at p;exact Int.mul_nonneg_of_nonpos_of_nonpos (by omega) (by omega)
theorem Hz{x y X Y m n s:Int}(m0:0<=m)(hmn:m<n)(s0:0<=s)(hs:s*s<=X*X+Y*Y)(hX:(X*n).natAbs<=(x*m).natAbs)(hY:(Y*n).natAbs<=(y*m).natAbs)(hn:x*x+y*y<(n+1)*(n+1)):s<=m:=by
 by_cases g:s<=m
 . exact g
 . have a1:=AZ hX;have a2:=AZ hY;have e1:X*n*(X*n)+Y*n*(Y*n)=(X*X+Y*Y)*(n*n):=by
    simp only[Int.mul_add,Int.mul_comm,Int.mul_left_comm]
   have e2:x*m*(x*m)+y*m*(y*m)=(x*x+y*y)*(m*m):=by
    simp only[Int.mul_add,Int.mul_comm,Int.mul_left_comm]
   have nn:0<=n*n:=Int.mul_nonneg (by omega) (by omega);have mm:0<=m*m:=Int.mul_nonneg m0 m0;have b1:(m+1)*(m+1)<=X*X+Y*Y:=by
    have:=Int.mul_le_mul (a:=m+1) (b:=m+1) (c:=s) (d:=s) (by omega) (by omega) (by omega) (by omega);omega
   have b2:(m+1)*(m+1)*(n*n)<=(X*X+Y*Y)*(n*n):=Int.mul_le_mul_of_nonneg_right b1 nn;have b3:(x*x+y*y)*(m*m)<=(n+1)*(n+1)*(m*m):=Int.mul_le_mul_of_nonneg_right (by omega) mm;have e3:=Le (m+1) n;have e4:=Le (n+1) m;have c:=F9 (a:=(m+1)*n) (b:=(n+1)*m) (Int.mul_nonneg (by omega) (by omega)) (Int.mul_nonneg (by omega) m0) (by omega);rw[Int.add_mul,Int.add_mul,Int.mul_comm n m] at c;omega
theorem Ha{x y m:Int}(h:HG x y m=true):∃ X Y,Jh x y m=X/\Ji x y m=Y/\AG x y=true/\AG X Y=true/\Aw m 0 1000000=true/\vl X Y<=m/\(vl x y<=m->X=x/\Y=y)/\(0<=X*x/\X*X<=x*x)/\(0<=Y*y/\Y*Y<=y*y):=by
 have h0:=h;unfold HG at h;simp only[Bool.and_eq_true] at h;obtain⟨h1,h2⟩:=h;have bm:0<=m/\m<=1000000:=by simpa[Aw] using h2
 obtain⟨⟨x1,x2⟩,y1,y2⟩:=(Cd x y).1 h1;have qx:=Bo x1 x2;have qy:=Bo y1 y2;by_cases c:vl x y<=m
 . have⟨e1,e2,_⟩:=Kc h1 h2 c;exact⟨x,y,e1,e2,h1,h1,h2,c,fun _=>⟨rfl,rfl⟩,⟨by omega,by omega⟩,by omega,by omega⟩
 . have⟨e1,e2,_⟩:=Jk h1 h2 c;obtain⟨s,_,es,⟨s0,s1⟩,_,_,_,s3⟩:=Fz h1;rw[es] at c e1 e2;have⟨a1,a2,a3⟩:=E0 (x:=x) (n:=s) bm.1 (by omega);have⟨b1,b2,b3⟩:=E0 (x:=y) (n:=s) bm.1 (by omega);have hv:AG ((x*m).tdiv s) ((y*m).tdiv s)=true:=Dg (by omega);obtain⟨t,_,et,⟨t0,_⟩,_,_,t2,_⟩:=Fz hv;have hl:=Hz bm.1 (by omega) t0 t2 a3 b3 s3;exact⟨_,_,e1,e2,h1,hv,h2,by rw[et]; exact hl,fun k=>absurd k (by rw[es]; exact c),⟨a2,AZ a1⟩,b2,AZ b1⟩
theorem Hc{x y:Int}(h:AG x y=true):∃ s,Ld x y=s/\(0<=s/\s<1414214)/\max x (-x)<=s/\max y (-y)<=s/\s<=max x (-x)+max y (-y):=by
 obtain⟨s,e,_,⟨s0,s1⟩,_,_,s2,s3⟩:=Fz h;have ax:x*x=max x (-x)*max x (-x):=by
  rw[FA x,show(x.natAbs:Int)=max x (-x) from by omega]
 have ay:y*y=max y (-y)*max y (-y):=by
  rw[FA y,show(y.natAbs:Int)=max y (-y) from by omega]
 rw[ax,ay] at s2 s3;have px:0<=max x (-x):=by omega
 have py:0<=max y (-y):=by omega
 refine⟨s,e,⟨s0,s1⟩,?_⟩;generalize max x (-x)=p at *;generalize max y (-y)=q at *;have pp:=Int.mul_nonneg px px;have qq:=Int.mul_nonneg py py;have pq:=Int.mul_nonneg px py;have a:=Bt (a:=p) (b:=s+1) px (by omega) (by omega);have b:=Bt (a:=q) (b:=s+1) py (by omega) (by omega);have ex:(p+q)*(p+q)=p*p+q*q+2*(p*q):=by
  simp only[Int.mul_add,Int.mul_comm]; omega
 have c:=F9 (a:=s) (b:=p+q) s0 (by omega) (by omega);omega
end M
end Go.Proofs.Ytflmmdljkhdjlaa
namespace Go.Proofs.Ytflmmdljkhdjlaa
open Go.RowKit
open M
theorem Cn(x y k:Int)(w:World)(x1:-1000000<=x)(x2:x<=1000000)(y1:-1000000<=y)(y2:y<=1000000)(k1:-2000000000<=k)(k2:k<=2000000000):Calls Try.prog 115 #[DK x y,.int .i64 k] w fun e w'=>e=.returned (DK (mu x k) (mu y k))/\Below w.heap.size w w':=by
 go_enter Try.func115,Try.ntmps115;go_wp2_with fail
 go_region_with ((go_at_call 119; refine(IA _ _ _ (by omega) (by omega) (by omega) (by omega)).mono ?_; rintro e w' ⟨rfl,rfl⟩))
 all_goals
  go_wp2;exact bodyPost_ret (v:=DK ((x*k).tdiv 1000) ((y*k).tdiv 1000)) (by simp[results,Try.results115,go_sem]) rfl ⟨Jl rfl rfl,by repeat (first | exact Ac _ | refine Ab ?_ _ | refine Ar ?_ _ _ _ (by omega) | refine AM ?_ _)⟩
theorem E3(x y:Int)(w:World)(x1:-1000000<=x)(x2:x<=1000000)(y1:-1000000<=y)(y2:y<=1000000):Calls Try.prog 120 #[DK x y] w fun e w'=>e=.returned (.int .i64 (vl x y))/\Below w.heap.size w w':=by
 have a:=Bo x1 x2;have b:=Bo y1 y2;go_enter Try.func120,Try.ntmps120;go_wp2_with fail;refine(IB _ _ (by omega) (by omega)).mono ?_;rintro e w' ⟨rfl,rfl⟩;go_wp2;go_ret;exact⟨AY rfl,Ab (Ac w) _⟩
theorem GB(x y L:Int)(w:World)(hL:vl x y=L)(x1:-1000000<=x)(x2:x<=1000000)(y1:-1000000<=y)(y2:y<=1000000):Calls Try.prog 120 #[DK x y] w fun e w'=>e=.returned (.int .i64 L)/\Below w.heap.size w w':=by
 subst hL;exact E3 x y w x1 x2 y1 y2
open Go.RowKit
open M
theorem Ga{d:Int}(h0:0<=d)(h1:d<=15):d=0\/d=1\/d=2\/d=3\/d=4\/d=5\/d=6\/d=7\/d=8\/d=9\/d=10\/d=11\/d=12\/d=13\/d=14\/d=15:=by omega
theorem HD(d:Int)(w:World)(h0:0<=d)(h1:d<=15):Calls Try.prog 116 #[.int .i64 d] w fun e w'=>e=.returned (DK (Dh d) (Di d))/\Below w.heap.size w w':=by
 rcases Ga h0 h1 with rfl | rfl | rfl | rfl | rfl | rfl | rfl | rfl | rfl | rfl | rfl | rfl | rfl | rfl | rfl | rfl
 all_goals
  go_enter Try.func116,Try.ntmps116;go_wp2
  go_region
  all_goals
   go_wp2;exact bodyPost_ret (by simp[results,Try.results116,go_sem]; decide) rfl ⟨rfl,by repeat (first | exact Ac _ | refine Ab ?_ _ | refine Ar ?_ _ _ _ (by omega) | refine AM ?_ _)⟩
theorem Gb(x y m:Int)(w:World)(x1:-1000000<=x)(x2:x<=1000000)(y1:-1000000<=y)(y2:y<=1000000)(m1:0<=m)(m2:m<=1000000):Calls Try.prog 117 #[DK x y,.int .i64 m] w fun e w'=>e=.returned (DK (Jh x y m) (Ji x y m))/\Below w.heap.size w w':=by
 have hv:AG x y=true:=Dg ⟨⟨x1,x2⟩,y1,y2⟩;have hm:Aw m 0 1000000=true:=CV ⟨m1,m2⟩;obtain⟨l1,l2⟩:=Kb x1 x2 y1 y2;by_cases c:vl x y<=m
 . have E:=hid (Kc hv hm c);clear hv hm;go_enter Try.func117,Try.ntmps117;go_wp2_with fail;refine(E3 _ _ _ x1 x2 y1 y2).mono ?_;rintro e w1 ⟨rfl,B1⟩;have C1:=B1;clear B1;obtain⟨hc1,hf1⟩:=AF C1;have H1:=hid (Aa (Ab (Ab (Ac w) _) _) C1);go_wp2;exact bodyPost_ret (v:=DK x y) (by simp[results,Try.results117,go_sem,hc1]) rfl ⟨Jl (by rw[E.out.1]) (by rw[E.out.2.1]),Ar (Ar (H1.out) _ _ _ (by omega)) _ _ _ (by omega)⟩
 . have E:=hid (Jk hv hm c);have p1:=BP (a:=x) (b:=m) (by omega) (by omega) (by omega) (by omega);have p2:=BP (a:=y) (b:=m) (by omega) (by omega) (by omega) (by omega);have s1:=F8 (n:=vl x y) x1 x2 m1 m2;have s2:=F8 (n:=vl x y) y1 y2 m1 m2;have n0:vl x y≠0:=by omega
   have w1':IntKind.i64.wrap (x*m)=x*m:=IntWalk.i64_in _ (by omega);have w2':IntKind.i64.wrap (y*m)=y*m:=IntWalk.i64_in _ (by omega);have w3':IntKind.i64.wrap ((x*m).tdiv (vl x y))=(x*m).tdiv (vl x y):=IntWalk.i64_in _ (by omega);have w4':IntKind.i64.wrap ((y*m).tdiv (vl x y))=(y*m).tdiv (vl x y):=IntWalk.i64_in _ (by omega);have n1:m<vl x y:=by omega
   clear hv hm c;obtain⟨L,hL⟩:∃ L,vl x y=L:=⟨_,rfl⟩;rw[hL] at E s1 s2 n0 n1 w3' w4' l1 l2;have hL:=hid hL;go_enter Try.func117,Try.ntmps117;go_wp2_with fail;refine(GB _ _ L _ hL.out x1 x2 y1 y2).mono ?_;rintro e w1 ⟨rfl,B1⟩;obtain⟨hc1,hf1⟩:=AF B1;have H1:=hid (Aa (Ab (Ab (Ac w) _) _) B1);clear B1;go_wp2_with fail
   go_region
   all_goals
    go_wp2;exact bodyPost_ret (v:=DK ((x*m).tdiv L) ((y*m).tdiv L)) (by simp[results,Try.results117,go_sem,hc1]) rfl ⟨Jl (by rw[E.out.1]) (by rw[E.out.2.1]),by repeat (first | exact H1.out | refine Ar ?_ _ _ _ (by omega) | refine AM ?_ _)⟩
end Go.Proofs.Ytflmmdljkhdjlaa
