import Derived.Test.YtgbiagonfbnooaaDoorZNum
import Derived.Below
import Derived.Deep.RegionWith
import Derived.RegionTactic
import Derived.BigQuiet
import Derived.Deep.QuietTactic
set_option linter.all false
set_option maxRecDepth 100000
set_option maxHeartbeats 8000000
open Go.Lib
namespace Go.Proofs.YtgbiagonfbnooaaDoor
namespace M
def AB(x y:Int):Bool:=Ax x (-1000000) 1000000&&Ax y (-1000000) 1000000
theorem Kz{x y:Int}(h:Ax x (-1000000) 1000000=false):AB x y=false:=by simp[AB,h]
theorem Jv{x y:Int}(h:Ax x (-1000000) 1000000=true):AB x y=Ax y (-1000000) 1000000:=by simp[AB,h]
theorem BJ(x y:Int):AB x y=true↔(-1000000<=x/\x<=1000000)/\(-1000000<=y/\y<=1000000):=by simp[AB,Ax]
theorem CY{x y:Int}(h:(-1000000<=x/\x<=1000000)/\(-1000000<=y/\y<=1000000)):AB x y=true:=(BJ x y).2 h
def mu(a b:Int):Int:=(a*b).tdiv 1000
def vl(x y:Int):Int:=sq (x*x+y*y)
def LP(x y:Int):Int:=if AB x y then vl x y else 0
theorem Ea{x y:Int}(h:AB x y=true):LP x y=vl x y:=by simp[LP,h]
theorem AZ{x:Int}(x1:-1000000<=x)(x2:x<=1000000):0<=x*x/\x*x<=1000000000000:=by
 have h:(x*x).natAbs<=1000000*1000000:=by rw[Int.natAbs_mul]; exact Nat.mul_le_mul (by omega) (by omega)
 have p:0<=x*x:=by
  by_cases g:0<=x
  . exact Int.mul_nonneg g g
  . exact Int.mul_nonneg_of_nonpos_of_nonpos (by omega) (by omega)
 omega
theorem KM{x y:Int}(x1:-1000000<=x)(x2:x<=1000000)(y1:-1000000<=y)(y2:y<=1000000):0<=vl x y/\vl x y<1414214:=by
 have a:=AZ x1 x2;have b:=AZ y1 y2;exact LF (by omega) (by omega)
def dirs:List Int:=[1000,924,707,383,0,-383,-707,-924,-1000,-924,-707,-383,0,383,707,924]
def CZ(d:Int):Int:=if Ax d 0 15 then dirs.getD d.toNat 0 else 0
def C6(d:Int):Int:=if Ax d 0 15 then dirs.getD ((d.toNat+12) % 16) 0 else 0
theorem FV{a m n:Int}(a1:-1000000<=a)(a2:a<=1000000)(m1:0<=m)(m2:m<=1000000):-1000000000000<=(a*m).tdiv n/\(a*m).tdiv n<=1000000000000:=by
 have h:((a*m).tdiv n).natAbs<=1000000*1000000:=by
  rw[Int.natAbs_tdiv,Int.natAbs_mul];exact Nat.le_trans (Nat.div_le_self _ _) (Nat.mul_le_mul (by omega) (by omega))
 omega
def HI(x y m:Int):Bool:=AB x y&&Ax m 0 1000000
def Jw(x y m:Int):Int:=if HI x y m then (if vl x y<=m then x else (x*m).tdiv (vl x y)) else 0
def Jy(x y m:Int):Int:=if HI x y m then (if vl x y<=m then y else (y*m).tdiv (vl x y)) else 0
theorem Jz{x y m:Int}(h:AB x y=true)(g:Ax m 0 1000000=true):HI x y m=true:=by simp[HI,h,g]
theorem KN{x y m:Int}(h:AB x y=true)(g:Ax m 0 1000000=true)(k:vl x y<=m):Jw x y m=x/\Jy x y m=y/\HI x y m=true:=by simp[Jw,Jy,HI,h,g,k]
theorem JA{x y m:Int}(h:AB x y=true)(g:Ax m 0 1000000=true)(k:¬ vl x y<=m):Jw x y m=(x*m).tdiv (vl x y)/\Jy x y m=(y*m).tdiv (vl x y)/\HI x y m=true:=by simp[Jw,Jy,HI,h,g,k]
end M
end Go.Proofs.YtgbiagonfbnooaaDoor
namespace Go.Proofs.YtgbiagonfbnooaaDoor
open Go.RowKit
open M
abbrev Dp(x y:Int):Value:=.agg #[.int .i64 x,.int .i64 y]
theorem AA{W w1:World}(hb:Below W.heap.size W w1):(∀ b o,b<W.heap.size->w1.cell? ⟨b,o,none⟩=W.cell? ⟨b,o,none⟩)/\(∀ b o,b<W.heap.size->w1.frozen? ⟨b,o,none⟩=W.frozen? ⟨b,o,none⟩) :=
 ⟨fun b o h=>hb.cell (p:=⟨b,o,none⟩) h,fun b o h=>hb.frozen (p:=⟨b,o,none⟩) h⟩
theorem Ab{w a:World}(h:Below w.heap.size w a)(o:Obj):Below w.heap.size w (a.alloc o):=h.alloc h.size o
theorem Ao{w a:World}(h:Below w.heap.size w a)(b o:Nat)(v:Value)(hp:w.heap.size<=b):Below w.heap.size w (a.setCell ⟨b,o,none⟩ v):=h.setCell (p:=⟨b,o,none⟩) hp v
theorem Aa{w a b:World}(h:Below w.heap.size w a)(k:Below a.heap.size a b):Below w.heap.size w b:=h.trans (k.mono h.size)
theorem Cg{w a:World}(h:Below w.heap.size w a)(n:Nat):Below w.heap.size w (a.drewN n):=h.trans ⟨rfl,rfl,rfl,Nat.le_refl _,fun _ _=>rfl⟩
theorem Ac(w:World):Below w.heap.size w w:=Below.refl _ _
theorem JB{x y x' y':Int}(h1:x=x')(h2:y=y'):Ending.returned (.agg #[.int .i64 x,.int .i64 y])=.returned (Dp x' y'):=by rw[h1,h2]
theorem Az(x y:Int)(w:World):Calls Tryd.prog 89 #[Dp x y] w fun e w'=>e=.returned (.bool (AB x y))/\Below w.heap.size w w':=by
 cases hx:Ax x (-1000000) 1000000
 . have E:=hid (Kz (y:=y) hx);go_enter Tryd.func89,Tryd.ntmps89;go_wp2_with (go_at_call 49; refine(DJ _ _ _ _).mono ?_; rintro e w' ⟨rfl,rfl⟩);go_ret;exact⟨Am (by rw[E.out]),Ab (Below.refl _ _) _⟩
 . have E:=hid (Jv (y:=y) hx);go_enter Tryd.func89,Tryd.ntmps89;go_wp2_with (go_at_call 49; refine(DJ _ _ _ _).mono ?_; rintro e w' ⟨rfl,rfl⟩);go_ret;exact⟨Am (by rw[E.out]),Ab (Below.refl _ _) _⟩
end Go.Proofs.YtgbiagonfbnooaaDoor
namespace Go.Proofs.YtgbiagonfbnooaaDoor
namespace M
theorem E8{x y:Int}(h:AB x y=true):∃ s,LP x y=s/\vl x y=s/\(0<=s/\s<1414214)/\(0<=x*x/\x*x<=1000000000000)/\(0<=y*y/\y*y<=1000000000000)/\s*s<=x*x+y*y/\x*x+y*y<(s+1)*(s+1):=by
 obtain⟨⟨x1,x2⟩,y1,y2⟩:=(BJ x y).1 h;have a:=AZ x1 x2;have b:=AZ y1 y2;have⟨s1,s2⟩:=CE (n:=x*x+y*y) (by omega);exact⟨vl x y,Ea h,rfl,KM x1 x2 y1 y2,a,b,s1,s2⟩
theorem KC:LP 0 0=0/\AB 0 0=true:=by
 have h:AB 0 0=true:=CY (by omega);refine⟨?_,h⟩;rw[Ea h];exact(Ex (n:=0*0+0*0) (r:=0) (by omega) (by omega) (by omega) (by omega)).symm
theorem E9(z:Int):z*z=(z.natAbs:Int)*(z.natAbs:Int):=by
 by_cases g:0<=z
 . rw[show(z.natAbs:Int)=z from by omega]
 . rw[show(z.natAbs:Int)=-z from by omega,Int.neg_mul_neg]
theorem AN{a b:Int}(h:a.natAbs<=b.natAbs):a*a<=b*b:=by
 rw[E9 a,E9 b];exact Int.mul_le_mul (by omega) (by omega) (by omega) (by omega)
theorem FW{a b:Int}(ha:0<=a)(hb:0<=b)(h:a*a<=b*b):a<=b:=by
 by_cases g:a<=b
 . exact g
 . have:=Int.mul_le_mul (a:=b+1) (b:=b+1) (c:=a) (d:=a) (by omega) (by omega) (by omega) (by omega);have e:(b+1)*(b+1)=b*b+2*b+1:=by rw[Int.add_mul,Int.mul_add]; omega
   omega
theorem LQ(a b:Int):a*a*(b*b)=a*b*(a*b):=by simp only[Int.mul_comm,Int.mul_left_comm]
theorem EH{x m n:Int}(m0:0<=m)(h:m<n):((x*m).tdiv n).natAbs<=x.natAbs/\0<=(x*m).tdiv n*x/\((x*m).tdiv n*n).natAbs<=(x*m).natAbs:=by
 have n1:((x*m).tdiv n*n).natAbs<=(x*m).natAbs:=by
  rw[Int.natAbs_mul,Int.natAbs_tdiv]; exact Nat.div_mul_le_self _ _
 refine⟨?_,?_,n1⟩
 . rw[Int.natAbs_tdiv,Int.natAbs_mul];exact Nat.div_le_of_le_mul (by rw[Nat.mul_comm]; exact Nat.mul_le_mul (by omega) (Nat.le_refl _))
 . by_cases g:0<=x
   . exact Int.mul_nonneg (Int.tdiv_nonneg (Int.mul_nonneg g m0) (by omega)) g
   . have p:0<=(-(x*m)).tdiv n:=Int.tdiv_nonneg (by rw[<- Int.neg_mul]; exact Int.mul_nonneg (by omega) m0) (by omega);rw[Int.neg_tdiv] at p;exact Int.mul_nonneg_of_nonpos_of_nonpos (by omega) (by omega)
theorem HA{x y X Y m n s:Int}(m0:0<=m)(hmn:m<n)(s0:0<=s)(hs:s*s<=X*X+Y*Y)(hX:(X*n).natAbs<=(x*m).natAbs)(hY:(Y*n).natAbs<=(y*m).natAbs)(hn:x*x+y*y<(n+1)*(n+1)):s<=m:=by
 by_cases g:s<=m
 . exact g
 . have a1:=AN hX;have a2:=AN hY;have e1:X*n*(X*n)+Y*n*(Y*n)=(X*X+Y*Y)*(n*n):=by
    simp only[Int.mul_add,Int.mul_comm,Int.mul_left_comm]
   have e2:x*m*(x*m)+y*m*(y*m)=(x*x+y*y)*(m*m):=by
    simp only[Int.mul_add,Int.mul_comm,Int.mul_left_comm]
   have nn:0<=n*n:=Int.mul_nonneg (by omega) (by omega);have mm:0<=m*m:=Int.mul_nonneg m0 m0;have b1:(m+1)*(m+1)<=X*X+Y*Y:=by
    have:=Int.mul_le_mul (a:=m+1) (b:=m+1) (c:=s) (d:=s) (by omega) (by omega) (by omega) (by omega);omega
   have b2:(m+1)*(m+1)*(n*n)<=(X*X+Y*Y)*(n*n):=Int.mul_le_mul_of_nonneg_right b1 nn;have b3:(x*x+y*y)*(m*m)<=(n+1)*(n+1)*(m*m):=Int.mul_le_mul_of_nonneg_right (by omega) mm;have e3:=LQ (m+1) n;have e4:=LQ (n+1) m;have c:=FW (a:=(m+1)*n) (b:=(n+1)*m) (Int.mul_nonneg (by omega) (by omega)) (Int.mul_nonneg (by omega) m0) (by omega);rw[Int.add_mul,Int.add_mul,Int.mul_comm n m] at c;omega
theorem G1{x y m:Int}(h:HI x y m=true):∃ X Y,Jw x y m=X/\Jy x y m=Y/\AB x y=true/\AB X Y=true/\Ax m 0 1000000=true/\vl X Y<=m/\(vl x y<=m->X=x/\Y=y)/\(0<=X*x/\X*X<=x*x)/\(0<=Y*y/\Y*Y<=y*y):=by
 have h0:=h;unfold HI at h;simp only[Bool.and_eq_true] at h;obtain⟨h1,h2⟩:=h;have bm:0<=m/\m<=1000000:=by simpa[Ax] using h2
 obtain⟨⟨x1,x2⟩,y1,y2⟩:=(BJ x y).1 h1;have qx:=AZ x1 x2;have qy:=AZ y1 y2;by_cases c:vl x y<=m
 . have⟨e1,e2,_⟩:=KN h1 h2 c;exact⟨x,y,e1,e2,h1,h1,h2,c,fun _=>⟨rfl,rfl⟩,⟨by omega,by omega⟩,by omega,by omega⟩
 . have⟨e1,e2,_⟩:=JA h1 h2 c;obtain⟨s,_,es,⟨s0,s1⟩,_,_,_,s3⟩:=E8 h1;rw[es] at c e1 e2;have⟨a1,a2,a3⟩:=EH (x:=x) (n:=s) bm.1 (by omega);have⟨b1,b2,b3⟩:=EH (x:=y) (n:=s) bm.1 (by omega);have hv:AB ((x*m).tdiv s) ((y*m).tdiv s)=true:=CY (by omega);obtain⟨t,_,et,⟨t0,_⟩,_,_,t2,_⟩:=E8 hv;have hl:=HA bm.1 (by omega) t0 t2 a3 b3 s3;exact⟨_,_,e1,e2,h1,hv,h2,by rw[et]; exact hl,fun k=>absurd k (by rw[es]; exact c),⟨a2,AN a1⟩,b2,AN b1⟩
theorem G3{x y:Int}(h:AB x y=true):∃ s,LP x y=s/\(0<=s/\s<1414214)/\max x (-x)<=s/\max y (-y)<=s/\s<=max x (-x)+max y (-y):=by
 obtain⟨s,e,_,⟨s0,s1⟩,_,_,s2,s3⟩:=E8 h;have ax:x*x=max x (-x)*max x (-x):=by
  rw[E9 x,show(x.natAbs:Int)=max x (-x) from by omega]
 have ay:y*y=max y (-y)*max y (-y):=by
  rw[E9 y,show(y.natAbs:Int)=max y (-y) from by omega]
 rw[ax,ay] at s2 s3;have px:0<=max x (-x):=by omega
 have py:0<=max y (-y):=by omega
 refine⟨s,e,⟨s0,s1⟩,?_⟩;generalize max x (-x)=p at *;generalize max y (-y)=q at *;have pp:=Int.mul_nonneg px px;have qq:=Int.mul_nonneg py py;have pq:=Int.mul_nonneg px py;have a:=Bb (a:=p) (b:=s+1) px (by omega) (by omega);have b:=Bb (a:=q) (b:=s+1) py (by omega) (by omega);have ex:(p+q)*(p+q)=p*p+q*q+2*(p*q):=by
  simp only[Int.mul_add,Int.mul_comm]; omega
 have c:=FW (a:=s) (b:=p+q) s0 (by omega) (by omega);omega
end M
end Go.Proofs.YtgbiagonfbnooaaDoor
namespace Go.Proofs.YtgbiagonfbnooaaDoor
open Go.RowKit
open M
theorem BS(x y k:Int)(w:World)(x1:-1000000<=x)(x2:x<=1000000)(y1:-1000000<=y)(y2:y<=1000000)(k1:-2000000000<=k)(k2:k<=2000000000):Calls Tryd.prog 149 #[Dp x y,.int .i64 k] w fun e w'=>e=.returned (Dp (mu x k) (mu y k))/\Below w.heap.size w w':=by
 go_enter Tryd.func149,Tryd.ntmps149;go_wp2_with fail
 go_region_with ((go_at_call 159; refine(IC _ _ _ (by omega) (by omega) (by omega) (by omega)).mono ?_; rintro e w' ⟨rfl,rfl⟩))
 all_goals
  go_wp2;exact bodyPost_ret (v:=Dp ((x*k).tdiv 1000) ((y*k).tdiv 1000)) (by simp[results,Tryd.results149,go_sem]) rfl ⟨JB rfl rfl,by repeat (first | exact Ac _ | refine Ab ?_ _ | refine Ao ?_ _ _ _ (by omega) | refine Cg ?_ _)⟩
theorem EI(x y:Int)(w:World)(x1:-1000000<=x)(x2:x<=1000000)(y1:-1000000<=y)(y2:y<=1000000):Calls Tryd.prog 160 #[Dp x y] w fun e w'=>e=.returned (.int .i64 (vl x y))/\Below w.heap.size w w':=by
 have a:=AZ x1 x2;have b:=AZ y1 y2;go_enter Tryd.func160,Tryd.ntmps160;go_wp2_with fail;refine(ID _ _ (by omega) (by omega)).mono ?_;rintro e w' ⟨rfl,rfl⟩;go_wp2;go_ret;exact⟨AF rfl,Ab (Ac w) _⟩
theorem Gn(x y L:Int)(w:World)(hL:vl x y=L)(x1:-1000000<=x)(x2:x<=1000000)(y1:-1000000<=y)(y2:y<=1000000):Calls Tryd.prog 160 #[Dp x y] w fun e w'=>e=.returned (.int .i64 L)/\Below w.heap.size w w':=by
 subst hL;exact EI x y w x1 x2 y1 y2
open Go.RowKit
open M
theorem FX{d:Int}(h0:0<=d)(h1:d<=15):d=0\/d=1\/d=2\/d=3\/d=4\/d=5\/d=6\/d=7\/d=8\/d=9\/d=10\/d=11\/d=12\/d=13\/d=14\/d=15:=by omega
theorem HC(d:Int)(w:World)(h0:0<=d)(h1:d<=15):Calls Tryd.prog 150 #[.int .i64 d] w fun e w'=>e=.returned (Dp (CZ d) (C6 d))/\Below w.heap.size w w':=by
 rcases FX h0 h1 with rfl | rfl | rfl | rfl | rfl | rfl | rfl | rfl | rfl | rfl | rfl | rfl | rfl | rfl | rfl | rfl
 all_goals
  go_enter Tryd.func150,Tryd.ntmps150;go_wp2
  go_region
  all_goals
   go_wp2;exact bodyPost_ret (by simp[results,Tryd.results150,go_sem]; decide) rfl ⟨rfl,by repeat (first | exact Ac _ | refine Ab ?_ _ | refine Ao ?_ _ _ _ (by omega) | refine Cg ?_ _)⟩
theorem FY(x y m:Int)(w:World)(x1:-1000000<=x)(x2:x<=1000000)(y1:-1000000<=y)(y2:y<=1000000)(m1:0<=m)(m2:m<=1000000):Calls Tryd.prog 151 #[Dp x y,.int .i64 m] w fun e w'=>e=.returned (Dp (Jw x y m) (Jy x y m))/\Below w.heap.size w w':=by
 have hv:AB x y=true:=CY ⟨⟨x1,x2⟩,y1,y2⟩;have hm:Ax m 0 1000000=true:=CC ⟨m1,m2⟩;obtain⟨l1,l2⟩:=KM x1 x2 y1 y2;by_cases c:vl x y<=m
 . have E:=hid (KN hv hm c);clear hv hm;go_enter Tryd.func151,Tryd.ntmps151;go_wp2_with fail;refine(EI _ _ _ x1 x2 y1 y2).mono ?_;rintro e w1 ⟨rfl,B1⟩;have C1:=B1;clear B1;obtain⟨hc1,hf1⟩:=AA C1;have H1:=hid (Aa (Ab (Ab (Ac w) _) _) C1);go_wp2;exact bodyPost_ret (v:=Dp x y) (by simp[results,Tryd.results151,go_sem,hc1]) rfl ⟨JB (by rw[E.out.1]) (by rw[E.out.2.1]),Ao (Ao (H1.out) _ _ _ (by omega)) _ _ _ (by omega)⟩
 . have E:=hid (JA hv hm c);have p1:=Bt (a:=x) (b:=m) (by omega) (by omega) (by omega) (by omega);have p2:=Bt (a:=y) (b:=m) (by omega) (by omega) (by omega) (by omega);have s1:=FV (n:=vl x y) x1 x2 m1 m2;have s2:=FV (n:=vl x y) y1 y2 m1 m2;have n0:vl x y≠0:=by omega
   have w1':IntKind.i64.wrap (x*m)=x*m:=IntWalk.i64_in _ (by omega);have w2':IntKind.i64.wrap (y*m)=y*m:=IntWalk.i64_in _ (by omega);have w3':IntKind.i64.wrap ((x*m).tdiv (vl x y))=(x*m).tdiv (vl x y):=IntWalk.i64_in _ (by omega);have w4':IntKind.i64.wrap ((y*m).tdiv (vl x y))=(y*m).tdiv (vl x y):=IntWalk.i64_in _ (by omega);have n1:m<vl x y:=by omega
   clear hv hm c;obtain⟨L,hL⟩:∃ L,vl x y=L:=⟨_,rfl⟩;rw[hL] at E s1 s2 n0 n1 w3' w4' l1 l2;have hL:=hid hL;go_enter Tryd.func151,Tryd.ntmps151;go_wp2_with fail;refine(Gn _ _ L _ hL.out x1 x2 y1 y2).mono ?_;rintro e w1 ⟨rfl,B1⟩;obtain⟨hc1,hf1⟩:=AA B1;have H1:=hid (Aa (Ab (Ab (Ac w) _) _) B1);clear B1;go_wp2_with fail
   go_region
   all_goals
    go_wp2;exact bodyPost_ret (v:=Dp ((x*m).tdiv L) ((y*m).tdiv L)) (by simp[results,Tryd.results151,go_sem,hc1]) rfl ⟨JB (by rw[E.out.1]) (by rw[E.out.2.1]),by repeat (first | exact H1.out | refine Ao ?_ _ _ _ (by omega) | refine Cg ?_ _)⟩
end Go.Proofs.YtgbiagonfbnooaaDoor
