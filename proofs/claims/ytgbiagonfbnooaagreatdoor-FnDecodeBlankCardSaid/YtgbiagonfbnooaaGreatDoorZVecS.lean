import Derived.Test.YtgbiagonfbnooaaGreatDoorZNum
import Derived.Below
import Derived.Deep.RegionWith
import Derived.RegionTactic
import Derived.BigQuiet
import Derived.Deep.QuietTactic
set_option linter.all false
set_option maxRecDepth 100000
set_option maxHeartbeats 8000000
open Go.Lib
namespace Go.Proofs.YtgbiagonfbnooaaGreatDoor
namespace M
def AD(x y:Int):Bool:=Ax x (-1000000) 1000000&&Ax y (-1000000) 1000000
theorem Mi{x y:Int}(h:Ax x (-1000000) 1000000=false):AD x y=false:=by simp[AD,h]
theorem Ld{x y:Int}(h:Ax x (-1000000) 1000000=true):AD x y=Ax y (-1000000) 1000000:=by simp[AD,h]
theorem Cj(x y:Int):AD x y=true↔(-1000000<=x/\x<=1000000)/\(-1000000<=y/\y<=1000000):=by simp[AD,Ax]
theorem DG{x y:Int}(h:(-1000000<=x/\x<=1000000)/\(-1000000<=y/\y<=1000000)):AD x y=true:=(Cj x y).2 h
def mu(a b:Int):Int:=(a*b).tdiv 1000
def vl(x y:Int):Int:=sq (x*x+y*y)
def NR(x y:Int):Int:=if AD x y then vl x y else 0
theorem Ou{x y:Int}(h:AD x y=true):NR x y=vl x y:=by simp[NR,h]
theorem Bi{x:Int}(x1:-1000000<=x)(x2:x<=1000000):0<=x*x/\x*x<=1000000000000:=by
 have h:(x*x).natAbs<=1000000*1000000:=by rw[Int.natAbs_mul]; exact Nat.mul_le_mul (by omega) (by omega)
 have p:0<=x*x:=by
  by_cases g:0<=x
  . exact Int.mul_nonneg g g
  . exact Int.mul_nonneg_of_nonpos_of_nonpos (by omega) (by omega)
 omega
theorem Mx{x y:Int}(x1:-1000000<=x)(x2:x<=1000000)(y1:-1000000<=y)(y2:y<=1000000):0<=vl x y/\vl x y<1414214:=by
 have a:=Bi x1 x2;have b:=Bi y1 y2;exact Nx (by omega) (by omega)
def dirs:List Int:=[1000,924,707,383,0,-383,-707,-924,-1000,-924,-707,-383,0,383,707,924]
def DI(d:Int):Int:=if Ax d 0 15 then dirs.getD d.toNat 0 else 0
def DJ(d:Int):Int:=if Ax d 0 15 then dirs.getD ((d.toNat+12) % 16) 0 else 0
theorem GP{a m n:Int}(a1:-1000000<=a)(a2:a<=1000000)(m1:0<=m)(m2:m<=1000000):-1000000000000<=(a*m).tdiv n/\(a*m).tdiv n<=1000000000000:=by
 have h:((a*m).tdiv n).natAbs<=1000000*1000000:=by
  rw[Int.natAbs_tdiv,Int.natAbs_mul];exact Nat.le_trans (Nat.div_le_self _ _) (Nat.mul_le_mul (by omega) (by omega))
 omega
def Jn(x y m:Int):Bool:=AD x y&&Ax m 0 1000000
def Le(x y m:Int):Int:=if Jn x y m then (if vl x y<=m then x else (x*m).tdiv (vl x y)) else 0
def Lf(x y m:Int):Int:=if Jn x y m then (if vl x y<=m then y else (y*m).tdiv (vl x y)) else 0
theorem Lg{x y m:Int}(h:AD x y=true)(g:Ax m 0 1000000=true):Jn x y m=true:=by simp[Jn,h,g]
theorem My{x y m:Int}(h:AD x y=true)(g:Ax m 0 1000000=true)(k:vl x y<=m):Le x y m=x/\Lf x y m=y/\Jn x y m=true:=by simp[Le,Lf,Jn,h,g,k]
theorem Lh{x y m:Int}(h:AD x y=true)(g:Ax m 0 1000000=true)(k:¬ vl x y<=m):Le x y m=(x*m).tdiv (vl x y)/\Lf x y m=(y*m).tdiv (vl x y)/\Jn x y m=true:=by simp[Le,Lf,Jn,h,g,k]
end M
end Go.Proofs.YtgbiagonfbnooaaGreatDoor
namespace Go.Proofs.YtgbiagonfbnooaaGreatDoor
open Go.RowKit
open M
abbrev Ei(x y:Int):Value:=.agg #[.int .i64 x,.int .i64 y]
theorem AC{W w1:World}(hb:Below W.heap.size W w1):(∀ b o,b<W.heap.size->w1.cell? ⟨b,o,none⟩=W.cell? ⟨b,o,none⟩)/\(∀ b o,b<W.heap.size->w1.frozen? ⟨b,o,none⟩=W.frozen? ⟨b,o,none⟩) :=
 ⟨fun b o h=>hb.cell (p:=⟨b,o,none⟩) h,fun b o h=>hb.frozen (p:=⟨b,o,none⟩) h⟩
theorem Ab{w a:World}(h:Below w.heap.size w a)(o:Obj):Below w.heap.size w (a.alloc o):=h.alloc h.size o
theorem Ar{w a:World}(h:Below w.heap.size w a)(b o:Nat)(v:Value)(hp:w.heap.size<=b):Below w.heap.size w (a.setCell ⟨b,o,none⟩ v):=h.setCell (p:=⟨b,o,none⟩) hp v
theorem Aa{w a b:World}(h:Below w.heap.size w a)(k:Below a.heap.size a b):Below w.heap.size w b:=h.trans (k.mono h.size)
theorem AY{w a:World}(h:Below w.heap.size w a)(n:Nat):Below w.heap.size w (a.drewN n):=h.trans ⟨rfl,rfl,rfl,Nat.le_refl _,fun _ _=>rfl⟩
theorem Ac(w:World):Below w.heap.size w w:=Below.refl _ _
theorem OC{P:Program}{f:FuncId}{args:Array Value}{w:World}{n:Nat}{v:Value}(h:Calls P f args (w.drewN n) fun e w'=>e=.returned v/\w.drewN n=w') :
 Calls P f args (w.drewN n) fun e w''=>e=.returned v/\∃ m,w''=w.drewN m:=h.mono fun _ _ ⟨he,hm⟩=>⟨he,n,hm.symm⟩
theorem Li{x y x' y':Int}(h1:x=x')(h2:y=y'):Ending.returned (.agg #[.int .i64 x,.int .i64 y])=.returned (Ei x' y'):=by rw[h1,h2]
theorem AB(x y:Int)(w:World):Calls Tryz.prog 77 #[Ei x y] w fun e w'=>e=.returned (.bool (AD x y))/\Below w.heap.size w w':=by
 cases hx:Ax x (-1000000) 1000000
 . have E:=hid (Mi (y:=y) hx);go_enter Tryz.func77,Tryz.ntmps77;go_wp2_with (go_at_call 41; refine(Ew _ _ _ _).mono ?_; rintro e w' ⟨rfl,rfl⟩);go_ret;exact⟨Al (by rw[E.out]),Ab (Below.refl _ _) _⟩
 . have E:=hid (Ld (y:=y) hx);go_enter Tryz.func77,Tryz.ntmps77;go_wp2_with (go_at_call 41; refine(Ew _ _ _ _).mono ?_; rintro e w' ⟨rfl,rfl⟩);go_ret;exact⟨Al (by rw[E.out]),Ab (Below.refl _ _) _⟩
end Go.Proofs.YtgbiagonfbnooaaGreatDoor
namespace Go.Proofs.YtgbiagonfbnooaaGreatDoor
namespace M
theorem F1{x y:Int}(h:AD x y=true):∃ s,NR x y=s/\vl x y=s/\(0<=s/\s<1414214)/\(0<=x*x/\x*x<=1000000000000)/\(0<=y*y/\y*y<=1000000000000)/\s*s<=x*x+y*y/\x*x+y*y<(s+1)*(s+1):=by
 obtain⟨⟨x1,x2⟩,y1,y2⟩:=(Cj x y).1 h;have a:=Bi x1 x2;have b:=Bi y1 y2;have⟨s1,s2⟩:=Df (n:=x*x+y*y) (by omega);exact⟨vl x y,Ou h,rfl,Mx x1 x2 y1 y2,a,b,s1,s2⟩
theorem Mj:NR 0 0=0/\AD 0 0=true:=by
 have h:AD 0 0=true:=DG (by omega);refine⟨?_,h⟩;rw[Ou h];exact(Fu (n:=0*0+0*0) (r:=0) (by omega) (by omega) (by omega) (by omega)).symm
theorem F2(z:Int):z*z=(z.natAbs:Int)*(z.natAbs:Int):=by
 by_cases g:0<=z
 . rw[show(z.natAbs:Int)=z from by omega]
 . rw[show(z.natAbs:Int)=-z from by omega,Int.neg_mul_neg]
theorem AQ{a b:Int}(h:a.natAbs<=b.natAbs):a*a<=b*b:=by
 rw[F2 a,F2 b];exact Int.mul_le_mul (by omega) (by omega) (by omega) (by omega)
theorem GQ{a b:Int}(ha:0<=a)(hb:0<=b)(h:a*a<=b*b):a<=b:=by
 by_cases g:a<=b
 . exact g
 . have:=Int.mul_le_mul (a:=b+1) (b:=b+1) (c:=a) (d:=a) (by omega) (by omega) (by omega) (by omega);have e:(b+1)*(b+1)=b*b+2*b+1:=by rw[Int.add_mul,Int.mul_add]; omega
   omega
theorem NS(a b:Int):a*a*(b*b)=a*b*(a*b):=by simp only[Int.mul_comm,Int.mul_left_comm]
theorem FB{x m n:Int}(m0:0<=m)(h:m<n):((x*m).tdiv n).natAbs<=x.natAbs/\0<=(x*m).tdiv n*x/\((x*m).tdiv n*n).natAbs<=(x*m).natAbs:=by
 have n1:((x*m).tdiv n*n).natAbs<=(x*m).natAbs:=by
  rw[Int.natAbs_mul,Int.natAbs_tdiv]; exact Nat.div_mul_le_self _ _
 refine⟨?_,?_,n1⟩
 . rw[Int.natAbs_tdiv,Int.natAbs_mul];exact Nat.div_le_of_le_mul (by rw[Nat.mul_comm]; exact Nat.mul_le_mul (by omega) (Nat.le_refl _))
 . by_cases g:0<=x
   . exact Int.mul_nonneg (Int.tdiv_nonneg (Int.mul_nonneg g m0) (by omega)) g
   . have p:0<=(-(x*m)).tdiv n:=Int.tdiv_nonneg (by rw[<- Int.neg_mul]; exact Int.mul_nonneg (by omega) m0) (by omega);rw[Int.neg_tdiv] at p;exact Int.mul_nonneg_of_nonpos_of_nonpos (by omega) (by omega)
theorem Ji{x y X Y m n s:Int}(m0:0<=m)(hmn:m<n)(s0:0<=s)(hs:s*s<=X*X+Y*Y)(hX:(X*n).natAbs<=(x*m).natAbs)(hY:(Y*n).natAbs<=(y*m).natAbs)(hn:x*x+y*y<(n+1)*(n+1)):s<=m:=by
 by_cases g:s<=m
 . exact g
 . have a1:=AQ hX;have a2:=AQ hY;have e1:X*n*(X*n)+Y*n*(Y*n)=(X*X+Y*Y)*(n*n):=by
    simp only[Int.mul_add,Int.mul_comm,Int.mul_left_comm]
   have e2:x*m*(x*m)+y*m*(y*m)=(x*x+y*y)*(m*m):=by
    simp only[Int.mul_add,Int.mul_comm,Int.mul_left_comm]
   have nn:0<=n*n:=Int.mul_nonneg (by omega) (by omega);have mm:0<=m*m:=Int.mul_nonneg m0 m0;have b1:(m+1)*(m+1)<=X*X+Y*Y:=by
    have:=Int.mul_le_mul (a:=m+1) (b:=m+1) (c:=s) (d:=s) (by omega) (by omega) (by omega) (by omega);omega
   have b2:(m+1)*(m+1)*(n*n)<=(X*X+Y*Y)*(n*n):=Int.mul_le_mul_of_nonneg_right b1 nn;have b3:(x*x+y*y)*(m*m)<=(n+1)*(n+1)*(m*m):=Int.mul_le_mul_of_nonneg_right (by omega) mm;have e3:=NS (m+1) n;have e4:=NS (n+1) m;have c:=GQ (a:=(m+1)*n) (b:=(n+1)*m) (Int.mul_nonneg (by omega) (by omega)) (Int.mul_nonneg (by omega) m0) (by omega);rw[Int.add_mul,Int.add_mul,Int.mul_comm n m] at c;omega
theorem Iz{x y m:Int}(h:Jn x y m=true):∃ X Y,Le x y m=X/\Lf x y m=Y/\AD x y=true/\AD X Y=true/\Ax m 0 1000000=true/\vl X Y<=m/\(vl x y<=m->X=x/\Y=y)/\(0<=X*x/\X*X<=x*x)/\(0<=Y*y/\Y*Y<=y*y):=by
 have h0:=h;unfold Jn at h;simp only[Bool.and_eq_true] at h;obtain⟨h1,h2⟩:=h;have bm:0<=m/\m<=1000000:=by simpa[Ax] using h2
 obtain⟨⟨x1,x2⟩,y1,y2⟩:=(Cj x y).1 h1;have qx:=Bi x1 x2;have qy:=Bi y1 y2;by_cases c:vl x y<=m
 . have⟨e1,e2,_⟩:=My h1 h2 c;exact⟨x,y,e1,e2,h1,h1,h2,c,fun _=>⟨rfl,rfl⟩,⟨by omega,by omega⟩,by omega,by omega⟩
 . have⟨e1,e2,_⟩:=Lh h1 h2 c;obtain⟨s,_,es,⟨s0,s1⟩,_,_,_,s3⟩:=F1 h1;rw[es] at c e1 e2;have⟨a1,a2,a3⟩:=FB (x:=x) (n:=s) bm.1 (by omega);have⟨b1,b2,b3⟩:=FB (x:=y) (n:=s) bm.1 (by omega);have hv:AD ((x*m).tdiv s) ((y*m).tdiv s)=true:=DG (by omega);obtain⟨t,_,et,⟨t0,_⟩,_,_,t2,_⟩:=F1 hv;have hl:=Ji bm.1 (by omega) t0 t2 a3 b3 s3;exact⟨_,_,e1,e2,h1,hv,h2,by rw[et]; exact hl,fun k=>absurd k (by rw[es]; exact c),⟨a2,AQ a1⟩,b2,AQ b1⟩
theorem IA{x y:Int}(h:AD x y=true):∃ s,NR x y=s/\(0<=s/\s<1414214)/\max x (-x)<=s/\max y (-y)<=s/\s<=max x (-x)+max y (-y):=by
 obtain⟨s,e,_,⟨s0,s1⟩,_,_,s2,s3⟩:=F1 h;have ax:x*x=max x (-x)*max x (-x):=by
  rw[F2 x,show(x.natAbs:Int)=max x (-x) from by omega]
 have ay:y*y=max y (-y)*max y (-y):=by
  rw[F2 y,show(y.natAbs:Int)=max y (-y) from by omega]
 rw[ax,ay] at s2 s3;have px:0<=max x (-x):=by omega
 have py:0<=max y (-y):=by omega
 refine⟨s,e,⟨s0,s1⟩,?_⟩;generalize max x (-x)=p at *;generalize max y (-y)=q at *;have pp:=Int.mul_nonneg px px;have qq:=Int.mul_nonneg py py;have pq:=Int.mul_nonneg px py;have a:=Bt (a:=p) (b:=s+1) px (by omega) (by omega);have b:=Bt (a:=q) (b:=s+1) py (by omega) (by omega);have ex:(p+q)*(p+q)=p*p+q*q+2*(p*q):=by
  simp only[Int.mul_add,Int.mul_comm]; omega
 have c:=GQ (a:=s) (b:=p+q) s0 (by omega) (by omega);omega
end M
end Go.Proofs.YtgbiagonfbnooaaGreatDoor
namespace Go.Proofs.YtgbiagonfbnooaaGreatDoor
open Go.RowKit
open M
theorem CC(x y k:Int)(w:World)(x1:-1000000<=x)(x2:x<=1000000)(y1:-1000000<=y)(y2:y<=1000000)(k1:-2000000000<=k)(k2:k<=2000000000):Calls Tryz.prog 139 #[Ei x y,.int .i64 k] w fun e w'=>e=.returned (Ei (mu x k) (mu y k))/\Below w.heap.size w w':=by
 go_enter Tryz.func139,Tryz.ntmps139;go_wp2_with fail
 go_region_with ((go_at_call 149; refine(J5 _ _ _ (by omega) (by omega) (by omega) (by omega)).mono ?_; rintro e w' ⟨rfl,rfl⟩))
 all_goals
  go_wp2;exact bodyPost_ret (v:=Ei ((x*k).tdiv 1000) ((y*k).tdiv 1000)) (by simp[results,Tryz.results139,go_sem]) rfl ⟨Li rfl rfl,by repeat (first | exact Ac _ | refine Ab ?_ _ | refine Ar ?_ _ _ _ (by omega) | refine AY ?_ _)⟩
theorem FC(x y:Int)(w:World)(x1:-1000000<=x)(x2:x<=1000000)(y1:-1000000<=y)(y2:y<=1000000):Calls Tryz.prog 150 #[Ei x y] w fun e w'=>e=.returned (.int .i64 (vl x y))/\Below w.heap.size w w':=by
 have a:=Bi x1 x2;have b:=Bi y1 y2;go_enter Tryz.func150,Tryz.ntmps150;go_wp2_with fail;refine(J6 _ _ (by omega) (by omega)).mono ?_;rintro e w' ⟨rfl,rfl⟩;go_wp2;go_ret;exact⟨AN rfl,Ab (Ac w) _⟩
theorem Hw(x y L:Int)(w:World)(hL:vl x y=L)(x1:-1000000<=x)(x2:x<=1000000)(y1:-1000000<=y)(y2:y<=1000000):Calls Tryz.prog 150 #[Ei x y] w fun e w'=>e=.returned (.int .i64 L)/\Below w.heap.size w w':=by
 subst hL;exact FC x y w x1 x2 y1 y2
open Go.RowKit
open M
theorem GR{d:Int}(h0:0<=d)(h1:d<=15):d=0\/d=1\/d=2\/d=3\/d=4\/d=5\/d=6\/d=7\/d=8\/d=9\/d=10\/d=11\/d=12\/d=13\/d=14\/d=15:=by omega
theorem Jj(d:Int)(w:World)(h0:0<=d)(h1:d<=15):Calls Tryz.prog 140 #[.int .i64 d] w fun e w'=>e=.returned (Ei (DI d) (DJ d))/\Below w.heap.size w w':=by
 rcases GR h0 h1 with rfl | rfl | rfl | rfl | rfl | rfl | rfl | rfl | rfl | rfl | rfl | rfl | rfl | rfl | rfl | rfl
 all_goals
  go_enter Tryz.func140,Tryz.ntmps140;go_wp2
  go_region
  all_goals
   go_wp2;exact bodyPost_ret (by simp[results,Tryz.results140,go_sem]; decide) rfl ⟨rfl,by repeat (first | exact Ac _ | refine Ab ?_ _ | refine Ar ?_ _ _ _ (by omega) | refine AY ?_ _)⟩
theorem GT(x y m:Int)(w:World)(x1:-1000000<=x)(x2:x<=1000000)(y1:-1000000<=y)(y2:y<=1000000)(m1:0<=m)(m2:m<=1000000):Calls Tryz.prog 141 #[Ei x y,.int .i64 m] w fun e w'=>e=.returned (Ei (Le x y m) (Lf x y m))/\Below w.heap.size w w':=by
 have hv:AD x y=true:=DG ⟨⟨x1,x2⟩,y1,y2⟩;have hm:Ax m 0 1000000=true:=De ⟨m1,m2⟩;obtain⟨l1,l2⟩:=Mx x1 x2 y1 y2;by_cases c:vl x y<=m
 . have E:=hid (My hv hm c);clear hv hm;go_enter Tryz.func141,Tryz.ntmps141;go_wp2_with fail;refine(FC _ _ _ x1 x2 y1 y2).mono ?_;rintro e w1 ⟨rfl,B1⟩;have C1:=B1;clear B1;obtain⟨hc1,hf1⟩:=AC C1;have H1:=hid (Aa (Ab (Ab (Ac w) _) _) C1);go_wp2;exact bodyPost_ret (v:=Ei x y) (by simp[results,Tryz.results141,go_sem,hc1]) rfl ⟨Li (by rw[E.out.1]) (by rw[E.out.2.1]),Ar (Ar (H1.out) _ _ _ (by omega)) _ _ _ (by omega)⟩
 . have E:=hid (Lh hv hm c);have p1:=BS (a:=x) (b:=m) (by omega) (by omega) (by omega) (by omega);have p2:=BS (a:=y) (b:=m) (by omega) (by omega) (by omega) (by omega);have s1:=GP (n:=vl x y) x1 x2 m1 m2;have s2:=GP (n:=vl x y) y1 y2 m1 m2;have n0:vl x y≠0:=by omega
   have w1':IntKind.i64.wrap (x*m)=x*m:=IntWalk.i64_in _ (by omega);have w2':IntKind.i64.wrap (y*m)=y*m:=IntWalk.i64_in _ (by omega);have w3':IntKind.i64.wrap ((x*m).tdiv (vl x y))=(x*m).tdiv (vl x y):=IntWalk.i64_in _ (by omega);have w4':IntKind.i64.wrap ((y*m).tdiv (vl x y))=(y*m).tdiv (vl x y):=IntWalk.i64_in _ (by omega);have n1:m<vl x y:=by omega
   clear hv hm c;obtain⟨L,hL⟩:∃ L,vl x y=L:=⟨_,rfl⟩;rw[hL] at E s1 s2 n0 n1 w3' w4' l1 l2;have hL:=hid hL;go_enter Tryz.func141,Tryz.ntmps141;go_wp2_with fail;refine(Hw _ _ L _ hL.out x1 x2 y1 y2).mono ?_;rintro e w1 ⟨rfl,B1⟩;obtain⟨hc1,hf1⟩:=AC B1;have H1:=hid (Aa (Ab (Ab (Ac w) _) _) B1);clear B1;go_wp2_with fail
   go_region
   all_goals
    go_wp2;exact bodyPost_ret (v:=Ei ((x*m).tdiv L) ((y*m).tdiv L)) (by simp[results,Tryz.results141,go_sem,hc1]) rfl ⟨Li (by rw[E.out.1]) (by rw[E.out.2.1]),by repeat (first | exact H1.out | refine Ar ?_ _ _ _ (by omega) | refine AY ?_ _)⟩
end Go.Proofs.YtgbiagonfbnooaaGreatDoor
