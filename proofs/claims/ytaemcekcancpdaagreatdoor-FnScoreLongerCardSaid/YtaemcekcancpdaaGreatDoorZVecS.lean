import Derived.Test.YtaemcekcancpdaaGreatDoorZNum
import Derived.Below
import Derived.Deep.RegionWith
import Derived.RegionTactic
import Derived.BigQuiet
import Derived.Deep.QuietTactic
set_option linter.all false
set_option maxRecDepth 100000
set_option maxHeartbeats 8000000
open Go.Lib
namespace Go.Proofs.YtaemcekcancpdaaGreatDoor
namespace M
def Aw(x y:Int):Bool:=Bc x (-1000000) 1000000&&Bc y (-1000000) 1000000
theorem NC{x y:Int}(h:Bc x (-1000000) 1000000=false):Aw x y=false:=by simp[Aw,h]
theorem LG{x y:Int}(h:Bc x (-1000000) 1000000=true):Aw x y=Bc y (-1000000) 1000000:=by simp[Aw,h]
theorem AZ(x y:Int):Aw x y=true↔(-1000000<=x/\x<=1000000)/\(-1000000<=y/\y<=1000000):=by simp[Aw,Bc]
theorem CH{x y:Int}(h:(-1000000<=x/\x<=1000000)/\(-1000000<=y/\y<=1000000)):Aw x y=true:=(AZ x y).2 h
theorem OV{x y:Int}(h:Aw x y=false):¬ ((-1000000<=x/\x<=1000000)/\(-1000000<=y/\y<=1000000)):=fun g=>by rw[CH g] at h; cases h
theorem TJ{x y:Int}(h:¬ ((-1000000<=x/\x<=1000000)/\(-1000000<=y/\y<=1000000))):Aw x y=false:=by
 cases e:Aw x y
 . rfl
 . exact absurd ((AZ x y).1 e) h
def LH(x y:Int):Int:=if Aw x y then x else 0
def LI(x y:Int):Int:=if Aw x y then y else 0
theorem Hx{x y:Int}(h:Aw x y=true):LH x y=x/\LI x y=y:=by simp[LH,LI,h]
theorem QE{x y:Int}(h:Aw x y=false):LH x y=0/\LI x y=0:=by simp[LH,LI,h]
def QX(x y u v:Int):Int:=if Aw x y&&Aw u v then LH (x+u) (y+v) else 0
def QY(x y u v:Int):Int:=if Aw x y&&Aw u v then LI (x+u) (y+v) else 0
def QZ(x y u v:Int):Bool:=Aw x y&&Aw u v&&Aw (x+u) (y+v)
theorem TK{x y u v:Int}(h:Aw x y=false):QX x y u v=0/\QY x y u v=0/\QZ x y u v=false:=by simp[QX,QY,QZ,h]
theorem TL{x y u v:Int}(h:Aw u v=false):QX x y u v=0/\QY x y u v=0/\QZ x y u v=false:=by simp[QX,QY,QZ,h]
theorem Mw{x y u v:Int}(h:Aw x y=true)(g:Aw u v=true):QX x y u v=LH (x+u) (y+v)/\QY x y u v=LI (x+u) (y+v)/\QZ x y u v=Aw (x+u) (y+v):=by simp[QX,QY,QZ,h,g]
def mu(a b:Int):Int:=(a*b).tdiv 1000
def QF(x y k:Int):Int:=if Aw x y&&okB k then LH (mu x k) (mu y k) else 0
def QG(x y k:Int):Int:=if Aw x y&&okB k then LI (mu x k) (mu y k) else 0
def QH(x y k:Int):Bool:=Aw x y&&okB k&&Aw (mu x k) (mu y k)
theorem TM{x y k:Int}(h:Aw x y=false):QF x y k=0/\QG x y k=0/\QH x y k=false:=by simp[QF,QG,QH,h]
theorem TN{x y k:Int}(h:okB k=false):QF x y k=0/\QG x y k=0/\QH x y k=false:=by simp[QF,QG,QH,h]
theorem Mx{x y k:Int}(h:Aw x y=true)(g:okB k=true):QF x y k=LH (mu x k) (mu y k)/\QG x y k=LI (mu x k) (mu y k)/\QH x y k=Aw (mu x k) (mu y k):=by simp[QF,QG,QH,h,g]
def vl(x y:Int):Int:=sq (x*x+y*y)
def SF(x y:Int):Int:=if Aw x y then vl x y else 0
theorem SG{x y:Int}(h:Aw x y=false):SF x y=0:=by simp[SF,h]
theorem Fz{x y:Int}(h:Aw x y=true):SF x y=vl x y:=by simp[SF,h]
theorem Ce{x:Int}(x1:-1000000<=x)(x2:x<=1000000):0<=x*x/\x*x<=1000000000000:=by
 have h:(x*x).natAbs<=1000000*1000000:=by rw[Int.natAbs_mul]; exact Nat.mul_le_mul (by omega) (by omega)
 have p:0<=x*x:=by
  by_cases g:0<=x
  . exact Int.mul_nonneg g g
  . exact Int.mul_nonneg_of_nonpos_of_nonpos (by omega) (by omega)
 omega
theorem QI{x y:Int}(x1:-1000000<=x)(x2:x<=1000000)(y1:-1000000<=y)(y2:y<=1000000):0<=vl x y/\vl x y<1414214:=by
 have a:=Ce x1 x2;have b:=Ce y1 y2;exact Ur (by omega) (by omega)
def dirs:List Int:=[1000,924,707,383,0,-383,-707,-924,-1000,-924,-707,-383,0,383,707,924]
def BL(d:Int):Int:=if Bc d 0 15 then dirs.getD d.toNat 0 else 0
def BM(d:Int):Int:=if Bc d 0 15 then dirs.getD ((d.toNat+12) % 16) 0 else 0
theorem TO{d:Int}(h:Bc d 0 15=false):BL d=0/\BM d=0:=by simp[BL,BM,h]
theorem Gc{a m n:Int}(a1:-1000000<=a)(a2:a<=1000000)(m1:0<=m)(m2:m<=1000000):-1000000000000<=(a*m).tdiv n/\(a*m).tdiv n<=1000000000000:=by
 have h:((a*m).tdiv n).natAbs<=1000000*1000000:=by
  rw[Int.natAbs_tdiv,Int.natAbs_mul];exact Nat.le_trans (Nat.div_le_self _ _) (Nat.mul_le_mul (by omega) (by omega))
 omega
def LJ(x y m:Int):Bool:=Aw x y&&Bc m 0 1000000
def Kw(x y m:Int):Int:=if LJ x y m then (if vl x y<=m then x else (x*m).tdiv (vl x y)) else 0
def Kx(x y m:Int):Int:=if LJ x y m then (if vl x y<=m then y else (y*m).tdiv (vl x y)) else 0
theorem TT{x y m:Int}(h:Aw x y=false):Kw x y m=0/\Kx x y m=0/\LJ x y m=false:=by simp[Kw,Kx,LJ,h]
theorem QJ{x y m:Int}(h:Bc m 0 1000000=false):Kw x y m=0/\Kx x y m=0/\LJ x y m=false:=by simp[Kw,Kx,LJ,h]
theorem My{x y m:Int}(h:Aw x y=true)(g:Bc m 0 1000000=true):LJ x y m=true:=by simp[LJ,h,g]
theorem QK{x y m:Int}(h:Aw x y=true)(g:Bc m 0 1000000=true)(k:vl x y<=m):Kw x y m=x/\Kx x y m=y/\LJ x y m=true:=by simp[Kw,Kx,LJ,h,g,k]
theorem Mz{x y m:Int}(h:Aw x y=true)(g:Bc m 0 1000000=true)(k:¬ vl x y<=m):Kw x y m=(x*m).tdiv (vl x y)/\Kx x y m=(y*m).tdiv (vl x y)/\LJ x y m=true:=by simp[Kw,Kx,LJ,h,g,k]
end M
end Go.Proofs.YtaemcekcancpdaaGreatDoor
namespace Go.Proofs.YtaemcekcancpdaaGreatDoor
open Go.RowKit
open M
abbrev Bs(x y:Int):Value:=.agg #[.int .i64 x,.int .i64 y]
theorem AC{W w1:World}(hb:Below W.heap.size W w1):(∀ b o,b<W.heap.size->w1.cell? ⟨b,o,none⟩=W.cell? ⟨b,o,none⟩)/\(∀ b o,b<W.heap.size->w1.frozen? ⟨b,o,none⟩=W.frozen? ⟨b,o,none⟩) :=
 ⟨fun b o h=>hb.cell (p:=⟨b,o,none⟩) h,fun b o h=>hb.frozen (p:=⟨b,o,none⟩) h⟩
theorem Aa{w a:World}(h:Below w.heap.size w a)(o:Obj):Below w.heap.size w (a.alloc o):=h.alloc h.size o
theorem Ap{w a:World}(h:Below w.heap.size w a)(b o:Nat)(v:Value)(hp:w.heap.size<=b):Below w.heap.size w (a.setCell ⟨b,o,none⟩ v):=h.setCell (p:=⟨b,o,none⟩) hp v
theorem Ab{w a b:World}(h:Below w.heap.size w a)(k:Below a.heap.size a b):Below w.heap.size w b:=h.trans (k.mono h.size)
theorem BD{w a:World}(h:Below w.heap.size w a)(n:Nat):Below w.heap.size w (a.drewN n):=h.trans ⟨rfl,rfl,rfl,Nat.le_refl _,fun _ _=>rfl⟩
theorem Ac(w:World):Below w.heap.size w w:=Below.refl _ _
theorem Cf{x y x' y':Int}{c d:Bool}(h1:x=x')(h2:y=y')(g:c=d):Ending.returned (.tuple #[.agg #[.int .i64 x,.int .i64 y],.bool c])=.returned (.tuple #[Bs x' y',.bool d]):=by rw[h1,h2,g]
theorem QL{x y x' y':Int}(h1:x=x')(h2:y=y'):Ending.returned (.agg #[.int .i64 x,.int .i64 y])=.returned (Bs x' y'):=by rw[h1,h2]
theorem Bp(x y:Int)(w:World):Calls Tryz.prog 57 #[Bs x y] w fun e w'=>e=.returned (.bool (Aw x y))/\Below w.heap.size w w':=by
 cases hx:Bc x (-1000000) 1000000
 . have E:=hid (NC (y:=y) hx);go_enter Tryz.func57,Tryz.ntmps57;go_wp2_with (go_at_call 27; refine(Gy _ _ _ _).mono ?_; rintro e w' ⟨rfl,rfl⟩);go_ret;exact⟨Aq (by rw[E.out]),Aa (Below.refl _ _) _⟩
 . have E:=hid (LG (y:=y) hx);go_enter Tryz.func57,Tryz.ntmps57;go_wp2_with (go_at_call 27; refine(Gy _ _ _ _).mono ?_; rintro e w' ⟨rfl,rfl⟩);go_ret;exact⟨Aq (by rw[E.out]),Aa (Below.refl _ _) _⟩
end Go.Proofs.YtaemcekcancpdaaGreatDoor
namespace Go.Proofs.YtaemcekcancpdaaGreatDoor
namespace M
theorem UN{x y u v:Int}(h1:Aw x y=true)(h2:Aw u v=true)(h3:Aw (x+u) (y+v)=true):QX x y u v=x+u/\QY x y u v=y+v/\QZ x y u v=true:=by
 have⟨e1,e2,e3⟩:=Mw h1 h2;have⟨r1,r2⟩:=Hx h3;exact⟨by rw[e1,r1],by rw[e2,r2],by rw[e3,h3]⟩
theorem SH{x y k p q:Int}(h:Aw x y=true)(hk:okB k=true)(hp:mu x k=p)(hq:mu y k=q)(h3:Aw p q=true):QF x y k=p/\QG x y k=q/\QH x y k=true:=by
 have⟨e1,e2,e3⟩:=Mx h hk;rw[hp,hq] at e1 e2 e3;have⟨r1,r2⟩:=Hx h3;exact⟨by rw[e1,r1],by rw[e2,r2],by rw[e3,h3]⟩
theorem Ks{x y:Int}(h:Aw x y=true):∃ s,SF x y=s/\vl x y=s/\(0<=s/\s<1414214)/\(0<=x*x/\x*x<=1000000000000)/\(0<=y*y/\y*y<=1000000000000)/\s*s<=x*x+y*y/\x*x+y*y<(s+1)*(s+1):=by
 obtain⟨⟨x1,x2⟩,y1,y2⟩:=(AZ x y).1 h;have a:=Ce x1 x2;have b:=Ce y1 y2;have⟨s1,s2⟩:=FO (n:=x*x+y*y) (by omega);exact⟨vl x y,Fz h,rfl,QI x1 x2 y1 y2,a,b,s1,s2⟩
theorem Sp:SF 0 0=0/\Aw 0 0=true:=by
 have h:Aw 0 0=true:=CH (by omega);refine⟨?_,h⟩;rw[Fz h];exact(Gw (n:=0*0+0*0) (r:=0) (by omega) (by omega) (by omega) (by omega)).symm
theorem Kt(z:Int):z*z=(z.natAbs:Int)*(z.natAbs:Int):=by
 by_cases g:0<=z
 . rw[show(z.natAbs:Int)=z from by omega]
 . rw[show(z.natAbs:Int)=-z from by omega,Int.neg_mul_neg]
theorem BS{a b:Int}(h:a.natAbs<=b.natAbs):a*a<=b*b:=by
 rw[Kt a,Kt b];exact Int.mul_le_mul (by omega) (by omega) (by omega) (by omega)
theorem LK{a b:Int}(ha:0<=a)(hb:0<=b)(h:a*a<=b*b):a<=b:=by
 by_cases g:a<=b
 . exact g
 . have:=Int.mul_le_mul (a:=b+1) (b:=b+1) (c:=a) (d:=a) (by omega) (by omega) (by omega) (by omega);have e:(b+1)*(b+1)=b*b+2*b+1:=by rw[Int.add_mul,Int.mul_add]; omega
   omega
theorem UO(a b:Int):a*a*(b*b)=a*b*(a*b):=by simp only[Int.mul_comm,Int.mul_left_comm]
theorem JE{x m n:Int}(m0:0<=m)(h:m<n):((x*m).tdiv n).natAbs<=x.natAbs/\0<=(x*m).tdiv n*x/\((x*m).tdiv n*n).natAbs<=(x*m).natAbs:=by
 have n1:((x*m).tdiv n*n).natAbs<=(x*m).natAbs:=by
  rw[Int.natAbs_mul,Int.natAbs_tdiv]; exact Nat.div_mul_le_self _ _
 refine⟨?_,?_,n1⟩
 . rw[Int.natAbs_tdiv,Int.natAbs_mul];exact Nat.div_le_of_le_mul (by rw[Nat.mul_comm]; exact Nat.mul_le_mul (by omega) (Nat.le_refl _))
 . by_cases g:0<=x
   . exact Int.mul_nonneg (Int.tdiv_nonneg (Int.mul_nonneg g m0) (by omega)) g
   . have p:0<=(-(x*m)).tdiv n:=Int.tdiv_nonneg (by rw[<- Int.neg_mul]; exact Int.mul_nonneg (by omega) m0) (by omega);rw[Int.neg_tdiv] at p;exact Int.mul_nonneg_of_nonpos_of_nonpos (by omega) (by omega)
theorem OX{x y X Y m n s:Int}(m0:0<=m)(hmn:m<n)(s0:0<=s)(hs:s*s<=X*X+Y*Y)(hX:(X*n).natAbs<=(x*m).natAbs)(hY:(Y*n).natAbs<=(y*m).natAbs)(hn:x*x+y*y<(n+1)*(n+1)):s<=m:=by
 by_cases g:s<=m
 . exact g
 . have a1:=BS hX;have a2:=BS hY;have e1:X*n*(X*n)+Y*n*(Y*n)=(X*X+Y*Y)*(n*n):=by
    simp only[Int.mul_add,Int.mul_comm,Int.mul_left_comm]
   have e2:x*m*(x*m)+y*m*(y*m)=(x*x+y*y)*(m*m):=by
    simp only[Int.mul_add,Int.mul_comm,Int.mul_left_comm]
   have nn:0<=n*n:=Int.mul_nonneg (by omega) (by omega);have mm:0<=m*m:=Int.mul_nonneg m0 m0;have b1:(m+1)*(m+1)<=X*X+Y*Y:=by
    have:=Int.mul_le_mul (a:=m+1) (b:=m+1) (c:=s) (d:=s) (by omega) (by omega) (by omega) (by omega);omega
   have b2:(m+1)*(m+1)*(n*n)<=(X*X+Y*Y)*(n*n):=Int.mul_le_mul_of_nonneg_right b1 nn;have b3:(x*x+y*y)*(m*m)<=(n+1)*(n+1)*(m*m):=Int.mul_le_mul_of_nonneg_right (by omega) mm;have e3:=UO (m+1) n;have e4:=UO (n+1) m;have c:=LK (a:=(m+1)*n) (b:=(n+1)*m) (Int.mul_nonneg (by omega) (by omega)) (Int.mul_nonneg (by omega) m0) (by omega);rw[Int.add_mul,Int.add_mul,Int.mul_comm n m] at c;omega
theorem ND{x y m:Int}(h:LJ x y m=true):∃ X Y,Kw x y m=X/\Kx x y m=Y/\Aw x y=true/\Aw X Y=true/\Bc m 0 1000000=true/\vl X Y<=m/\(vl x y<=m->X=x/\Y=y)/\(0<=X*x/\X*X<=x*x)/\(0<=Y*y/\Y*Y<=y*y):=by
 have h0:=h;unfold LJ at h;simp only[Bool.and_eq_true] at h;obtain⟨h1,h2⟩:=h;have bm:0<=m/\m<=1000000:=by simpa[Bc] using h2
 obtain⟨⟨x1,x2⟩,y1,y2⟩:=(AZ x y).1 h1;have qx:=Ce x1 x2;have qy:=Ce y1 y2;by_cases c:vl x y<=m
 . have⟨e1,e2,_⟩:=QK h1 h2 c;exact⟨x,y,e1,e2,h1,h1,h2,c,fun _=>⟨rfl,rfl⟩,⟨by omega,by omega⟩,by omega,by omega⟩
 . have⟨e1,e2,_⟩:=Mz h1 h2 c;obtain⟨s,_,es,⟨s0,s1⟩,_,_,_,s3⟩:=Ks h1;rw[es] at c e1 e2;have⟨a1,a2,a3⟩:=JE (x:=x) (n:=s) bm.1 (by omega);have⟨b1,b2,b3⟩:=JE (x:=y) (n:=s) bm.1 (by omega);have hv:Aw ((x*m).tdiv s) ((y*m).tdiv s)=true:=CH (by omega);obtain⟨t,_,et,⟨t0,_⟩,_,_,t2,_⟩:=Ks hv;have hl:=OX bm.1 (by omega) t0 t2 a3 b3 s3;exact⟨_,_,e1,e2,h1,hv,h2,by rw[et]; exact hl,fun k=>absurd k (by rw[es]; exact c),⟨a2,BS a1⟩,b2,BS b1⟩
theorem NE{d:Int}(h0:0<=d)(h1:d<=15):d=0\/d=1\/d=2\/d=3\/d=4\/d=5\/d=6\/d=7\/d=8\/d=9\/d=10\/d=11\/d=12\/d=13\/d=14\/d=15:=by omega
theorem QM{d:Int}(h:Bc d 0 15=true):0<=d/\d<=15:=by simpa[Bc] using h
theorem QN{d:Int}(h:Bc d 0 15=true):(-1000<=BL d/\BL d<=1000)/\(-1000<=BM d/\BM d<=1000)/\(998001<=BL d*BL d+BM d*BM d/\BL d*BL d+BM d*BM d<1004004):=by
 obtain⟨h0,h1⟩:=QM h;clear h;rcases NE h0 h1 with rfl | rfl | rfl | rfl | rfl | rfl | rfl | rfl | rfl | rfl | rfl | rfl | rfl | rfl | rfl | rfl<;>decide
theorem QO{d:Int}(h:Bc d 0 15=true):BL ((d+4) % 16)=-BM d/\BM ((d+4) % 16)=BL d/\Bc ((d+4) % 16) 0 15=true:=by
 obtain⟨h0,h1⟩:=QM h;clear h;rcases NE h0 h1 with rfl | rfl | rfl | rfl | rfl | rfl | rfl | rfl | rfl | rfl | rfl | rfl | rfl | rfl | rfl | rfl<;>decide
theorem NF{x y:Int}(h:Aw x y=true):∃ s,SF x y=s/\(0<=s/\s<1414214)/\max x (-x)<=s/\max y (-y)<=s/\s<=max x (-x)+max y (-y):=by
 obtain⟨s,e,_,⟨s0,s1⟩,_,_,s2,s3⟩:=Ks h;have ax:x*x=max x (-x)*max x (-x):=by
  rw[Kt x,show(x.natAbs:Int)=max x (-x) from by omega]
 have ay:y*y=max y (-y)*max y (-y):=by
  rw[Kt y,show(y.natAbs:Int)=max y (-y) from by omega]
 rw[ax,ay] at s2 s3;have px:0<=max x (-x):=by omega
 have py:0<=max y (-y):=by omega
 refine⟨s,e,⟨s0,s1⟩,?_⟩;generalize max x (-x)=p at *;generalize max y (-y)=q at *;have pp:=Int.mul_nonneg px px;have qq:=Int.mul_nonneg py py;have pq:=Int.mul_nonneg px py;have a:=CK (a:=p) (b:=s+1) px (by omega) (by omega);have b:=CK (a:=q) (b:=s+1) py (by omega) (by omega);have ex:(p+q)*(p+q)=p*p+q*q+2*(p*q):=by
  simp only[Int.mul_add,Int.mul_comm]; omega
 have c:=LK (a:=s) (b:=p+q) s0 (by omega) (by omega);omega
end M
end Go.Proofs.YtaemcekcancpdaaGreatDoor
namespace Go.Proofs.YtaemcekcancpdaaGreatDoor
open Go.RowKit
open M
theorem EK(x y k:Int)(w:World)(x1:-1000000<=x)(x2:x<=1000000)(y1:-1000000<=y)(y2:y<=1000000)(k1:-2000000000<=k)(k2:k<=2000000000):Calls Tryz.prog 89 #[Bs x y,.int .i64 k] w fun e w'=>e=.returned (Bs (mu x k) (mu y k))/\Below w.heap.size w w':=by
 go_enter Tryz.func89,Tryz.ntmps89;go_wp2_with fail
 go_region_with ((go_at_call 97; refine(PI _ _ _ (by omega) (by omega) (by omega) (by omega)).mono ?_; rintro e w' ⟨rfl,rfl⟩))
 all_goals
  go_wp2;exact bodyPost_ret (v:=Bs ((x*k).tdiv 1000) ((y*k).tdiv 1000)) (by simp[results,Tryz.results89,go_sem]) rfl ⟨QL rfl rfl,by repeat (first | exact Ac _ | refine Aa ?_ _ | refine Ap ?_ _ _ _ (by omega) | refine BD ?_ _)⟩
theorem JF(x y:Int)(w:World)(x1:-1000000<=x)(x2:x<=1000000)(y1:-1000000<=y)(y2:y<=1000000):Calls Tryz.prog 98 #[Bs x y] w fun e w'=>e=.returned (.int .i64 (vl x y))/\Below w.heap.size w w':=by
 have a:=Ce x1 x2;have b:=Ce y1 y2;go_enter Tryz.func98,Tryz.ntmps98;go_wp2_with fail;refine(PL _ _ (by omega) (by omega)).mono ?_;rintro e w' ⟨rfl,rfl⟩;go_wp2;go_ret;exact⟨BK rfl,Aa (Ac w) _⟩
theorem MB(x y L:Int)(w:World)(hL:vl x y=L)(x1:-1000000<=x)(x2:x<=1000000)(y1:-1000000<=y)(y2:y<=1000000):Calls Tryz.prog 98 #[Bs x y] w fun e w'=>e=.returned (.int .i64 L)/\Below w.heap.size w w':=by
 subst hL;exact JF x y w x1 x2 y1 y2
open Go.RowKit
open M
theorem LL{d:Int}(h0:0<=d)(h1:d<=15):d=0\/d=1\/d=2\/d=3\/d=4\/d=5\/d=6\/d=7\/d=8\/d=9\/d=10\/d=11\/d=12\/d=13\/d=14\/d=15:=by omega
theorem OY(d:Int)(w:World)(h0:0<=d)(h1:d<=15):Calls Tryz.prog 90 #[.int .i64 d] w fun e w'=>e=.returned (Bs (BL d) (BM d))/\Below w.heap.size w w':=by
 rcases LL h0 h1 with rfl | rfl | rfl | rfl | rfl | rfl | rfl | rfl | rfl | rfl | rfl | rfl | rfl | rfl | rfl | rfl
 all_goals
  go_enter Tryz.func90,Tryz.ntmps90;go_wp2
  go_region
  all_goals
   go_wp2;exact bodyPost_ret (by simp[results,Tryz.results90,go_sem]; decide) rfl ⟨rfl,by repeat (first | exact Ac _ | refine Aa ?_ _ | refine Ap ?_ _ _ _ (by omega) | refine BD ?_ _)⟩
theorem LM(x y m:Int)(w:World)(x1:-1000000<=x)(x2:x<=1000000)(y1:-1000000<=y)(y2:y<=1000000)(m1:0<=m)(m2:m<=1000000):Calls Tryz.prog 91 #[Bs x y,.int .i64 m] w fun e w'=>e=.returned (Bs (Kw x y m) (Kx x y m))/\Below w.heap.size w w':=by
 have hv:Aw x y=true:=CH ⟨⟨x1,x2⟩,y1,y2⟩;have hm:Bc m 0 1000000=true:=BR ⟨m1,m2⟩;obtain⟨l1,l2⟩:=QI x1 x2 y1 y2;by_cases c:vl x y<=m
 . have E:=hid (QK hv hm c);clear hv hm;go_enter Tryz.func91,Tryz.ntmps91;go_wp2_with fail;refine(JF _ _ _ x1 x2 y1 y2).mono ?_;rintro e w1 ⟨rfl,B1⟩;have C1:=B1;clear B1;obtain⟨hc1,hf1⟩:=AC C1;have H1:=hid (Ab (Aa (Aa (Ac w) _) _) C1);go_wp2;exact bodyPost_ret (v:=Bs x y) (by simp[results,Tryz.results91,go_sem,hc1]) rfl ⟨QL (by rw[E.out.1]) (by rw[E.out.2.1]),Ap (Ap (H1.out) _ _ _ (by omega)) _ _ _ (by omega)⟩
 . have E:=hid (Mz hv hm c);have p1:=Cm (a:=x) (b:=m) (by omega) (by omega) (by omega) (by omega);have p2:=Cm (a:=y) (b:=m) (by omega) (by omega) (by omega) (by omega);have s1:=Gc (n:=vl x y) x1 x2 m1 m2;have s2:=Gc (n:=vl x y) y1 y2 m1 m2;have n0:vl x y≠0:=by omega
   have w1':IntKind.i64.wrap (x*m)=x*m:=IntWalk.i64_in _ (by omega);have w2':IntKind.i64.wrap (y*m)=y*m:=IntWalk.i64_in _ (by omega);have w3':IntKind.i64.wrap ((x*m).tdiv (vl x y))=(x*m).tdiv (vl x y):=IntWalk.i64_in _ (by omega);have w4':IntKind.i64.wrap ((y*m).tdiv (vl x y))=(y*m).tdiv (vl x y):=IntWalk.i64_in _ (by omega);have n1:m<vl x y:=by omega
   clear hv hm c;obtain⟨L,hL⟩:∃ L,vl x y=L:=⟨_,rfl⟩;rw[hL] at E s1 s2 n0 n1 w3' w4' l1 l2;have hL:=hid hL;go_enter Tryz.func91,Tryz.ntmps91;go_wp2_with fail;refine(MB _ _ L _ hL.out x1 x2 y1 y2).mono ?_;rintro e w1 ⟨rfl,B1⟩;obtain⟨hc1,hf1⟩:=AC B1;have H1:=hid (Ab (Aa (Aa (Ac w) _) _) B1);clear B1;go_wp2_with fail
   go_region
   all_goals
    go_wp2;exact bodyPost_ret (v:=Bs ((x*m).tdiv L) ((y*m).tdiv L)) (by simp[results,Tryz.results91,go_sem,hc1]) rfl ⟨QL (by rw[E.out.1]) (by rw[E.out.2.1]),by repeat (first | exact H1.out | refine Ap ?_ _ _ _ (by omega) | refine BD ?_ _)⟩
end Go.Proofs.YtaemcekcancpdaaGreatDoor
namespace Go.Proofs.YtaemcekcancpdaaGreatDoor
namespace M
theorem NH(x y:Int):(if x<y then y else x)=max x y:=by split<;>omega
theorem NJ(x y:Int):(if y<x then y else x)=min x y:=by split<;>omega
def Dd(a b c d:Int):Bool:=Aw a b&&Aw c d&&decide (a<=c)&&decide (b<=d)
theorem QP{a b c d:Int}(h:Aw a b=false):Dd a b c d=false:=by simp[Dd,h]
theorem QQ{a b c d:Int}(h:Aw c d=false):Dd a b c d=false:=by simp[Dd,h]
theorem TU{a b c d:Int}(h:¬ a<=c):Dd a b c d=false:=by
 unfold Dd; rw[decide_eq_false h,Bool.and_false,Bool.false_and]
theorem TW{a b c d:Int}(h:Aw a b=true)(g:Aw c d=true)(k:a<=c):Dd a b c d=decide (b<=d):=by simp[Dd,h,g,k]
theorem EL(a b c d:Int):Dd a b c d=true↔((-1000000<=a/\a<=1000000)/\(-1000000<=b/\b<=1000000))/\((-1000000<=c/\c<=1000000)/\(-1000000<=d/\d<=1000000))/\a<=c/\b<=d:=by
 simp only[Dd,Bool.and_eq_true,AZ,decide_eq_true_eq];constructor
 . rintro⟨⟨⟨h1,h2⟩,h3⟩,h4⟩; exact⟨h1,h2,h3,h4⟩
 . rintro⟨h1,h2,h3,h4⟩; exact⟨⟨⟨h1,h2⟩,h3⟩,h4⟩
def Du(a b c d x y:Int):Bool:=Bc x a c&&Bc y b d
theorem UP{a b c d x y:Int}(h:Bc x a c=false):Du a b c d x y=false:=by simp[Du,h]
theorem TX{a b c d x y:Int}(h:Bc x a c=true):Du a b c d x y=Bc y b d:=by simp[Du,h]
def LN(a b c d x y:Int):Bool:=Dd a b c d&&Aw x y&&Du a b c d x y
theorem TY{a b c d x y:Int}(h:Dd a b c d=false):LN a b c d x y=false:=by simp[LN,h]
theorem TZ{a b c d x y:Int}(h:Aw x y=false):LN a b c d x y=false:=by simp[LN,h]
theorem GP{a b c d x y:Int}(h:Dd a b c d=true)(g:Aw x y=true):LN a b c d x y=Du a b c d x y:=by simp[LN,h,g]
def NK(a b c d x y:Int):Bool:=Dd a b c d&&Aw x y
def UQ(a b c d x y:Int):Int:=if NK a b c d x y then max a (min x c) else 0
def UR(a b c d x y:Int):Int:=if NK a b c d x y then max b (min y d) else 0
theorem QR{a b c d x y:Int}(h:NK a b c d x y=false):UQ a b c d x y=0/\UR a b c d x y=0:=by simp[UQ,UR,h]
theorem QS{a b c d x y:Int}(h:NK a b c d x y=true):UQ a b c d x y=max a (min x c)/\UR a b c d x y=max b (min y d):=by simp[UQ,UR,h]
def NL(a b c d x y r:Int):Bool:=decide ((x-max a (min x c))*(x-max a (min x c))+(y-max b (min y d))*(y-max b (min y d))<=r*r)
theorem QT{a c x:Int}(a1:-1000000<=a)(c2:c<=1000000)(ac:a<=c)(x1:-1000000<=x)(x2:x<=1000000):-2000000<=x-max a (min x c)/\x-max a (min x c)<=2000000:=by omega
end M
end Go.Proofs.YtaemcekcancpdaaGreatDoor
namespace Go.Proofs.YtaemcekcancpdaaGreatDoor
open Go.RowKit
open M
abbrev box(a b c d:Int):Value:=.agg #[.int .i64 a,.int .i64 b,.int .i64 c,.int .i64 d]
theorem CR(a b c d:Int)(w:World):Calls Tryz.prog 59 #[box a b c d] w fun e w'=>e=.returned (.bool (Dd a b c d))/\Below w.heap.size w w':=by
 cases h:Aw a b
 . have E:=hid (QP (c:=c) (d:=d) h);go_enter Tryz.func59,Tryz.ntmps59;go_wp2_with fail;refine(Bp _ _ _).mono ?_;rintro e w1 ⟨rfl,B1⟩;have C1:=B1;clear B1;obtain⟨hc1,hf1⟩:=AC C1;have H1:=hid (Ab (Aa (Ac w) _) C1);go_wp2;go_ret;exact⟨Aq (by rw[E.out]),H1.out⟩
 cases g:Aw c d
 . have E:=hid (QQ (a:=a) (b:=b) g);go_enter Tryz.func59,Tryz.ntmps59;go_wp2_with fail;refine(Bp _ _ _).mono ?_;rintro e w1 ⟨rfl,B1⟩;have C1:=B1;clear B1;obtain⟨hc1,hf1⟩:=AC C1;have H1:=hid (Ab (Aa (Ac w) _) C1);go_wp2_with fail;refine(Bp _ _ _).mono ?_;rintro e w2 ⟨rfl,B2⟩;have C2:=Ab C1 B2;clear hc1 hf1 C1 B2;obtain⟨hc2,hf2⟩:=AC C2;have H2:=hid (Ab (Aa (Ac w) _) C2);go_wp2;go_ret;exact⟨Aq (by rw[E.out]),H2.out⟩
 by_cases k:a<=c
 . have E:=hid (TW h g k);go_enter Tryz.func59,Tryz.ntmps59;go_wp2_with fail;refine(Bp _ _ _).mono ?_;rintro e w1 ⟨rfl,B1⟩;have C1:=B1;clear B1;obtain⟨hc1,hf1⟩:=AC C1;have H1:=hid (Ab (Aa (Ac w) _) C1);go_wp2_with fail;refine(Bp _ _ _).mono ?_;rintro e w2 ⟨rfl,B2⟩;have C2:=Ab C1 B2;clear hc1 hf1 C1 B2;obtain⟨hc2,hf2⟩:=AC C2;have H2:=hid (Ab (Aa (Ac w) _) C2);go_wp2;go_ret;exact⟨Aq (by rw[E.out]),H2.out⟩
 . have E:=hid (TU (b:=b) (d:=d) k);have k2:decide (a<=c)=false:=decide_eq_false k;go_enter Tryz.func59,Tryz.ntmps59;go_wp2_with fail;refine(Bp _ _ _).mono ?_;rintro e w1 ⟨rfl,B1⟩;have C1:=B1;clear B1;obtain⟨hc1,hf1⟩:=AC C1;have H1:=hid (Ab (Aa (Ac w) _) C1);go_wp2_with fail;refine(Bp _ _ _).mono ?_;rintro e w2 ⟨rfl,B2⟩;have C2:=Ab C1 B2;clear hc1 hf1 C1 B2;obtain⟨hc2,hf2⟩:=AC C2;have H2:=hid (Ab (Aa (Ac w) _) C2);go_wp2;go_ret;exact⟨Aq (by rw[E.out]),H2.out⟩
theorem GQ(a b c d x y:Int)(w:World):Calls Tryz.prog 80 #[box a b c d,Bs x y] w fun e w'=>e=.returned (.bool (Du a b c d x y))/\Below w.heap.size w w':=by
 cases h:Bc x a c
 . have E:=hid (UP (b:=b) (d:=d) (y:=y) h);go_enter Tryz.func80,Tryz.ntmps80;go_wp2_with (go_at_call 27; refine(Gy _ _ _ _).mono ?_; rintro e w' ⟨rfl,rfl⟩);go_ret;exact⟨Aq (by rw[E.out]),Aa (Aa (Ac w) _) _⟩
 . have E:=hid (TX (b:=b) (d:=d) (y:=y) h);go_enter Tryz.func80,Tryz.ntmps80;go_wp2_with (go_at_call 27; refine(Gy _ _ _ _).mono ?_; rintro e w' ⟨rfl,rfl⟩);go_ret;exact⟨Aq (by rw[E.out]),Aa (Aa (Ac w) _) _⟩
theorem IU(a b c d x y:Int)(w:World):Calls Tryz.prog 88 #[box a b c d,Bs x y] w fun e w'=>e=.returned (Bs (max a (min x c)) (max b (min y d)))/\Below w.heap.size w w':=by
 have hmx:=NH;have hmn:=NJ;go_enter Tryz.func88,Tryz.ntmps88;go_wp2;exact bodyPost_ret (v:=Bs (max a (min x c)) (max b (min y d))) (by simp[results,Tryz.results88,go_sem]) rfl ⟨rfl,by repeat (first | exact Ac _ | refine Aa ?_ _ | refine Ap ?_ _ _ _ (by omega))⟩
theorem LO(a b c d x y r:Int)(w:World)(hb:Dd a b c d=true)(hv:Aw x y=true)(r0:0<=r)(r1:r<=1000000):Calls Tryz.prog 75 #[box a b c d,Bs x y,.int .i64 r] w fun e w'=>e=.returned (.bool (NL a b c d x y r))/\Below w.heap.size w w':=by
 obtain⟨⟨⟨a1,a2⟩,b1,b2⟩,⟨⟨c1,c2⟩,d1,d2⟩,ac,bd⟩:=(EL a b c d).1 hb;obtain⟨⟨x1,x2⟩,y1,y2⟩:=(AZ x y).1 hv;have g1:=QT a1 c2 ac x1 x2;have g2:=QT b1 d2 bd y1 y2;have n1:-1000000<=max a (min x c)/\max a (min x c)<=1000000:=by omega
 have n2:-1000000<=max b (min y d)/\max b (min y d)<=1000000:=by omega
 have E:=hid (show NL a b c d x y r=decide ((x-max a (min x c))*(x-max a (min x c))+(y-max b (min y d))*(y-max b (min y d))<=r*r) from rfl);have Q:=hid (fun W=>IU a b c d x y W);clear hb hv;generalize max a (min x c)=X at *;generalize max b (min y d)=Y at *;have m1:=Cm (a:=x-X) (b:=x-X) (by omega) (by omega) (by omega) (by omega);have m2:=Cm (a:=y-Y) (b:=y-Y) (by omega) (by omega) (by omega) (by omega);have m3:=Cm (a:=r) (b:=r) (by omega) (by omega) (by omega) (by omega);go_enter Tryz.func75,Tryz.ntmps75;go_wp2_with fail;refine(Q.out _).mono ?_;rintro e w1 ⟨rfl,B1⟩;obtain⟨hc1,hf1⟩:=AC B1
 have l0:w.heap.size<w1.heap.size:=by have:=B1.size; simp at this; omega
 have l1:w.heap.size+1<w1.heap.size:=by have:=B1.size; simp at this; omega
 have H1:=hid (Ab (Aa (Aa (Ac w) _) _) B1);clear B1 Q;go_wp2;go_ret;exact⟨Aq (by rw[E.out]),Aa H1.out _⟩
end Go.Proofs.YtaemcekcancpdaaGreatDoor
namespace Go.Proofs.YtaemcekcancpdaaGreatDoor
namespace M
end M
end Go.Proofs.YtaemcekcancpdaaGreatDoor
namespace Go.Proofs.YtaemcekcancpdaaGreatDoor
namespace M
def U6(h n:Int):Int:=(8191*h+n % 1000003+1) % 1000003
def LP(h:Int)(xs:List Int):Int:=xs.foldl U6 h
def US(xs:List Int):Bool:=xs.all okB&&decide (xs.length<=200)
def hI(xs:List Int):Int:=if US xs then LP 17 xs else -1
def tg(k:Int)(xs:List Int):Int:=U6 (LP (U6 17 k) xs) k
def tI(k:Int)(xs:List Int):Int:=if Bc k 1 9999&&US xs then tg k xs else -1
def tC(k:Int)(xs:List Int)(t:Int):Bool:=decide (0<=t)&&decide (tI k xs=t)
end M
end Go.Proofs.YtaemcekcancpdaaGreatDoor
namespace Go.Proofs.YtaemcekcancpdaaGreatDoor
open Go.RowKit
open M
theorem AV(n lo hi:Int)(b:Bool)(w:World)(h:Bc n lo hi=b):Calls Tryz.prog 27 #[.int .i64 n,.int .i64 lo,.int .i64 hi] w fun e w'=>e=.returned (.bool b)/\w=w':=by
 subst h;exact Gy n lo hi w
end Go.Proofs.YtaemcekcancpdaaGreatDoor
namespace Go.Proofs.YtaemcekcancpdaaGreatDoor
namespace M
end M
end Go.Proofs.YtaemcekcancpdaaGreatDoor
