import Derived.Test.YtaemcekcancpdabGreatDoorZNum
import Derived.Below
import Derived.Deep.RegionWith
import Derived.RegionTactic
import Derived.BigQuiet
import Derived.Deep.QuietTactic
set_option linter.all false
set_option maxRecDepth 100000
set_option maxHeartbeats 8000000
open Go.Lib
namespace Go.Proofs.YtaemcekcancpdabGreatDoor
namespace M
def Av(x y:Int):Bool:=Be x (-1000000) 1000000&&Be y (-1000000) 1000000
theorem NH{x y:Int}(h:Be x (-1000000) 1000000=false):Av x y=false:=by simp[Av,h]
theorem LN{x y:Int}(h:Be x (-1000000) 1000000=true):Av x y=Be y (-1000000) 1000000:=by simp[Av,h]
theorem AY(x y:Int):Av x y=true↔(-1000000<=x/\x<=1000000)/\(-1000000<=y/\y<=1000000):=by simp[Av,Be]
theorem CC{x y:Int}(h:(-1000000<=x/\x<=1000000)/\(-1000000<=y/\y<=1000000)):Av x y=true:=(AY x y).2 h
theorem OZ{x y:Int}(h:Av x y=false):¬ ((-1000000<=x/\x<=1000000)/\(-1000000<=y/\y<=1000000)):=fun g=>by rw[CC g] at h; cases h
theorem Ut{x y:Int}(h:¬ ((-1000000<=x/\x<=1000000)/\(-1000000<=y/\y<=1000000))):Av x y=false:=by
 cases e:Av x y
 . rfl
 . exact absurd ((AY x y).1 e) h
def LO(x y:Int):Int:=if Av x y then x else 0
def LP(x y:Int):Int:=if Av x y then y else 0
theorem Hy{x y:Int}(h:Av x y=true):LO x y=x/\LP x y=y:=by simp[LO,LP,h]
theorem QX{x y:Int}(h:Av x y=false):LO x y=0/\LP x y=0:=by simp[LO,LP,h]
def Rn(x y u v:Int):Int:=if Av x y&&Av u v then LO (x+u) (y+v) else 0
def Ro(x y u v:Int):Int:=if Av x y&&Av u v then LP (x+u) (y+v) else 0
def Rp(x y u v:Int):Bool:=Av x y&&Av u v&&Av (x+u) (y+v)
theorem Uu{x y u v:Int}(h:Av x y=false):Rn x y u v=0/\Ro x y u v=0/\Rp x y u v=false:=by simp[Rn,Ro,Rp,h]
theorem Uv{x y u v:Int}(h:Av u v=false):Rn x y u v=0/\Ro x y u v=0/\Rp x y u v=false:=by simp[Rn,Ro,Rp,h]
theorem MJ{x y u v:Int}(h:Av x y=true)(g:Av u v=true):Rn x y u v=LO (x+u) (y+v)/\Ro x y u v=LP (x+u) (y+v)/\Rp x y u v=Av (x+u) (y+v):=by simp[Rn,Ro,Rp,h,g]
def mu(a b:Int):Int:=(a*b).tdiv 1000
def QY(x y k:Int):Int:=if Av x y&&okB k then LO (mu x k) (mu y k) else 0
def QZ(x y k:Int):Int:=if Av x y&&okB k then LP (mu x k) (mu y k) else 0
def Q3(x y k:Int):Bool:=Av x y&&okB k&&Av (mu x k) (mu y k)
theorem Uw{x y k:Int}(h:Av x y=false):QY x y k=0/\QZ x y k=0/\Q3 x y k=false:=by simp[QY,QZ,Q3,h]
theorem Uy{x y k:Int}(h:okB k=false):QY x y k=0/\QZ x y k=0/\Q3 x y k=false:=by simp[QY,QZ,Q3,h]
theorem MK{x y k:Int}(h:Av x y=true)(g:okB k=true):QY x y k=LO (mu x k) (mu y k)/\QZ x y k=LP (mu x k) (mu y k)/\Q3 x y k=Av (mu x k) (mu y k):=by simp[QY,QZ,Q3,h,g]
def vl(x y:Int):Int:=sq (x*x+y*y)
def Td(x y:Int):Int:=if Av x y then vl x y else 0
theorem Te{x y:Int}(h:Av x y=false):Td x y=0:=by simp[Td,h]
theorem Fw{x y:Int}(h:Av x y=true):Td x y=vl x y:=by simp[Td,h]
theorem Cb{x:Int}(x1:-1000000<=x)(x2:x<=1000000):0<=x*x/\x*x<=1000000000000:=by
 have h:(x*x).natAbs<=1000000*1000000:=by rw[Int.natAbs_mul]; exact Nat.mul_le_mul (by omega) (by omega)
 have p:0<=x*x:=by
  by_cases g:0<=x
  . exact Int.mul_nonneg g g
  . exact Int.mul_nonneg_of_nonpos_of_nonpos (by omega) (by omega)
 omega
theorem Q4{x y:Int}(x1:-1000000<=x)(x2:x<=1000000)(y1:-1000000<=y)(y2:y<=1000000):0<=vl x y/\vl x y<1414214:=by
 have a:=Cb x1 x2;have b:=Cb y1 y2;exact UR (by omega) (by omega)
def dirs:List Int:=[1000,924,707,383,0,-383,-707,-924,-1000,-924,-707,-383,0,383,707,924]
def BJ(d:Int):Int:=if Be d 0 15 then dirs.getD d.toNat 0 else 0
def BK(d:Int):Int:=if Be d 0 15 then dirs.getD ((d.toNat+12) % 16) 0 else 0
theorem Uz{d:Int}(h:Be d 0 15=false):BJ d=0/\BK d=0:=by simp[BJ,BK,h]
theorem F5{a m n:Int}(a1:-1000000<=a)(a2:a<=1000000)(m1:0<=m)(m2:m<=1000000):-1000000000000<=(a*m).tdiv n/\(a*m).tdiv n<=1000000000000:=by
 have h:((a*m).tdiv n).natAbs<=1000000*1000000:=by
  rw[Int.natAbs_tdiv,Int.natAbs_mul];exact Nat.le_trans (Nat.div_le_self _ _) (Nat.mul_le_mul (by omega) (by omega))
 omega
def LQ(x y m:Int):Bool:=Av x y&&Be m 0 1000000
def Kz(x y m:Int):Int:=if LQ x y m then (if vl x y<=m then x else (x*m).tdiv (vl x y)) else 0
def KA(x y m:Int):Int:=if LQ x y m then (if vl x y<=m then y else (y*m).tdiv (vl x y)) else 0
theorem UA{x y m:Int}(h:Av x y=false):Kz x y m=0/\KA x y m=0/\LQ x y m=false:=by simp[Kz,KA,LQ,h]
theorem Q5{x y m:Int}(h:Be m 0 1000000=false):Kz x y m=0/\KA x y m=0/\LQ x y m=false:=by simp[Kz,KA,LQ,h]
theorem ML{x y m:Int}(h:Av x y=true)(g:Be m 0 1000000=true):LQ x y m=true:=by simp[LQ,h,g]
theorem Q6{x y m:Int}(h:Av x y=true)(g:Be m 0 1000000=true)(k:vl x y<=m):Kz x y m=x/\KA x y m=y/\LQ x y m=true:=by simp[Kz,KA,LQ,h,g,k]
theorem MM{x y m:Int}(h:Av x y=true)(g:Be m 0 1000000=true)(k:¬ vl x y<=m):Kz x y m=(x*m).tdiv (vl x y)/\KA x y m=(y*m).tdiv (vl x y)/\LQ x y m=true:=by simp[Kz,KA,LQ,h,g,k]
end M
end Go.Proofs.YtaemcekcancpdabGreatDoor
namespace Go.Proofs.YtaemcekcancpdabGreatDoor
open Go.RowKit
open M
abbrev Bu(x y:Int):Value:=.agg #[.int .i64 x,.int .i64 y]
theorem AA{W w1:World}(hb:Below W.heap.size W w1):(∀ b o,b<W.heap.size->w1.cell? ⟨b,o,none⟩=W.cell? ⟨b,o,none⟩)/\(∀ b o,b<W.heap.size->w1.frozen? ⟨b,o,none⟩=W.frozen? ⟨b,o,none⟩) :=
 ⟨fun b o h=>hb.cell (p:=⟨b,o,none⟩) h,fun b o h=>hb.frozen (p:=⟨b,o,none⟩) h⟩
theorem Aa{w a:World}(h:Below w.heap.size w a)(o:Obj):Below w.heap.size w (a.alloc o):=h.alloc h.size o
theorem Ak{w a:World}(h:Below w.heap.size w a)(b o:Nat)(v:Value)(hp:w.heap.size<=b):Below w.heap.size w (a.setCell ⟨b,o,none⟩ v):=h.setCell (p:=⟨b,o,none⟩) hp v
theorem Ab{w a b:World}(h:Below w.heap.size w a)(k:Below a.heap.size a b):Below w.heap.size w b:=h.trans (k.mono h.size)
theorem Bv{w a:World}(h:Below w.heap.size w a)(n:Nat):Below w.heap.size w (a.drewN n):=h.trans ⟨rfl,rfl,rfl,Nat.le_refl _,fun _ _=>rfl⟩
theorem Ac(w:World):Below w.heap.size w w:=Below.refl _ _
theorem Cc{x y x' y':Int}{c d:Bool}(h1:x=x')(h2:y=y')(g:c=d):Ending.returned (.tuple #[.agg #[.int .i64 x,.int .i64 y],.bool c])=.returned (.tuple #[Bu x' y',.bool d]):=by rw[h1,h2,g]
theorem Q7{x y x' y':Int}(h1:x=x')(h2:y=y'):Ending.returned (.agg #[.int .i64 x,.int .i64 y])=.returned (Bu x' y'):=by rw[h1,h2]
theorem Bl(x y:Int)(w:World):Calls Tryz.prog 59 #[Bu x y] w fun e w'=>e=.returned (.bool (Av x y))/\Below w.heap.size w w':=by
 cases hx:Be x (-1000000) 1000000
 . have E:=hid (NH (y:=y) hx);go_enter Tryz.func59,Tryz.ntmps59;go_wp2_with (go_at_call 44; refine(HT _ _ _ _).mono ?_; rintro e w' ⟨rfl,rfl⟩);go_ret;exact⟨An (by rw[E.out]),Aa (Below.refl _ _) _⟩
 . have E:=hid (LN (y:=y) hx);go_enter Tryz.func59,Tryz.ntmps59;go_wp2_with (go_at_call 44; refine(HT _ _ _ _).mono ?_; rintro e w' ⟨rfl,rfl⟩);go_ret;exact⟨An (by rw[E.out]),Aa (Below.refl _ _) _⟩
end Go.Proofs.YtaemcekcancpdabGreatDoor
namespace Go.Proofs.YtaemcekcancpdabGreatDoor
namespace M
theorem Vf{x y u v:Int}(h1:Av x y=true)(h2:Av u v=true)(h3:Av (x+u) (y+v)=true):Rn x y u v=x+u/\Ro x y u v=y+v/\Rp x y u v=true:=by
 have⟨e1,e2,e3⟩:=MJ h1 h2;have⟨r1,r2⟩:=Hy h3;exact⟨by rw[e1,r1],by rw[e2,r2],by rw[e3,h3]⟩
theorem Tf{x y k p q:Int}(h:Av x y=true)(hk:okB k=true)(hp:mu x k=p)(hq:mu y k=q)(h3:Av p q=true):QY x y k=p/\QZ x y k=q/\Q3 x y k=true:=by
 have⟨e1,e2,e3⟩:=MK h hk;rw[hp,hq] at e1 e2 e3;have⟨r1,r2⟩:=Hy h3;exact⟨by rw[e1,r1],by rw[e2,r2],by rw[e3,h3]⟩
theorem Kw{x y:Int}(h:Av x y=true):∃ s,Td x y=s/\vl x y=s/\(0<=s/\s<1414214)/\(0<=x*x/\x*x<=1000000000000)/\(0<=y*y/\y*y<=1000000000000)/\s*s<=x*x+y*y/\x*x+y*y<(s+1)*(s+1):=by
 obtain⟨⟨x1,x2⟩,y1,y2⟩:=(AY x y).1 h;have a:=Cb x1 x2;have b:=Cb y1 y2;have⟨s1,s2⟩:=FH (n:=x*x+y*y) (by omega);exact⟨vl x y,Fw h,rfl,Q4 x1 x2 y1 y2,a,b,s1,s2⟩
theorem SP:Td 0 0=0/\Av 0 0=true:=by
 have h:Av 0 0=true:=CC (by omega);refine⟨?_,h⟩;rw[Fw h];exact(Gq (n:=0*0+0*0) (r:=0) (by omega) (by omega) (by omega) (by omega)).symm
theorem Kx(z:Int):z*z=(z.natAbs:Int)*(z.natAbs:Int):=by
 by_cases g:0<=z
 . rw[show(z.natAbs:Int)=z from by omega]
 . rw[show(z.natAbs:Int)=-z from by omega,Int.neg_mul_neg]
theorem BP{a b:Int}(h:a.natAbs<=b.natAbs):a*a<=b*b:=by
 rw[Kx a,Kx b];exact Int.mul_le_mul (by omega) (by omega) (by omega) (by omega)
theorem LR{a b:Int}(ha:0<=a)(hb:0<=b)(h:a*a<=b*b):a<=b:=by
 by_cases g:a<=b
 . exact g
 . have:=Int.mul_le_mul (a:=b+1) (b:=b+1) (c:=a) (d:=a) (by omega) (by omega) (by omega) (by omega);have e:(b+1)*(b+1)=b*b+2*b+1:=by rw[Int.add_mul,Int.mul_add]; omega
   omega
theorem Vg(a b:Int):a*a*(b*b)=a*b*(a*b):=by simp only[Int.mul_comm,Int.mul_left_comm]
theorem JF{x m n:Int}(m0:0<=m)(h:m<n):((x*m).tdiv n).natAbs<=x.natAbs/\0<=(x*m).tdiv n*x/\((x*m).tdiv n*n).natAbs<=(x*m).natAbs:=by
 have n1:((x*m).tdiv n*n).natAbs<=(x*m).natAbs:=by
  rw[Int.natAbs_mul,Int.natAbs_tdiv]; exact Nat.div_mul_le_self _ _
 refine⟨?_,?_,n1⟩
 . rw[Int.natAbs_tdiv,Int.natAbs_mul];exact Nat.div_le_of_le_mul (by rw[Nat.mul_comm]; exact Nat.mul_le_mul (by omega) (Nat.le_refl _))
 . by_cases g:0<=x
   . exact Int.mul_nonneg (Int.tdiv_nonneg (Int.mul_nonneg g m0) (by omega)) g
   . have p:0<=(-(x*m)).tdiv n:=Int.tdiv_nonneg (by rw[<- Int.neg_mul]; exact Int.mul_nonneg (by omega) m0) (by omega);rw[Int.neg_tdiv] at p;exact Int.mul_nonneg_of_nonpos_of_nonpos (by omega) (by omega)
theorem Pb{x y X Y m n s:Int}(m0:0<=m)(hmn:m<n)(s0:0<=s)(hs:s*s<=X*X+Y*Y)(hX:(X*n).natAbs<=(x*m).natAbs)(hY:(Y*n).natAbs<=(y*m).natAbs)(hn:x*x+y*y<(n+1)*(n+1)):s<=m:=by
 by_cases g:s<=m
 . exact g
 . have a1:=BP hX;have a2:=BP hY;have e1:X*n*(X*n)+Y*n*(Y*n)=(X*X+Y*Y)*(n*n):=by
    simp only[Int.mul_add,Int.mul_comm,Int.mul_left_comm]
   have e2:x*m*(x*m)+y*m*(y*m)=(x*x+y*y)*(m*m):=by
    simp only[Int.mul_add,Int.mul_comm,Int.mul_left_comm]
   have nn:0<=n*n:=Int.mul_nonneg (by omega) (by omega);have mm:0<=m*m:=Int.mul_nonneg m0 m0;have b1:(m+1)*(m+1)<=X*X+Y*Y:=by
    have:=Int.mul_le_mul (a:=m+1) (b:=m+1) (c:=s) (d:=s) (by omega) (by omega) (by omega) (by omega);omega
   have b2:(m+1)*(m+1)*(n*n)<=(X*X+Y*Y)*(n*n):=Int.mul_le_mul_of_nonneg_right b1 nn;have b3:(x*x+y*y)*(m*m)<=(n+1)*(n+1)*(m*m):=Int.mul_le_mul_of_nonneg_right (by omega) mm;have e3:=Vg (m+1) n;have e4:=Vg (n+1) m;have c:=LR (a:=(m+1)*n) (b:=(n+1)*m) (Int.mul_nonneg (by omega) (by omega)) (Int.mul_nonneg (by omega) m0) (by omega);rw[Int.add_mul,Int.add_mul,Int.mul_comm n m] at c;omega
theorem NJ{x y m:Int}(h:LQ x y m=true):∃ X Y,Kz x y m=X/\KA x y m=Y/\Av x y=true/\Av X Y=true/\Be m 0 1000000=true/\vl X Y<=m/\(vl x y<=m->X=x/\Y=y)/\(0<=X*x/\X*X<=x*x)/\(0<=Y*y/\Y*Y<=y*y):=by
 have h0:=h;unfold LQ at h;simp only[Bool.and_eq_true] at h;obtain⟨h1,h2⟩:=h;have bm:0<=m/\m<=1000000:=by simpa[Be] using h2
 obtain⟨⟨x1,x2⟩,y1,y2⟩:=(AY x y).1 h1;have qx:=Cb x1 x2;have qy:=Cb y1 y2;by_cases c:vl x y<=m
 . have⟨e1,e2,_⟩:=Q6 h1 h2 c;exact⟨x,y,e1,e2,h1,h1,h2,c,fun _=>⟨rfl,rfl⟩,⟨by omega,by omega⟩,by omega,by omega⟩
 . have⟨e1,e2,_⟩:=MM h1 h2 c;obtain⟨s,_,es,⟨s0,s1⟩,_,_,_,s3⟩:=Kw h1;rw[es] at c e1 e2;have⟨a1,a2,a3⟩:=JF (x:=x) (n:=s) bm.1 (by omega);have⟨b1,b2,b3⟩:=JF (x:=y) (n:=s) bm.1 (by omega);have hv:Av ((x*m).tdiv s) ((y*m).tdiv s)=true:=CC (by omega);obtain⟨t,_,et,⟨t0,_⟩,_,_,t2,_⟩:=Kw hv;have hl:=Pb bm.1 (by omega) t0 t2 a3 b3 s3;exact⟨_,_,e1,e2,h1,hv,h2,by rw[et]; exact hl,fun k=>absurd k (by rw[es]; exact c),⟨a2,BP a1⟩,b2,BP b1⟩
theorem NK{d:Int}(h0:0<=d)(h1:d<=15):d=0\/d=1\/d=2\/d=3\/d=4\/d=5\/d=6\/d=7\/d=8\/d=9\/d=10\/d=11\/d=12\/d=13\/d=14\/d=15:=by omega
theorem Q8{d:Int}(h:Be d 0 15=true):0<=d/\d<=15:=by simpa[Be] using h
theorem Q9{d:Int}(h:Be d 0 15=true):(-1000<=BJ d/\BJ d<=1000)/\(-1000<=BK d/\BK d<=1000)/\(998001<=BJ d*BJ d+BK d*BK d/\BJ d*BJ d+BK d*BK d<1004004):=by
 obtain⟨h0,h1⟩:=Q8 h;clear h;rcases NK h0 h1 with rfl | rfl | rfl | rfl | rfl | rfl | rfl | rfl | rfl | rfl | rfl | rfl | rfl | rfl | rfl | rfl<;>decide
theorem Rh{d:Int}(h:Be d 0 15=true):BJ ((d+4) % 16)=-BK d/\BK ((d+4) % 16)=BJ d/\Be ((d+4) % 16) 0 15=true:=by
 obtain⟨h0,h1⟩:=Q8 h;clear h;rcases NK h0 h1 with rfl | rfl | rfl | rfl | rfl | rfl | rfl | rfl | rfl | rfl | rfl | rfl | rfl | rfl | rfl | rfl<;>decide
theorem NL{x y:Int}(h:Av x y=true):∃ s,Td x y=s/\(0<=s/\s<1414214)/\max x (-x)<=s/\max y (-y)<=s/\s<=max x (-x)+max y (-y):=by
 obtain⟨s,e,_,⟨s0,s1⟩,_,_,s2,s3⟩:=Kw h;have ax:x*x=max x (-x)*max x (-x):=by
  rw[Kx x,show(x.natAbs:Int)=max x (-x) from by omega]
 have ay:y*y=max y (-y)*max y (-y):=by
  rw[Kx y,show(y.natAbs:Int)=max y (-y) from by omega]
 rw[ax,ay] at s2 s3;have px:0<=max x (-x):=by omega
 have py:0<=max y (-y):=by omega
 refine⟨s,e,⟨s0,s1⟩,?_⟩;generalize max x (-x)=p at *;generalize max y (-y)=q at *;have pp:=Int.mul_nonneg px px;have qq:=Int.mul_nonneg py py;have pq:=Int.mul_nonneg px py;have a:=CK (a:=p) (b:=s+1) px (by omega) (by omega);have b:=CK (a:=q) (b:=s+1) py (by omega) (by omega);have ex:(p+q)*(p+q)=p*p+q*q+2*(p*q):=by
  simp only[Int.mul_add,Int.mul_comm]; omega
 have c:=LR (a:=s) (b:=p+q) s0 (by omega) (by omega);omega
end M
end Go.Proofs.YtaemcekcancpdabGreatDoor
namespace Go.Proofs.YtaemcekcancpdabGreatDoor
open Go.RowKit
open M
theorem EK(x y k:Int)(w:World)(x1:-1000000<=x)(x2:x<=1000000)(y1:-1000000<=y)(y2:y<=1000000)(k1:-2000000000<=k)(k2:k<=2000000000):Calls Tryz.prog 109 #[Bu x y,.int .i64 k] w fun e w'=>e=.returned (Bu (mu x k) (mu y k))/\Below w.heap.size w w':=by
 go_enter Tryz.func109,Tryz.ntmps109;go_wp2_with fail
 go_region_with ((go_at_call 120; refine(PT _ _ _ (by omega) (by omega) (by omega) (by omega)).mono ?_; rintro e w' ⟨rfl,rfl⟩))
 all_goals
  go_wp2;exact bodyPost_ret (v:=Bu ((x*k).tdiv 1000) ((y*k).tdiv 1000)) (by simp[results,Tryz.results109,go_sem]) rfl ⟨Q7 rfl rfl,by repeat (first | exact Ac _ | refine Aa ?_ _ | refine Ak ?_ _ _ _ (by omega) | refine Bv ?_ _)⟩
theorem JG(x y:Int)(w:World)(x1:-1000000<=x)(x2:x<=1000000)(y1:-1000000<=y)(y2:y<=1000000):Calls Tryz.prog 121 #[Bu x y] w fun e w'=>e=.returned (.int .i64 (vl x y))/\Below w.heap.size w w':=by
 have a:=Cb x1 x2;have b:=Cb y1 y2;go_enter Tryz.func121,Tryz.ntmps121;go_wp2_with fail;refine(PV _ _ (by omega) (by omega)).mono ?_;rintro e w' ⟨rfl,rfl⟩;go_wp2;go_ret;exact⟨AX rfl,Aa (Ac w) _⟩
theorem MO(x y L:Int)(w:World)(hL:vl x y=L)(x1:-1000000<=x)(x2:x<=1000000)(y1:-1000000<=y)(y2:y<=1000000):Calls Tryz.prog 121 #[Bu x y] w fun e w'=>e=.returned (.int .i64 L)/\Below w.heap.size w w':=by
 subst hL;exact JG x y w x1 x2 y1 y2
open Go.RowKit
open M
theorem LS{d:Int}(h0:0<=d)(h1:d<=15):d=0\/d=1\/d=2\/d=3\/d=4\/d=5\/d=6\/d=7\/d=8\/d=9\/d=10\/d=11\/d=12\/d=13\/d=14\/d=15:=by omega
theorem Pd(d:Int)(w:World)(h0:0<=d)(h1:d<=15):Calls Tryz.prog 110 #[.int .i64 d] w fun e w'=>e=.returned (Bu (BJ d) (BK d))/\Below w.heap.size w w':=by
 rcases LS h0 h1 with rfl | rfl | rfl | rfl | rfl | rfl | rfl | rfl | rfl | rfl | rfl | rfl | rfl | rfl | rfl | rfl
 all_goals
  go_enter Tryz.func110,Tryz.ntmps110;go_wp2
  go_region
  all_goals
   go_wp2;exact bodyPost_ret (by simp[results,Tryz.results110,go_sem]; decide) rfl ⟨rfl,by repeat (first | exact Ac _ | refine Aa ?_ _ | refine Ak ?_ _ _ _ (by omega) | refine Bv ?_ _)⟩
theorem LU(x y m:Int)(w:World)(x1:-1000000<=x)(x2:x<=1000000)(y1:-1000000<=y)(y2:y<=1000000)(m1:0<=m)(m2:m<=1000000):Calls Tryz.prog 111 #[Bu x y,.int .i64 m] w fun e w'=>e=.returned (Bu (Kz x y m) (KA x y m))/\Below w.heap.size w w':=by
 have hv:Av x y=true:=CC ⟨⟨x1,x2⟩,y1,y2⟩;have hm:Be m 0 1000000=true:=BO ⟨m1,m2⟩;obtain⟨l1,l2⟩:=Q4 x1 x2 y1 y2;by_cases c:vl x y<=m
 . have E:=hid (Q6 hv hm c);clear hv hm;go_enter Tryz.func111,Tryz.ntmps111;go_wp2_with fail;refine(JG _ _ _ x1 x2 y1 y2).mono ?_;rintro e w1 ⟨rfl,B1⟩;have C1:=B1;clear B1;obtain⟨hc1,hf1⟩:=AA C1;have H1:=hid (Ab (Aa (Aa (Ac w) _) _) C1);go_wp2;exact bodyPost_ret (v:=Bu x y) (by simp[results,Tryz.results111,go_sem,hc1]) rfl ⟨Q7 (by rw[E.out.1]) (by rw[E.out.2.1]),Ak (Ak (H1.out) _ _ _ (by omega)) _ _ _ (by omega)⟩
 . have E:=hid (MM hv hm c);have p1:=Ck (a:=x) (b:=m) (by omega) (by omega) (by omega) (by omega);have p2:=Ck (a:=y) (b:=m) (by omega) (by omega) (by omega) (by omega);have s1:=F5 (n:=vl x y) x1 x2 m1 m2;have s2:=F5 (n:=vl x y) y1 y2 m1 m2;have n0:vl x y≠0:=by omega
   have w1':IntKind.i64.wrap (x*m)=x*m:=IntWalk.i64_in _ (by omega);have w2':IntKind.i64.wrap (y*m)=y*m:=IntWalk.i64_in _ (by omega);have w3':IntKind.i64.wrap ((x*m).tdiv (vl x y))=(x*m).tdiv (vl x y):=IntWalk.i64_in _ (by omega);have w4':IntKind.i64.wrap ((y*m).tdiv (vl x y))=(y*m).tdiv (vl x y):=IntWalk.i64_in _ (by omega);have n1:m<vl x y:=by omega
   clear hv hm c;obtain⟨L,hL⟩:∃ L,vl x y=L:=⟨_,rfl⟩;rw[hL] at E s1 s2 n0 n1 w3' w4' l1 l2;have hL:=hid hL;go_enter Tryz.func111,Tryz.ntmps111;go_wp2_with fail;refine(MO _ _ L _ hL.out x1 x2 y1 y2).mono ?_;rintro e w1 ⟨rfl,B1⟩;obtain⟨hc1,hf1⟩:=AA B1;have H1:=hid (Ab (Aa (Aa (Ac w) _) _) B1);clear B1;go_wp2_with fail
   go_region
   all_goals
    go_wp2;exact bodyPost_ret (v:=Bu ((x*m).tdiv L) ((y*m).tdiv L)) (by simp[results,Tryz.results111,go_sem,hc1]) rfl ⟨Q7 (by rw[E.out.1]) (by rw[E.out.2.1]),by repeat (first | exact H1.out | refine Ak ?_ _ _ _ (by omega) | refine Bv ?_ _)⟩
end Go.Proofs.YtaemcekcancpdabGreatDoor
