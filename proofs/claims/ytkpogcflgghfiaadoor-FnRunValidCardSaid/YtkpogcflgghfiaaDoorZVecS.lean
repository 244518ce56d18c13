import Derived.Test.YtkpogcflgghfiaaDoorZNum
import Derived.Below
import Derived.Deep.RegionWith
import Derived.RegionTactic
import Derived.BigQuiet
import Derived.Deep.QuietTactic
set_option linter.all false
set_option maxRecDepth 100000
set_option maxHeartbeats 8000000
open Go.Lib
namespace Go.Proofs.YtkpogcflgghfiaaDoor
namespace M
def As (x y:Int):Bool:=A9 x (-1000000) 1000000&&A9 y (-1000000) 1000000
theorem MM {x y:Int} (h:A9 x (-1000000) 1000000=false):As x y=false:=by simp [As,h]
theorem KL {x y:Int} (h:A9 x (-1000000) 1000000=true):As x y=A9 y (-1000000) 1000000:=by simp [As,h]
theorem AV (x y:Int):As x y=true↔(-1000000≤x∧x≤1000000)∧(-1000000≤y∧y≤1000000):=by simp [As,A9]
theorem Cw {x y:Int} (h:(-1000000≤x∧x≤1000000)∧(-1000000≤y∧y≤1000000)):As x y=true:=(AV x y).2 h
theorem NK {x y:Int} (h:As x y=false):¬ ((-1000000≤x∧x≤1000000)∧(-1000000≤y∧y≤1000000)):=fun g=>by rw [Cw g] at h; cases h
theorem SY {x y:Int} (h:¬ ((-1000000≤x∧x≤1000000)∧(-1000000≤y∧y≤1000000))):As x y=false:=by
 cases e:As x y
 · rfl
 · exact absurd ((AV x y).1 e) h
def KM (x y:Int):Int:=if As x y then x else 0
def KN (x y:Int):Int:=if As x y then y else 0
theorem GZ {x y:Int} (h:As x y=true):KM x y=x∧KN x y=y:=by simp [KM,KN,h]
theorem PW {x y:Int} (h:As x y=false):KM x y=0∧KN x y=0:=by simp [KM,KN,h]
def Qd (x y u v:Int):Int:=if As x y&&As u v then KM (x+u) (y+v) else 0
def Qe (x y u v:Int):Int:=if As x y&&As u v then KN (x+u) (y+v) else 0
def Qf (x y u v:Int):Bool:=As x y&&As u v&&As (x+u) (y+v)
theorem SZ {x y u v:Int} (h:As x y=false):Qd x y u v=0∧Qe x y u v=0∧Qf x y u v=false:=by simp [Qd,Qe,Qf,h]
theorem S0 {x y u v:Int} (h:As u v=false):Qd x y u v=0∧Qe x y u v=0∧Qf x y u v=false:=by simp [Qd,Qe,Qf,h]
theorem LP {x y u v:Int} (h:As x y=true) (g:As u v=true):Qd x y u v=KM (x+u) (y+v)∧Qe x y u v=KN (x+u) (y+v)∧Qf x y u v=As (x+u) (y+v):=by simp [Qd,Qe,Qf,h,g]
def mu (a b:Int):Int:=(a*b).tdiv 1000
def PX (x y k:Int):Int:=if As x y&&okB k then KM (mu x k) (mu y k) else 0
def PY (x y k:Int):Int:=if As x y&&okB k then KN (mu x k) (mu y k) else 0
def PZ (x y k:Int):Bool:=As x y&&okB k&&As (mu x k) (mu y k)
theorem S5 {x y k:Int} (h:As x y=false):PX x y k=0∧PY x y k=0∧PZ x y k=false:=by simp [PX,PY,PZ,h]
theorem S9 {x y k:Int} (h:okB k=false):PX x y k=0∧PY x y k=0∧PZ x y k=false:=by simp [PX,PY,PZ,h]
theorem LQ {x y k:Int} (h:As x y=true) (g:okB k=true):PX x y k=KM (mu x k) (mu y k)∧PY x y k=KN (mu x k) (mu y k)∧PZ x y k=As (mu x k) (mu y k):=by simp [PX,PY,PZ,h,g]
theorem UW {a b:Int} (a1:-1000000≤a) (a2:a≤1000000) (b1:-2000000000≤b) (b2:b≤2000000000):-2000000000000≤mu a b∧mu a b≤2000000000000:=by
 have h:(mu a b).natAbs≤1000000*2000000000 / 1000:=by
  unfold mu;rw [Int.natAbs_tdiv,Int.natAbs_mul];exact Nat.div_le_div_right (Nat.mul_le_mul (by omega) (by omega))
 omega
def UK (x y u v:Int):Bool:=As x y&&As u v
def UX (x y u v:Int):Int:=if UK x y u v then mu x u+mu y v else 0
theorem UL {x y u v:Int} (h:As x y=true) (g:As u v=true):UX x y u v=mu x u+mu y v∧UK x y u v=true:=by simp [UX,UK,h,g]
def vl (x y:Int):Int:=sq (x*x+y*y)
def Rw (x y:Int):Int:=if As x y then vl x y else 0
theorem Rx {x y:Int} (h:As x y=false):Rw x y=0:=by simp [Rw,h]
theorem Fh {x y:Int} (h:As x y=true):Rw x y=vl x y:=by simp [Rw,h]
theorem BW {x:Int} (x1:-1000000≤x) (x2:x≤1000000):0≤x*x∧x*x≤1000000000000:=by
 have h:(x*x).natAbs≤1000000*1000000:=by rw [Int.natAbs_mul]; exact Nat.mul_le_mul (by omega) (by omega)
 have p:0≤x*x:=by
  by_cases g:0≤x
  · exact Int.mul_nonneg g g
  · exact Int.mul_nonneg_of_nonpos_of_nonpos (by omega) (by omega)
 omega
theorem P2 {x y:Int} (x1:-1000000≤x) (x2:x≤1000000) (y1:-1000000≤y) (y2:y≤1000000):0≤vl x y∧vl x y<1414214:=by
 have a:=BW x1 x2;have b:=BW y1 y2;exact TG (by omega) (by omega)
def dirs:List Int:=[1000,924,707,383,0,-383,-707,-924,-1000,-924,-707,-383,0,383,707,924]
def BF (d:Int):Int:=if A9 d 0 15 then dirs.getD d.toNat 0 else 0
def BG (d:Int):Int:=if A9 d 0 15 then dirs.getD ((d.toNat+12) % 16) 0 else 0
theorem Ta {d:Int} (h:A9 d 0 15=false):BF d=0∧BG d=0:=by simp [BF,BG,h]
theorem FO {a m n:Int} (a1:-1000000≤a) (a2:a≤1000000) (m1:0≤m) (m2:m≤1000000):-1000000000000≤(a*m).tdiv n∧(a*m).tdiv n≤1000000000000:=by
 have h:((a*m).tdiv n).natAbs≤1000000*1000000:=by
  rw [Int.natAbs_tdiv,Int.natAbs_mul];exact Nat.le_trans (Nat.div_le_self _ _) (Nat.mul_le_mul (by omega) (by omega))
 omega
def KO (x y m:Int):Bool:=As x y&&A9 m 0 1000000
def JI (x y m:Int):Int:=if KO x y m then (if vl x y≤m then x else (x*m).tdiv (vl x y)) else 0
def JJ (x y m:Int):Int:=if KO x y m then (if vl x y≤m then y else (y*m).tdiv (vl x y)) else 0
theorem Tb {x y m:Int} (h:As x y=false):JI x y m=0∧JJ x y m=0∧KO x y m=false:=by simp [JI,JJ,KO,h]
theorem P3 {x y m:Int} (h:A9 m 0 1000000=false):JI x y m=0∧JJ x y m=0∧KO x y m=false:=by simp [JI,JJ,KO,h]
theorem LR {x y m:Int} (h:As x y=true) (g:A9 m 0 1000000=true):KO x y m=true:=by simp [KO,h,g]
theorem P4 {x y m:Int} (h:As x y=true) (g:A9 m 0 1000000=true) (k:vl x y≤m):JI x y m=x∧JJ x y m=y∧KO x y m=true:=by simp [JI,JJ,KO,h,g,k]
theorem LS {x y m:Int} (h:As x y=true) (g:A9 m 0 1000000=true) (k:¬ vl x y≤m):JI x y m=(x*m).tdiv (vl x y)∧JJ x y m=(y*m).tdiv (vl x y)∧KO x y m=true:=by simp [JI,JJ,KO,h,g,k]
end M
end Go.Proofs.YtkpogcflgghfiaaDoor
namespace Go.Proofs.YtkpogcflgghfiaaDoor
open Go.RowKit
open M
abbrev Bl (x y:Int):Value:=.agg #[.int .i64 x,.int .i64 y]
theorem Aw {W w1:World} (hb:Below W.heap.size W w1):(∀ b o,b<W.heap.size→w1.cell? ⟨b,o,none⟩=W.cell? ⟨b,o,none⟩)∧(∀ b o,b<W.heap.size→w1.frozen? ⟨b,o,none⟩=W.frozen? ⟨b,o,none⟩) :=
 ⟨fun b o h=>hb.cell (p:=⟨b,o,none⟩) h,fun b o h=>hb.frozen (p:=⟨b,o,none⟩) h⟩
theorem Aa {w a:World} (h:Below w.heap.size w a) (o:Obj):Below w.heap.size w (a.alloc o):=h.alloc h.size o
theorem Am {w a:World} (h:Below w.heap.size w a) (b o:Nat) (v:Value) (hp:w.heap.size≤b):Below w.heap.size w (a.setCell ⟨b,o,none⟩ v):=h.setCell (p:=⟨b,o,none⟩) hp v
theorem Ab {w a b:World} (h:Below w.heap.size w a) (k:Below a.heap.size a b):Below w.heap.size w b:=h.trans (k.mono h.size)
theorem Bw {w a:World} (h:Below w.heap.size w a) (n:Nat):Below w.heap.size w (a.drewN n):=h.trans ⟨rfl,rfl,rfl,Nat.le_refl _,fun _ _=>rfl⟩
theorem Ac (w:World):Below w.heap.size w w:=Below.refl _ _
theorem BX {x y x' y':Int} {c d:Bool} (h1:x=x') (h2:y=y') (g:c=d):Ending.returned (.tuple #[.agg #[.int .i64 x,.int .i64 y],.bool c])=.returned (.tuple #[Bl x' y',.bool d]):=by rw [h1,h2,g]
theorem P5 {x y x' y':Int} (h1:x=x') (h2:y=y'):Ending.returned (.agg #[.int .i64 x,.int .i64 y])=.returned (Bl x' y'):=by rw [h1,h2]
theorem Bi (x y:Int) (w:World):Calls Tryd.prog 53 #[Bl x y] w fun e w'=>e=.returned (.bool (As x y))∧Below w.heap.size w w':=by
 cases hx:A9 x (-1000000) 1000000
 · have E:=hid (MM (y:=y) hx);go_enter Tryd.func53,Tryd.ntmps53;go_wp2_with (go_at_call 20; refine (F5 _ _ _ _).mono ?_; rintro e w' ⟨rfl,rfl⟩);go_ret;exact ⟨Ao (by rw [E.out]),Aa (Below.refl _ _) _⟩
 · have E:=hid (KL (y:=y) hx);go_enter Tryd.func53,Tryd.ntmps53;go_wp2_with (go_at_call 20; refine (F5 _ _ _ _).mono ?_; rintro e w' ⟨rfl,rfl⟩);go_ret;exact ⟨Ao (by rw [E.out]),Aa (Below.refl _ _) _⟩
end Go.Proofs.YtkpogcflgghfiaaDoor
namespace Go.Proofs.YtkpogcflgghfiaaDoor
namespace M
theorem Uf {x y u v:Int} (h1:As x y=true) (h2:As u v=true) (h3:As (x+u) (y+v)=true):Qd x y u v=x+u∧Qe x y u v=y+v∧Qf x y u v=true:=by
 have ⟨e1,e2,e3⟩:=LP h1 h2;have ⟨r1,r2⟩:=GZ h3;exact ⟨by rw [e1,r1],by rw [e2,r2],by rw [e3,h3]⟩
theorem Ry {x y k p q:Int} (h:As x y=true) (hk:okB k=true) (hp:mu x k=p) (hq:mu y k=q) (h3:As p q=true):PX x y k=p∧PY x y k=q∧PZ x y k=true:=by
 have ⟨e1,e2,e3⟩:=LQ h hk;rw [hp,hq] at e1 e2 e3;have ⟨r1,r2⟩:=GZ h3;exact ⟨by rw [e1,r1],by rw [e2,r2],by rw [e3,h3]⟩
theorem JE {x y:Int} (h:As x y=true):∃ s,Rw x y=s∧vl x y=s∧(0≤s∧s<1414214)∧(0≤x*x∧x*x≤1000000000000)∧(0≤y*y∧y*y≤1000000000000)∧s*s≤x*x+y*y∧x*x+y*y<(s+1)*(s+1):=by
 obtain ⟨⟨x1,x2⟩,y1,y2⟩:=(AV x y).1 h;have a:=BW x1 x2;have b:=BW y1 y2;have ⟨s1,s2⟩:=Ft (n:=x*x+y*y) (by omega);exact ⟨vl x y,Fh h,rfl,P2 x1 x2 y1 y2,a,b,s1,s2⟩
theorem Rk:Rw 0 0=0∧As 0 0=true:=by
 have h:As 0 0=true:=Cw (by omega);refine ⟨?_,h⟩;rw [Fh h];exact (F2 (n:=0*0+0*0) (r:=0) (by omega) (by omega) (by omega) (by omega)).symm
theorem JF (z:Int):z*z=(z.natAbs:Int)*(z.natAbs:Int):=by
 by_cases g:0≤z
 · rw [show (z.natAbs:Int)=z from by omega]
 · rw [show (z.natAbs:Int)=-z from by omega,Int.neg_mul_neg]
theorem BM {a b:Int} (h:a.natAbs≤b.natAbs):a*a≤b*b:=by
 rw [JF a,JF b];exact Int.mul_le_mul (by omega) (by omega) (by omega) (by omega)
theorem KP {a b:Int} (ha:0≤a) (hb:0≤b) (h:a*a≤b*b):a≤b:=by
 by_cases g:a≤b
 · exact g
 · have:=Int.mul_le_mul (a:=b+1) (b:=b+1) (c:=a) (d:=a) (by omega) (by omega) (by omega) (by omega);have e:(b+1)*(b+1)=b*b+2*b+1:=by rw [Int.add_mul,Int.mul_add]; omega
   omega
theorem Ug (a b:Int):a*a*(b*b)=a*b*(a*b):=by simp only [Int.mul_comm,Int.mul_left_comm]
theorem IX {x m n:Int} (m0:0≤m) (h:m<n):((x*m).tdiv n).natAbs≤x.natAbs∧0≤(x*m).tdiv n*x∧((x*m).tdiv n*n).natAbs≤(x*m).natAbs:=by
 have n1:((x*m).tdiv n*n).natAbs≤(x*m).natAbs:=by
  rw [Int.natAbs_mul,Int.natAbs_tdiv]; exact Nat.div_mul_le_self _ _
 refine ⟨?_,?_,n1⟩
 · rw [Int.natAbs_tdiv,Int.natAbs_mul];exact Nat.div_le_of_le_mul (by rw [Nat.mul_comm]; exact Nat.mul_le_mul (by omega) (Nat.le_refl _))
 · by_cases g:0≤x
   · exact Int.mul_nonneg (Int.tdiv_nonneg (Int.mul_nonneg g m0) (by omega)) g
   · have p:0≤(-(x*m)).tdiv n:=Int.tdiv_nonneg (by rw [← Int.neg_mul]; exact Int.mul_nonneg (by omega) m0) (by omega);rw [Int.neg_tdiv] at p;exact Int.mul_nonneg_of_nonpos_of_nonpos (by omega) (by omega)
theorem NL {x y X Y m n s:Int} (m0:0≤m) (hmn:m<n) (s0:0≤s) (hs:s*s≤X*X+Y*Y) (hX:(X*n).natAbs≤(x*m).natAbs) (hY:(Y*n).natAbs≤(y*m).natAbs) (hn:x*x+y*y<(n+1)*(n+1)):s≤m:=by
 by_cases g:s≤m
 · exact g
 · have a1:=BM hX;have a2:=BM hY;have e1:X*n*(X*n)+Y*n*(Y*n)=(X*X+Y*Y)*(n*n):=by
    simp only [Int.mul_add,Int.mul_comm,Int.mul_left_comm]
   have e2:x*m*(x*m)+y*m*(y*m)=(x*x+y*y)*(m*m):=by
    simp only [Int.mul_add,Int.mul_comm,Int.mul_left_comm]
   have nn:0≤n*n:=Int.mul_nonneg (by omega) (by omega);have mm:0≤m*m:=Int.mul_nonneg m0 m0;have b1:(m+1)*(m+1)≤X*X+Y*Y:=by
    have:=Int.mul_le_mul (a:=m+1) (b:=m+1) (c:=s) (d:=s) (by omega) (by omega) (by omega) (by omega);omega
   have b2:(m+1)*(m+1)*(n*n)≤(X*X+Y*Y)*(n*n):=Int.mul_le_mul_of_nonneg_right b1 nn;have b3:(x*x+y*y)*(m*m)≤(n+1)*(n+1)*(m*m):=Int.mul_le_mul_of_nonneg_right (by omega) mm;have e3:=Ug (m+1) n;have e4:=Ug (n+1) m;have c:=KP (a:=(m+1)*n) (b:=(n+1)*m) (Int.mul_nonneg (by omega) (by omega)) (Int.mul_nonneg (by omega) m0) (by omega);rw [Int.add_mul,Int.add_mul,Int.mul_comm n m] at c;omega
theorem MO {x y m:Int} (h:KO x y m=true):∃ X Y,JI x y m=X∧JJ x y m=Y∧As x y=true∧As X Y=true∧A9 m 0 1000000=true∧vl X Y≤m∧(vl x y≤m→X=x∧Y=y)∧(0≤X*x∧X*X≤x*x)∧(0≤Y*y∧Y*Y≤y*y):=by
 have h0:=h;unfold KO at h;simp only [Bool.and_eq_true] at h;obtain ⟨h1,h2⟩:=h;have bm:0≤m∧m≤1000000:=by simpa [A9] using h2
 obtain ⟨⟨x1,x2⟩,y1,y2⟩:=(AV x y).1 h1;have qx:=BW x1 x2;have qy:=BW y1 y2;by_cases c:vl x y≤m
 · have ⟨e1,e2,_⟩:=P4 h1 h2 c;exact ⟨x,y,e1,e2,h1,h1,h2,c,fun _=>⟨rfl,rfl⟩,⟨by omega,by omega⟩,by omega,by omega⟩
 · have ⟨e1,e2,_⟩:=LS h1 h2 c;obtain ⟨s,_,es,⟨s0,s1⟩,_,_,_,s3⟩:=JE h1;rw [es] at c e1 e2;have ⟨a1,a2,a3⟩:=IX (x:=x) (n:=s) bm.1 (by omega);have ⟨b1,b2,b3⟩:=IX (x:=y) (n:=s) bm.1 (by omega);have hv:As ((x*m).tdiv s) ((y*m).tdiv s)=true:=Cw (by omega);obtain ⟨t,_,et,⟨t0,_⟩,_,_,t2,_⟩:=JE hv;have hl:=NL bm.1 (by omega) t0 t2 a3 b3 s3;exact ⟨_,_,e1,e2,h1,hv,h2,by rw [et]; exact hl,fun k=>absurd k (by rw [es]; exact c),⟨a2,BM a1⟩,b2,BM b1⟩
theorem MQ {d:Int} (h0:0≤d) (h1:d≤15):d=0∨d=1∨d=2∨d=3∨d=4∨d=5∨d=6∨d=7∨d=8∨d=9∨d=10∨d=11∨d=12∨d=13∨d=14∨d=15:=by omega
theorem P6 {d:Int} (h:A9 d 0 15=true):0≤d∧d≤15:=by simpa [A9] using h
theorem P7 {d:Int} (h:A9 d 0 15=true):(-1000≤BF d∧BF d≤1000)∧(-1000≤BG d∧BG d≤1000)∧(998001≤BF d*BF d+BG d*BG d∧BF d*BF d+BG d*BG d<1004004):=by
 obtain ⟨h0,h1⟩:=P6 h;clear h;rcases MQ h0 h1 with rfl | rfl | rfl | rfl | rfl | rfl | rfl | rfl | rfl | rfl | rfl | rfl | rfl | rfl | rfl | rfl<;>decide
theorem P8 {d:Int} (h:A9 d 0 15=true):BF ((d+4) % 16)=-BG d∧BG ((d+4) % 16)=BF d∧A9 ((d+4) % 16) 0 15=true:=by
 obtain ⟨h0,h1⟩:=P6 h;clear h;rcases MQ h0 h1 with rfl | rfl | rfl | rfl | rfl | rfl | rfl | rfl | rfl | rfl | rfl | rfl | rfl | rfl | rfl | rfl<;>decide
theorem MR {x y:Int} (h:As x y=true):∃ s,Rw x y=s∧(0≤s∧s<1414214)∧max x (-x)≤s∧max y (-y)≤s∧s≤max x (-x)+max y (-y):=by
 obtain ⟨s,e,_,⟨s0,s1⟩,_,_,s2,s3⟩:=JE h;have ax:x*x=max x (-x)*max x (-x):=by
  rw [JF x,show (x.natAbs:Int)=max x (-x) from by omega]
 have ay:y*y=max y (-y)*max y (-y):=by
  rw [JF y,show (y.natAbs:Int)=max y (-y) from by omega]
 rw [ax,ay] at s2 s3;have px:0≤max x (-x):=by omega
 have py:0≤max y (-y):=by omega
 refine ⟨s,e,⟨s0,s1⟩,?_⟩;generalize max x (-x)=p at *;generalize max y (-y)=q at *;have pp:=Int.mul_nonneg px px;have qq:=Int.mul_nonneg py py;have pq:=Int.mul_nonneg px py;have a:=Cz (a:=p) (b:=s+1) px (by omega) (by omega);have b:=Cz (a:=q) (b:=s+1) py (by omega) (by omega);have ex:(p+q)*(p+q)=p*p+q*q+2*(p*q):=by
  simp only [Int.mul_add,Int.mul_comm]; omega
 have c:=KP (a:=s) (b:=p+q) s0 (by omega) (by omega);omega
end M
end Go.Proofs.YtkpogcflgghfiaaDoor
namespace Go.Proofs.YtkpogcflgghfiaaDoor
open Go.RowKit
open M
theorem Et (x y k:Int) (w:World) (x1:-1000000≤x) (x2:x≤1000000) (y1:-1000000≤y) (y2:y≤1000000) (k1:-2000000000≤k) (k2:k≤2000000000):Calls Tryd.prog 91 #[Bl x y,.int .i64 k] w fun e w'=>e=.returned (Bl (mu x k) (mu y k))∧Below w.heap.size w w':=by
 go_enter Tryd.func91,Tryd.ntmps91;go_wp2_with fail
 go_region_with ((go_at_call 99; refine (OO _ _ _ (by omega) (by omega) (by omega) (by omega)).mono ?_; rintro e w' ⟨rfl,rfl⟩))
 all_goals
  go_wp2;exact bodyPost_ret (v:=Bl ((x*k).tdiv 1000) ((y*k).tdiv 1000)) (by simp [results,Tryd.results91,go_sem]) rfl ⟨P5 rfl rfl,by repeat (first | exact Ac _ | refine Aa ?_ _ | refine Am ?_ _ _ _ (by omega) | refine Bw ?_ _)⟩
theorem IY (x y:Int) (w:World) (x1:-1000000≤x) (x2:x≤1000000) (y1:-1000000≤y) (y2:y≤1000000):Calls Tryd.prog 100 #[Bl x y] w fun e w'=>e=.returned (.int .i64 (vl x y))∧Below w.heap.size w w':=by
 have a:=BW x1 x2;have b:=BW y1 y2;go_enter Tryd.func100,Tryd.ntmps100;go_wp2_with fail;refine (OS _ _ (by omega) (by omega)).mono ?_;rintro e w' ⟨rfl,rfl⟩;go_wp2;go_ret;exact ⟨BD rfl,Aa (Ac w) _⟩
theorem LU (x y L:Int) (w:World) (hL:vl x y=L) (x1:-1000000≤x) (x2:x≤1000000) (y1:-1000000≤y) (y2:y≤1000000):Calls Tryd.prog 100 #[Bl x y] w fun e w'=>e=.returned (.int .i64 L)∧Below w.heap.size w w':=by
 subst hL;exact IY x y w x1 x2 y1 y2
end Go.Proofs.YtkpogcflgghfiaaDoor
namespace Go.Proofs.YtkpogcflgghfiaaDoor
open Go.RowKit
open M
theorem KQ {d:Int} (h0:0≤d) (h1:d≤15):d=0∨d=1∨d=2∨d=3∨d=4∨d=5∨d=6∨d=7∨d=8∨d=9∨d=10∨d=11∨d=12∨d=13∨d=14∨d=15:=by omega
theorem NM (d:Int) (w:World) (h0:0≤d) (h1:d≤15):Calls Tryd.prog 92 #[.int .i64 d] w fun e w'=>e=.returned (Bl (BF d) (BG d))∧Below w.heap.size w w':=by
 rcases KQ h0 h1 with rfl | rfl | rfl | rfl | rfl | rfl | rfl | rfl | rfl | rfl | rfl | rfl | rfl | rfl | rfl | rfl
 all_goals
  go_enter Tryd.func92,Tryd.ntmps92;go_wp2
  go_region
  all_goals
   go_wp2;exact bodyPost_ret (by simp [results,Tryd.results92,go_sem]; decide) rfl ⟨rfl,by repeat (first | exact Ac _ | refine Aa ?_ _ | refine Am ?_ _ _ _ (by omega) | refine Bw ?_ _)⟩
theorem KR (x y m:Int) (w:World) (x1:-1000000≤x) (x2:x≤1000000) (y1:-1000000≤y) (y2:y≤1000000) (m1:0≤m) (m2:m≤1000000):Calls Tryd.prog 93 #[Bl x y,.int .i64 m] w fun e w'=>e=.returned (Bl (JI x y m) (JJ x y m))∧Below w.heap.size w w':=by
 have hv:As x y=true:=Cw ⟨⟨x1,x2⟩,y1,y2⟩;have hm:A9 m 0 1000000=true:=BL ⟨m1,m2⟩;obtain ⟨l1,l2⟩:=P2 x1 x2 y1 y2;by_cases c:vl x y≤m
 · have E:=hid (P4 hv hm c);clear hv hm;go_enter Tryd.func93,Tryd.ntmps93;go_wp2_with fail;refine (IY _ _ _ x1 x2 y1 y2).mono ?_;rintro e w1 ⟨rfl,B1⟩;have C1:=B1;clear B1;obtain ⟨hc1,hf1⟩:=Aw C1;have H1:=hid (Ab (Aa (Aa (Ac w) _) _) C1);go_wp2;exact bodyPost_ret (v:=Bl x y) (by simp [results,Tryd.results93,go_sem,hc1]) rfl ⟨P5 (by rw [E.out.1]) (by rw [E.out.2.1]),Am (Am (H1.out) _ _ _ (by omega)) _ _ _ (by omega)⟩
 · have E:=hid (LS hv hm c);have p1:=Ce (a:=x) (b:=m) (by omega) (by omega) (by omega) (by omega);have p2:=Ce (a:=y) (b:=m) (by omega) (by omega) (by omega) (by omega);have s1:=FO (n:=vl x y) x1 x2 m1 m2;have s2:=FO (n:=vl x y) y1 y2 m1 m2;have n0:vl x y≠0:=by omega
   have w1':IntKind.i64.wrap (x*m)=x*m:=IntWalk.i64_in _ (by omega);have w2':IntKind.i64.wrap (y*m)=y*m:=IntWalk.i64_in _ (by omega);have w3':IntKind.i64.wrap ((x*m).tdiv (vl x y))=(x*m).tdiv (vl x y):=IntWalk.i64_in _ (by omega);have w4':IntKind.i64.wrap ((y*m).tdiv (vl x y))=(y*m).tdiv (vl x y):=IntWalk.i64_in _ (by omega);have n1:m<vl x y:=by omega
   clear hv hm c;obtain ⟨L,hL⟩:∃ L,vl x y=L:=⟨_,rfl⟩;rw [hL] at E s1 s2 n0 n1 w3' w4' l1 l2;have hL:=hid hL;go_enter Tryd.func93,Tryd.ntmps93;go_wp2_with fail;refine (LU _ _ L _ hL.out x1 x2 y1 y2).mono ?_;rintro e w1 ⟨rfl,B1⟩;obtain ⟨hc1,hf1⟩:=Aw B1;have H1:=hid (Ab (Aa (Aa (Ac w) _) _) B1);clear B1;go_wp2_with fail
   go_region
   all_goals
    go_wp2;exact bodyPost_ret (v:=Bl ((x*m).tdiv L) ((y*m).tdiv L)) (by simp [results,Tryd.results93,go_sem,hc1]) rfl ⟨P5 (by rw [E.out.1]) (by rw [E.out.2.1]),by repeat (first | exact H1.out | refine Am ?_ _ _ _ (by omega) | refine Bw ?_ _)⟩
end Go.Proofs.YtkpogcflgghfiaaDoor
