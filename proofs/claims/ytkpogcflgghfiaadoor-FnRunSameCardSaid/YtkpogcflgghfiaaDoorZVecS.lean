import Derived.Test.YtkpogcflgghfiaaDoorZNum
import Derived.Below
import Derived.Deep.RegionWith
import Derived.RegionTactic
import Derived.BigQuiet
import Derived.Deep.QuietTactic
set_option linter.all false
set_option maxRecDepth 100000
set_option maxHeartbeats 8000000
open Go.Lib
namespace Go.Proofs.YtkpogcflgghfiaaDoor
namespace M
def Au (x y:Int):Bool:=Ba x (-1000000) 1000000&&Ba y (-1000000) 1000000
theorem MW {x y:Int} (h:Ba x (-1000000) 1000000=false):Au x y=false:=by simp [Au,h]
theorem KQ {x y:Int} (h:Ba x (-1000000) 1000000=true):Au x y=Ba y (-1000000) 1000000:=by simp [Au,h]
theorem AW (x y:Int):Au x y=true↔(-1000000≤x∧x≤1000000)∧(-1000000≤y∧y≤1000000):=by simp [Au,Ba]
theorem Cz {x y:Int} (h:(-1000000≤x∧x≤1000000)∧(-1000000≤y∧y≤1000000)):Au x y=true:=(AW x y).2 h
theorem NQ {x y:Int} (h:Au x y=false):¬ ((-1000000≤x∧x≤1000000)∧(-1000000≤y∧y≤1000000)):=fun g=>by rw [Cz g] at h; cases h
theorem Ta {x y:Int} (h:¬ ((-1000000≤x∧x≤1000000)∧(-1000000≤y∧y≤1000000))):Au x y=false:=by
 cases e:Au x y
 · rfl
 · exact absurd ((AW x y).1 e) h
def KR (x y:Int):Int:=if Au x y then x else 0
def KS (x y:Int):Int:=if Au x y then y else 0
theorem Hd {x y:Int} (h:Au x y=true):KR x y=x∧KS x y=y:=by simp [KR,KS,h]
theorem P3 {x y:Int} (h:Au x y=false):KR x y=0∧KS x y=0:=by simp [KR,KS,h]
def Qi (x y u v:Int):Int:=if Au x y&&Au u v then KR (x+u) (y+v) else 0
def Qj (x y u v:Int):Int:=if Au x y&&Au u v then KS (x+u) (y+v) else 0
def Qk (x y u v:Int):Bool:=Au x y&&Au u v&&Au (x+u) (y+v)
theorem Tb {x y u v:Int} (h:Au x y=false):Qi x y u v=0∧Qj x y u v=0∧Qk x y u v=false:=by simp [Qi,Qj,Qk,h]
theorem Tc {x y u v:Int} (h:Au u v=false):Qi x y u v=0∧Qj x y u v=0∧Qk x y u v=false:=by simp [Qi,Qj,Qk,h]
theorem LU {x y u v:Int} (h:Au x y=true) (g:Au u v=true):Qi x y u v=KR (x+u) (y+v)∧Qj x y u v=KS (x+u) (y+v)∧Qk x y u v=Au (x+u) (y+v):=by simp [Qi,Qj,Qk,h,g]
def mu (a b:Int):Int:=(a*b).tdiv 1000
def P4 (x y k:Int):Int:=if Au x y&&okB k then KR (mu x k) (mu y k) else 0
def P5 (x y k:Int):Int:=if Au x y&&okB k then KS (mu x k) (mu y k) else 0
def P6 (x y k:Int):Bool:=Au x y&&okB k&&Au (mu x k) (mu y k)
theorem Td {x y k:Int} (h:Au x y=false):P4 x y k=0∧P5 x y k=0∧P6 x y k=false:=by simp [P4,P5,P6,h]
theorem Te {x y k:Int} (h:okB k=false):P4 x y k=0∧P5 x y k=0∧P6 x y k=false:=by simp [P4,P5,P6,h]
theorem LV {x y k:Int} (h:Au x y=true) (g:okB k=true):P4 x y k=KR (mu x k) (mu y k)∧P5 x y k=KS (mu x k) (mu y k)∧P6 x y k=Au (mu x k) (mu y k):=by simp [P4,P5,P6,h,g]
theorem U1 {a b:Int} (a1:-1000000≤a) (a2:a≤1000000) (b1:-2000000000≤b) (b2:b≤2000000000):-2000000000000≤mu a b∧mu a b≤2000000000000:=by
 have h:(mu a b).natAbs≤1000000*2000000000 / 1000:=by
  unfold mu;rw [Int.natAbs_tdiv,Int.natAbs_mul];exact Nat.div_le_div_right (Nat.mul_le_mul (by omega) (by omega))
 omega
def UP (x y u v:Int):Bool:=Au x y&&Au u v
def U2 (x y u v:Int):Int:=if UP x y u v then mu x u+mu y v else 0
theorem UQ {x y u v:Int} (h:Au x y=true) (g:Au u v=true):U2 x y u v=mu x u+mu y v∧UP x y u v=true:=by simp [U2,UP,h,g]
def vl (x y:Int):Int:=sq (x*x+y*y)
def RE (x y:Int):Int:=if Au x y then vl x y else 0
theorem RF {x y:Int} (h:Au x y=false):RE x y=0:=by simp [RE,h]
theorem Fv {x y:Int} (h:Au x y=true):RE x y=vl x y:=by simp [RE,h]
theorem B7 {x:Int} (x1:-1000000≤x) (x2:x≤1000000):0≤x*x∧x*x≤1000000000000:=by
 have h:(x*x).natAbs≤1000000*1000000:=by rw [Int.natAbs_mul]; exact Nat.mul_le_mul (by omega) (by omega)
 have p:0≤x*x:=by
  by_cases g:0≤x
  · exact Int.mul_nonneg g g
  · exact Int.mul_nonneg_of_nonpos_of_nonpos (by omega) (by omega)
 omega
theorem P7 {x y:Int} (x1:-1000000≤x) (x2:x≤1000000) (y1:-1000000≤y) (y2:y≤1000000):0≤vl x y∧vl x y<1414214:=by
 have a:=B7 x1 x2;have b:=B7 y1 y2;exact TL (by omega) (by omega)
def dirs:List Int:=[1000,924,707,383,0,-383,-707,-924,-1000,-924,-707,-383,0,383,707,924]
def BG (d:Int):Int:=if Ba d 0 15 then dirs.getD d.toNat 0 else 0
def BH (d:Int):Int:=if Ba d 0 15 then dirs.getD ((d.toNat+12) % 16) 0 else 0
theorem Tf {d:Int} (h:Ba d 0 15=false):BG d=0∧BH d=0:=by simp [BG,BH,h]
theorem FV {a m n:Int} (a1:-1000000≤a) (a2:a≤1000000) (m1:0≤m) (m2:m≤1000000):-1000000000000≤(a*m).tdiv n∧(a*m).tdiv n≤1000000000000:=by
 have h:((a*m).tdiv n).natAbs≤1000000*1000000:=by
  rw [Int.natAbs_tdiv,Int.natAbs_mul];exact Nat.le_trans (Nat.div_le_self _ _) (Nat.mul_le_mul (by omega) (by omega))
 omega
def KT (x y m:Int):Bool:=Au x y&&Ba m 0 1000000
def JM (x y m:Int):Int:=if KT x y m then (if vl x y≤m then x else (x*m).tdiv (vl x y)) else 0
def JN (x y m:Int):Int:=if KT x y m then (if vl x y≤m then y else (y*m).tdiv (vl x y)) else 0
theorem Tg {x y m:Int} (h:Au x y=false):JM x y m=0∧JN x y m=0∧KT x y m=false:=by simp [JM,JN,KT,h]
theorem P8 {x y m:Int} (h:Ba m 0 1000000=false):JM x y m=0∧JN x y m=0∧KT x y m=false:=by simp [JM,JN,KT,h]
theorem LW {x y m:Int} (h:Au x y=true) (g:Ba m 0 1000000=true):KT x y m=true:=by simp [KT,h,g]
theorem Qa {x y m:Int} (h:Au x y=true) (g:Ba m 0 1000000=true) (k:vl x y≤m):JM x y m=x∧JN x y m=y∧KT x y m=true:=by simp [JM,JN,KT,h,g,k]
theorem LX {x y m:Int} (h:Au x y=true) (g:Ba m 0 1000000=true) (k:¬ vl x y≤m):JM x y m=(x*m).tdiv (vl x y)∧JN x y m=(y*m).tdiv (vl x y)∧KT x y m=true:=by simp [JM,JN,KT,h,g,k]
end M
end Go.Proofs.YtkpogcflgghfiaaDoor
namespace Go.Proofs.YtkpogcflgghfiaaDoor
open Go.RowKit
open M
abbrev Bo (x y:Int):Value:=.agg #[.int .i64 x,.int .i64 y]
theorem Ay {W w1:World} (hb:Below W.heap.size W w1):(∀ b o,b<W.heap.size→w1.cell? ⟨b,o,none⟩=W.cell? ⟨b,o,none⟩)∧(∀ b o,b<W.heap.size→w1.frozen? ⟨b,o,none⟩=W.frozen? ⟨b,o,none⟩) :=
 ⟨fun b o h=>hb.cell (p:=⟨b,o,none⟩) h,fun b o h=>hb.frozen (p:=⟨b,o,none⟩) h⟩
theorem Aa {w a:World} (h:Below w.heap.size w a) (o:Obj):Below w.heap.size w (a.alloc o):=h.alloc h.size o
theorem Am {w a:World} (h:Below w.heap.size w a) (b o:Nat) (v:Value) (hp:w.heap.size≤b):Below w.heap.size w (a.setCell ⟨b,o,none⟩ v):=h.setCell (p:=⟨b,o,none⟩) hp v
theorem Ab {w a b:World} (h:Below w.heap.size w a) (k:Below a.heap.size a b):Below w.heap.size w b:=h.trans (k.mono h.size)
theorem Bw {w a:World} (h:Below w.heap.size w a) (n:Nat):Below w.heap.size w (a.drewN n):=h.trans ⟨rfl,rfl,rfl,Nat.le_refl _,fun _ _=>rfl⟩
theorem Ac (w:World):Below w.heap.size w w:=Below.refl _ _
theorem B8 {x y x' y':Int} {c d:Bool} (h1:x=x') (h2:y=y') (g:c=d):Ending.returned (.tuple #[.agg #[.int .i64 x,.int .i64 y],.bool c])=.returned (.tuple #[Bo x' y',.bool d]):=by rw [h1,h2,g]
theorem Qb {x y x' y':Int} (h1:x=x') (h2:y=y'):Ending.returned (.agg #[.int .i64 x,.int .i64 y])=.returned (Bo x' y'):=by rw [h1,h2]
theorem Bl (x y:Int) (w:World):Calls Tryd.prog 53 #[Bo x y] w fun e w'=>e=.returned (.bool (Au x y))∧Below w.heap.size w w':=by
 cases hx:Ba x (-1000000) 1000000
 · have E:=hid (MW (y:=y) hx);go_enter Tryd.func53,Tryd.ntmps53;go_wp2_with (go_at_call 20; refine (Gc _ _ _ _).mono ?_; rintro e w' ⟨rfl,rfl⟩);go_ret;exact ⟨Ao (by rw [E.out]),Aa (Below.refl _ _) _⟩
 · have E:=hid (KQ (y:=y) hx);go_enter Tryd.func53,Tryd.ntmps53;go_wp2_with (go_at_call 20; refine (Gc _ _ _ _).mono ?_; rintro e w' ⟨rfl,rfl⟩);go_ret;exact ⟨Ao (by rw [E.out]),Aa (Below.refl _ _) _⟩
end Go.Proofs.YtkpogcflgghfiaaDoor
namespace Go.Proofs.YtkpogcflgghfiaaDoor
namespace M
theorem Uk {x y u v:Int} (h1:Au x y=true) (h2:Au u v=true) (h3:Au (x+u) (y+v)=true):Qi x y u v=x+u∧Qj x y u v=y+v∧Qk x y u v=true:=by
 have ⟨e1,e2,e3⟩:=LU h1 h2;have ⟨r1,r2⟩:=Hd h3;exact ⟨by rw [e1,r1],by rw [e2,r2],by rw [e3,h3]⟩
theorem RG {x y k p q:Int} (h:Au x y=true) (hk:okB k=true) (hp:mu x k=p) (hq:mu y k=q) (h3:Au p q=true):P4 x y k=p∧P5 x y k=q∧P6 x y k=true:=by
 have ⟨e1,e2,e3⟩:=LV h hk;rw [hp,hq] at e1 e2 e3;have ⟨r1,r2⟩:=Hd h3;exact ⟨by rw [e1,r1],by rw [e2,r2],by rw [e3,h3]⟩
theorem JI {x y:Int} (h:Au x y=true):∃ s,RE x y=s∧vl x y=s∧(0≤s∧s<1414214)∧(0≤x*x∧x*x≤1000000000000)∧(0≤y*y∧y*y≤1000000000000)∧s*s≤x*x+y*y∧x*x+y*y<(s+1)*(s+1):=by
 obtain ⟨⟨x1,x2⟩,y1,y2⟩:=(AW x y).1 h;have a:=B7 x1 x2;have b:=B7 y1 y2;have ⟨s1,s2⟩:=FB (n:=x*x+y*y) (by omega);exact ⟨vl x y,Fv h,rfl,P7 x1 x2 y1 y2,a,b,s1,s2⟩
theorem Rr:RE 0 0=0∧Au 0 0=true:=by
 have h:Au 0 0=true:=Cz (by omega);refine ⟨?_,h⟩;rw [Fv h];exact (Ga (n:=0*0+0*0) (r:=0) (by omega) (by omega) (by omega) (by omega)).symm
theorem JJ (z:Int):z*z=(z.natAbs:Int)*(z.natAbs:Int):=by
 by_cases g:0≤z
 · rw [show (z.natAbs:Int)=z from by omega]
 · rw [show (z.natAbs:Int)=-z from by omega,Int.neg_mul_neg]
theorem BO {a b:Int} (h:a.natAbs≤b.natAbs):a*a≤b*b:=by
 rw [JJ a,JJ b];exact Int.mul_le_mul (by omega) (by omega) (by omega) (by omega)
theorem KU {a b:Int} (ha:0≤a) (hb:0≤b) (h:a*a≤b*b):a≤b:=by
 by_cases g:a≤b
 · exact g
 · have:=Int.mul_le_mul (a:=b+1) (b:=b+1) (c:=a) (d:=a) (by omega) (by omega) (by omega) (by omega);have e:(b+1)*(b+1)=b*b+2*b+1:=by rw [Int.add_mul,Int.mul_add]; omega
   omega
theorem Um (a b:Int):a*a*(b*b)=a*b*(a*b):=by simp only [Int.mul_comm,Int.mul_left_comm]
theorem I6 {x m n:Int} (m0:0≤m) (h:m<n):((x*m).tdiv n).natAbs≤x.natAbs∧0≤(x*m).tdiv n*x∧((x*m).tdiv n*n).natAbs≤(x*m).natAbs:=by
 have n1:((x*m).tdiv n*n).natAbs≤(x*m).natAbs:=by
  rw [Int.natAbs_mul,Int.natAbs_tdiv]; exact Nat.div_mul_le_self _ _
 refine ⟨?_,?_,n1⟩
 · rw [Int.natAbs_tdiv,Int.natAbs_mul];exact Nat.div_le_of_le_mul (by rw [Nat.mul_comm]; exact Nat.mul_le_mul (by omega) (Nat.le_refl _))
 · by_cases g:0≤x
   · exact Int.mul_nonneg (Int.tdiv_nonneg (Int.mul_nonneg g m0) (by omega)) g
   · have p:0≤(-(x*m)).tdiv n:=Int.tdiv_nonneg (by rw [← Int.neg_mul]; exact Int.mul_nonneg (by omega) m0) (by omega);rw [Int.neg_tdiv] at p;exact Int.mul_nonneg_of_nonpos_of_nonpos (by omega) (by omega)
theorem NR {x y X Y m n s:Int} (m0:0≤m) (hmn:m<n) (s0:0≤s) (hs:s*s≤X*X+Y*Y) (hX:(X*n).natAbs≤(x*m).natAbs) (hY:(Y*n).natAbs≤(y*m).natAbs) (hn:x*x+y*y<(n+1)*(n+1)):s≤m:=by
 by_cases g:s≤m
 · exact g
 · have a1:=BO hX;have a2:=BO hY;have e1:X*n*(X*n)+Y*n*(Y*n)=(X*X+Y*Y)*(n*n):=by
    simp only [Int.mul_add,Int.mul_comm,Int.mul_left_comm]
   have e2:x*m*(x*m)+y*m*(y*m)=(x*x+y*y)*(m*m):=by
    simp only [Int.mul_add,Int.mul_comm,Int.mul_left_comm]
   have nn:0≤n*n:=Int.mul_nonneg (by omega) (by omega);have mm:0≤m*m:=Int.mul_nonneg m0 m0;have b1:(m+1)*(m+1)≤X*X+Y*Y:=by
    have:=Int.mul_le_mul (a:=m+1) (b:=m+1) (c:=s) (d:=s) (by omega) (by omega) (by omega) (by omega);omega
   have b2:(m+1)*(m+1)*(n*n)≤(X*X+Y*Y)*(n*n):=Int.mul_le_mul_of_nonneg_right b1 nn;have b3:(x*x+y*y)*(m*m)≤(n+1)*(n+1)*(m*m):=Int.mul_le_mul_of_nonneg_right (by omega) mm;have e3:=Um (m+1) n;have e4:=Um (n+1) m;have c:=KU (a:=(m+1)*n) (b:=(n+1)*m) (Int.mul_nonneg (by omega) (by omega)) (Int.mul_nonneg (by omega) m0) (by omega);rw [Int.add_mul,Int.add_mul,Int.mul_comm n m] at c;omega
theorem MX {x y m:Int} (h:KT x y m=true):∃ X Y,JM x y m=X∧JN x y m=Y∧Au x y=true∧Au X Y=true∧Ba m 0 1000000=true∧vl X Y≤m∧(vl x y≤m→X=x∧Y=y)∧(0≤X*x∧X*X≤x*x)∧(0≤Y*y∧Y*Y≤y*y):=by
 have h0:=h;unfold KT at h;simp only [Bool.and_eq_true] at h;obtain ⟨h1,h2⟩:=h;have bm:0≤m∧m≤1000000:=by simpa [Ba] using h2
 obtain ⟨⟨x1,x2⟩,y1,y2⟩:=(AW x y).1 h1;have qx:=B7 x1 x2;have qy:=B7 y1 y2;by_cases c:vl x y≤m
 · have ⟨e1,e2,_⟩:=Qa h1 h2 c;exact ⟨x,y,e1,e2,h1,h1,h2,c,fun _=>⟨rfl,rfl⟩,⟨by omega,by omega⟩,by omega,by omega⟩
 · have ⟨e1,e2,_⟩:=LX h1 h2 c;obtain ⟨s,_,es,⟨s0,s1⟩,_,_,_,s3⟩:=JI h1;rw [es] at c e1 e2;have ⟨a1,a2,a3⟩:=I6 (x:=x) (n:=s) bm.1 (by omega);have ⟨b1,b2,b3⟩:=I6 (x:=y) (n:=s) bm.1 (by omega);have hv:Au ((x*m).tdiv s) ((y*m).tdiv s)=true:=Cz (by omega);obtain ⟨t,_,et,⟨t0,_⟩,_,_,t2,_⟩:=JI hv;have hl:=NR bm.1 (by omega) t0 t2 a3 b3 s3;exact ⟨_,_,e1,e2,h1,hv,h2,by rw [et]; exact hl,fun k=>absurd k (by rw [es]; exact c),⟨a2,BO a1⟩,b2,BO b1⟩
theorem MY {d:Int} (h0:0≤d) (h1:d≤15):d=0∨d=1∨d=2∨d=3∨d=4∨d=5∨d=6∨d=7∨d=8∨d=9∨d=10∨d=11∨d=12∨d=13∨d=14∨d=15:=by omega
theorem Qc {d:Int} (h:Ba d 0 15=true):0≤d∧d≤15:=by simpa [Ba] using h
theorem Qd {d:Int} (h:Ba d 0 15=true):(-1000≤BG d∧BG d≤1000)∧(-1000≤BH d∧BH d≤1000)∧(998001≤BG d*BG d+BH d*BH d∧BG d*BG d+BH d*BH d<1004004):=by
 obtain ⟨h0,h1⟩:=Qc h;clear h;rcases MY h0 h1 with rfl | rfl | rfl | rfl | rfl | rfl | rfl | rfl | rfl | rfl | rfl | rfl | rfl | rfl | rfl | rfl<;>decide
theorem Qe {d:Int} (h:Ba d 0 15=true):BG ((d+4) % 16)=-BH d∧BH ((d+4) % 16)=BG d∧Ba ((d+4) % 16) 0 15=true:=by
 obtain ⟨h0,h1⟩:=Qc h;clear h;rcases MY h0 h1 with rfl | rfl | rfl | rfl | rfl | rfl | rfl | rfl | rfl | rfl | rfl | rfl | rfl | rfl | rfl | rfl<;>decide
theorem MZ {x y:Int} (h:Au x y=true):∃ s,RE x y=s∧(0≤s∧s<1414214)∧max x (-x)≤s∧max y (-y)≤s∧s≤max x (-x)+max y (-y):=by
 obtain ⟨s,e,_,⟨s0,s1⟩,_,_,s2,s3⟩:=JI h;have ax:x*x=max x (-x)*max x (-x):=by
  rw [JJ x,show (x.natAbs:Int)=max x (-x) from by omega]
 have ay:y*y=max y (-y)*max y (-y):=by
  rw [JJ y,show (y.natAbs:Int)=max y (-y) from by omega]
 rw [ax,ay] at s2 s3;have px:0≤max x (-x):=by omega
 have py:0≤max y (-y):=by omega
 refine ⟨s,e,⟨s0,s1⟩,?_⟩;generalize max x (-x)=p at *;generalize max y (-y)=q at *;have pp:=Int.mul_nonneg px px;have qq:=Int.mul_nonneg py py;have pq:=Int.mul_nonneg px py;have a:=CH (a:=p) (b:=s+1) px (by omega) (by omega);have b:=CH (a:=q) (b:=s+1) py (by omega) (by omega);have ex:(p+q)*(p+q)=p*p+q*q+2*(p*q):=by
  simp only [Int.mul_add,Int.mul_comm]; omega
 have c:=KU (a:=s) (b:=p+q) s0 (by omega) (by omega);omega
end M
end Go.Proofs.YtkpogcflgghfiaaDoor
namespace Go.Proofs.YtkpogcflgghfiaaDoor
open Go.RowKit
open M
theorem EA (x y k:Int) (w:World) (x1:-1000000≤x) (x2:x≤1000000) (y1:-1000000≤y) (y2:y≤1000000) (k1:-2000000000≤k) (k2:k≤2000000000):Calls Tryd.prog 91 #[Bo x y,.int .i64 k] w fun e w'=>e=.returned (Bo (mu x k) (mu y k))∧Below w.heap.size w w':=by
 go_enter Tryd.func91,Tryd.ntmps91;go_wp2_with fail
 go_region_with ((go_at_call 99; refine (OU _ _ _ (by omega) (by omega) (by omega) (by omega)).mono ?_; rintro e w' ⟨rfl,rfl⟩))
 all_goals
  go_wp2;exact bodyPost_ret (v:=Bo ((x*k).tdiv 1000) ((y*k).tdiv 1000)) (by simp [results,Tryd.results91,go_sem]) rfl ⟨Qb rfl rfl,by repeat (first | exact Ac _ | refine Aa ?_ _ | refine Am ?_ _ _ _ (by omega) | refine Bw ?_ _)⟩
theorem I7 (x y:Int) (w:World) (x1:-1000000≤x) (x2:x≤1000000) (y1:-1000000≤y) (y2:y≤1000000):Calls Tryd.prog 100 #[Bo x y] w fun e w'=>e=.returned (.int .i64 (vl x y))∧Below w.heap.size w w':=by
 have a:=B7 x1 x2;have b:=B7 y1 y2;go_enter Tryd.func100,Tryd.ntmps100;go_wp2_with fail;refine (OX _ _ (by omega) (by omega)).mono ?_;rintro e w' ⟨rfl,rfl⟩;go_wp2;go_ret;exact ⟨BE rfl,Aa (Ac w) _⟩
theorem LY (x y L:Int) (w:World) (hL:vl x y=L) (x1:-1000000≤x) (x2:x≤1000000) (y1:-1000000≤y) (y2:y≤1000000):Calls Tryd.prog 100 #[Bo x y] w fun e w'=>e=.returned (.int .i64 L)∧Below w.heap.size w w':=by
 subst hL;exact I7 x y w x1 x2 y1 y2
end Go.Proofs.YtkpogcflgghfiaaDoor
namespace Go.Proofs.YtkpogcflgghfiaaDoor
open Go.RowKit
open M
theorem KV {d:Int} (h0:0≤d) (h1:d≤15):d=0∨d=1∨d=2∨d=3∨d=4∨d=5∨d=6∨d=7∨d=8∨d=9∨d=10∨d=11∨d=12∨d=13∨d=14∨d=15:=by omega
theorem NS (d:Int) (w:World) (h0:0≤d) (h1:d≤15):Calls Tryd.prog 92 #[.int .i64 d] w fun e w'=>e=.returned (Bo (BG d) (BH d))∧Below w.heap.size w w':=by
 rcases KV h0 h1 with rfl | rfl | rfl | rfl | rfl | rfl | rfl | rfl | rfl | rfl | rfl | rfl | rfl | rfl | rfl | rfl
 all_goals
  go_enter Tryd.func92,Tryd.ntmps92;go_wp2
  go_region
  all_goals
   go_wp2;exact bodyPost_ret (by simp [results,Tryd.results92,go_sem]; decide) rfl ⟨rfl,by repeat (first | exact Ac _ | refine Aa ?_ _ | refine Am ?_ _ _ _ (by omega) | refine Bw ?_ _)⟩
theorem KW (x y m:Int) (w:World) (x1:-1000000≤x) (x2:x≤1000000) (y1:-1000000≤y) (y2:y≤1000000) (m1:0≤m) (m2:m≤1000000):Calls Tryd.prog 93 #[Bo x y,.int .i64 m] w fun e w'=>e=.returned (Bo (JM x y m) (JN x y m))∧Below w.heap.size w w':=by
 have hv:Au x y=true:=Cz ⟨⟨x1,x2⟩,y1,y2⟩;have hm:Ba m 0 1000000=true:=BN ⟨m1,m2⟩;obtain ⟨l1,l2⟩:=P7 x1 x2 y1 y2;by_cases c:vl x y≤m
 · have E:=hid (Qa hv hm c);clear hv hm;go_enter Tryd.func93,Tryd.ntmps93;go_wp2_with fail;refine (I7 _ _ _ x1 x2 y1 y2).mono ?_;rintro e w1 ⟨rfl,B1⟩;have C1:=B1;clear B1;obtain ⟨hc1,hf1⟩:=Ay C1;have H1:=hid (Ab (Aa (Aa (Ac w) _) _) C1);go_wp2;exact bodyPost_ret (v:=Bo x y) (by simp [results,Tryd.results93,go_sem,hc1]) rfl ⟨Qb (by rw [E.out.1]) (by rw [E.out.2.1]),Am (Am (H1.out) _ _ _ (by omega)) _ _ _ (by omega)⟩
 · have E:=hid (LX hv hm c);have p1:=Ci (a:=x) (b:=m) (by omega) (by omega) (by omega) (by omega);have p2:=Ci (a:=y) (b:=m) (by omega) (by omega) (by omega) (by omega);have s1:=FV (n:=vl x y) x1 x2 m1 m2;have s2:=FV (n:=vl x y) y1 y2 m1 m2;have n0:vl x y≠0:=by omega
   have w1':IntKind.i64.wrap (x*m)=x*m:=IntWalk.i64_in _ (by omega);have w2':IntKind.i64.wrap (y*m)=y*m:=IntWalk.i64_in _ (by omega);have w3':IntKind.i64.wrap ((x*m).tdiv (vl x y))=(x*m).tdiv (vl x y):=IntWalk.i64_in _ (by omega);have w4':IntKind.i64.wrap ((y*m).tdiv (vl x y))=(y*m).tdiv (vl x y):=IntWalk.i64_in _ (by omega);have n1:m<vl x y:=by omega
   clear hv hm c;obtain ⟨L,hL⟩:∃ L,vl x y=L:=⟨_,rfl⟩;rw [hL] at E s1 s2 n0 n1 w3' w4' l1 l2;have hL:=hid hL;go_enter Tryd.func93,Tryd.ntmps93;go_wp2_with fail;refine (LY _ _ L _ hL.out x1 x2 y1 y2).mono ?_;rintro e w1 ⟨rfl,B1⟩;obtain ⟨hc1,hf1⟩:=Ay B1;have H1:=hid (Ab (Aa (Aa (Ac w) _) _) B1);clear B1;go_wp2_with fail
   go_region
   all_goals
    go_wp2;exact bodyPost_ret (v:=Bo ((x*m).tdiv L) ((y*m).tdiv L)) (by simp [results,Tryd.results93,go_sem,hc1]) rfl ⟨Qb (by rw [E.out.1]) (by rw [E.out.2.1]),by repeat (first | exact H1.out | refine Am ?_ _ _ _ (by omega) | refine Bw ?_ _)⟩
end Go.Proofs.YtkpogcflgghfiaaDoor
