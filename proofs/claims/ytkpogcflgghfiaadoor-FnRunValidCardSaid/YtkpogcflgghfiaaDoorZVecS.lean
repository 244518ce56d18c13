import Derived.Test.YtkpogcflgghfiaaDoorZNum
import Derived.Below
import Derived.Deep.RegionWith
import Derived.RegionTactic
import Derived.BigQuiet
import Derived.Deep.QuietTactic
set_option maxRecDepth 100000
set_option maxHeartbeats 8000000
open Go.Lib
namespace Go.Proofs.YtkpogcflgghfiaaDoor
namespace M
def vokB (x y:Int):Bool:=inB x (-1000000) 1000000&&inB y (-1000000) 1000000
theorem vok_no1 {x y:Int} (h:inB x (-1000000) 1000000=false):vokB x y=false:=by simp [vokB,h]
theorem vok_yes1 {x y:Int} (h:inB x (-1000000) 1000000=true):vokB x y=inB y (-1000000) 1000000:=by simp [vokB,h]
theorem vok_iff (x y:Int):vokB x y=true↔(-1000000≤x∧x≤1000000)∧(-1000000≤y∧y≤1000000):=by simp [vokB,inB]
theorem vok_mk {x y:Int} (h:(-1000000≤x∧x≤1000000)∧(-1000000≤y∧y≤1000000)):vokB x y=true:=(vok_iff x y).2 h
theorem vok_false {x y:Int} (h:vokB x y=false):¬ ((-1000000≤x∧x≤1000000)∧(-1000000≤y∧y≤1000000)):=fun g=>by rw [vok_mk g] at h; cases h
theorem vok_no {x y:Int} (h:¬ ((-1000000≤x∧x≤1000000)∧(-1000000≤y∧y≤1000000))):vokB x y=false:=by
 cases e:vokB x y
 · rfl
 · exact absurd ((vok_iff x y).1 e) h
def rngX (x y:Int):Int:=if vokB x y then x else 0
def rngY (x y:Int):Int:=if vokB x y then y else 0
theorem rng_yes {x y:Int} (h:vokB x y=true):rngX x y=x∧rngY x y=y:=by simp [rngX,rngY,h]
theorem rng_no {x y:Int} (h:vokB x y=false):rngX x y=0∧rngY x y=0:=by simp [rngX,rngY,h]
def vaX (x y u v:Int):Int:=if vokB x y&&vokB u v then rngX (x+u) (y+v) else 0
def vaY (x y u v:Int):Int:=if vokB x y&&vokB u v then rngY (x+u) (y+v) else 0
def vaB (x y u v:Int):Bool:=vokB x y&&vokB u v&&vokB (x+u) (y+v)
theorem va_no1 {x y u v:Int} (h:vokB x y=false):vaX x y u v=0∧vaY x y u v=0∧vaB x y u v=false:=by simp [vaX,vaY,vaB,h]
theorem va_no2 {x y u v:Int} (h:vokB u v=false):vaX x y u v=0∧vaY x y u v=0∧vaB x y u v=false:=by simp [vaX,vaY,vaB,h]
theorem va_yes {x y u v:Int} (h:vokB x y=true) (g:vokB u v=true):vaX x y u v=rngX (x+u) (y+v)∧vaY x y u v=rngY (x+u) (y+v)∧vaB x y u v=vokB (x+u) (y+v):=by simp [vaX,vaY,vaB,h,g]
def mu (a b:Int):Int:=(a*b).tdiv 1000
def vsX (x y k:Int):Int:=if vokB x y&&okB k then rngX (mu x k) (mu y k) else 0
def vsY (x y k:Int):Int:=if vokB x y&&okB k then rngY (mu x k) (mu y k) else 0
def vsB (x y k:Int):Bool:=vokB x y&&okB k&&vokB (mu x k) (mu y k)
theorem vs_no1 {x y k:Int} (h:vokB x y=false):vsX x y k=0∧vsY x y k=0∧vsB x y k=false:=by simp [vsX,vsY,vsB,h]
theorem vs_no2 {x y k:Int} (h:okB k=false):vsX x y k=0∧vsY x y k=0∧vsB x y k=false:=by simp [vsX,vsY,vsB,h]
theorem vs_yes {x y k:Int} (h:vokB x y=true) (g:okB k=true):vsX x y k=rngX (mu x k) (mu y k)∧vsY x y k=rngY (mu x k) (mu y k)∧vsB x y k=vokB (mu x k) (mu y k):=by simp [vsX,vsY,vsB,h,g]
theorem mu_bd {a b:Int} (a1:-1000000≤a) (a2:a≤1000000) (b1:-2000000000≤b) (b2:b≤2000000000):-2000000000000≤mu a b∧mu a b≤2000000000000:=by
 have h:(mu a b).natAbs≤1000000*2000000000 / 1000:=by
  unfold mu;rw [Int.natAbs_tdiv,Int.natAbs_mul];exact Nat.div_le_div_right (Nat.mul_le_mul (by omega) (by omega))
 omega
def vdB (x y u v:Int):Bool:=vokB x y&&vokB u v
def vdI (x y u v:Int):Int:=if vdB x y u v then mu x u+mu y v else 0
theorem vd_yes {x y u v:Int} (h:vokB x y=true) (g:vokB u v=true):vdI x y u v=mu x u+mu y v∧vdB x y u v=true:=by simp [vdI,vdB,h,g]
def vl (x y:Int):Int:=sq (x*x+y*y)
def vlI (x y:Int):Int:=if vokB x y then vl x y else 0
theorem vl_no {x y:Int} (h:vokB x y=false):vlI x y=0:=by simp [vlI,h]
theorem vl_yes {x y:Int} (h:vokB x y=true):vlI x y=vl x y:=by simp [vlI,h]
theorem square_bd {x:Int} (x1:-1000000≤x) (x2:x≤1000000):0≤x*x∧x*x≤1000000000000:=by
 have h:(x*x).natAbs≤1000000*1000000:=by rw [Int.natAbs_mul]; exact Nat.mul_le_mul (by omega) (by omega)
 have p:0≤x*x:=by
  by_cases g:0≤x
  · exact Int.mul_nonneg g g
  · exact Int.mul_nonneg_of_nonpos_of_nonpos (by omega) (by omega)
 omega
theorem vl_bd {x y:Int} (x1:-1000000≤x) (x2:x≤1000000) (y1:-1000000≤y) (y2:y≤1000000):0≤vl x y∧vl x y<1414214:=by
 have a:=square_bd x1 x2;have b:=square_bd y1 y2;exact sq_bd (by omega) (by omega)
def dirs:List Int:=[1000,924,707,383,0,-383,-707,-924,-1000,-924,-707,-383,0,383,707,924]
def dirX (d:Int):Int:=if inB d 0 15 then dirs.getD d.toNat 0 else 0
def dirY (d:Int):Int:=if inB d 0 15 then dirs.getD ((d.toNat+12) % 16) 0 else 0
theorem dir_no {d:Int} (h:inB d 0 15=false):dirX d=0∧dirY d=0:=by simp [dirX,dirY,h]
theorem clamp_bd {a m n:Int} (a1:-1000000≤a) (a2:a≤1000000) (m1:0≤m) (m2:m≤1000000):-1000000000000≤(a*m).tdiv n∧(a*m).tdiv n≤1000000000000:=by
 have h:((a*m).tdiv n).natAbs≤1000000*1000000:=by
  rw [Int.natAbs_tdiv,Int.natAbs_mul];exact Nat.le_trans (Nat.div_le_self _ _) (Nat.mul_le_mul (by omega) (by omega))
 omega
def cpB (x y m:Int):Bool:=vokB x y&&inB m 0 1000000
def cpX (x y m:Int):Int:=if cpB x y m then (if vl x y≤m then x else (x*m).tdiv (vl x y)) else 0
def cpY (x y m:Int):Int:=if cpB x y m then (if vl x y≤m then y else (y*m).tdiv (vl x y)) else 0
theorem cp_no1 {x y m:Int} (h:vokB x y=false):cpX x y m=0∧cpY x y m=0∧cpB x y m=false:=by simp [cpX,cpY,cpB,h]
theorem cp_no2 {x y m:Int} (h:inB m 0 1000000=false):cpX x y m=0∧cpY x y m=0∧cpB x y m=false:=by simp [cpX,cpY,cpB,h]
theorem cp_yes {x y m:Int} (h:vokB x y=true) (g:inB m 0 1000000=true):cpB x y m=true:=by simp [cpB,h,g]
theorem cp_in {x y m:Int} (h:vokB x y=true) (g:inB m 0 1000000=true) (k:vl x y≤m):cpX x y m=x∧cpY x y m=y∧cpB x y m=true:=by simp [cpX,cpY,cpB,h,g,k]
theorem cp_out {x y m:Int} (h:vokB x y=true) (g:inB m 0 1000000=true) (k:¬ vl x y≤m):cpX x y m=(x*m).tdiv (vl x y)∧cpY x y m=(y*m).tdiv (vl x y)∧cpB x y m=true:=by simp [cpX,cpY,cpB,h,g,k]
end M
end Go.Proofs.YtkpogcflgghfiaaDoor
namespace Go.Proofs.YtkpogcflgghfiaaDoor
open Go.RowKit
open M
abbrev vec (x y:Int):Value:=.agg #[.int .i64 x,.int .i64 y]
theorem bcell {W w1:World} (hb:Below W.heap.size W w1):(∀ b o,b<W.heap.size→w1.cell? ⟨b,o,none⟩=W.cell? ⟨b,o,none⟩)∧(∀ b o,b<W.heap.size→w1.frozen? ⟨b,o,none⟩=W.frozen? ⟨b,o,none⟩) :=
 ⟨fun b o h=>hb.cell (p:=⟨b,o,none⟩) h,fun b o h=>hb.frozen (p:=⟨b,o,none⟩) h⟩
theorem bl_alloc {w a:World} (h:Below w.heap.size w a) (o:Obj):Below w.heap.size w (a.alloc o):=h.alloc h.size o
theorem bl_set {w a:World} (h:Below w.heap.size w a) (b o:Nat) (v:Value) (hp:w.heap.size≤b):Below w.heap.size w (a.setCell ⟨b,o,none⟩ v):=h.setCell (p:=⟨b,o,none⟩) hp v
theorem bl_trans {w a b:World} (h:Below w.heap.size w a) (k:Below a.heap.size a b):Below w.heap.size w b:=h.trans (k.mono h.size)
theorem bl_drew {w a:World} (h:Below w.heap.size w a) (n:Nat):Below w.heap.size w (a.drewN n):=h.trans ⟨rfl,rfl,rfl,Nat.le_refl _,fun _ _=>rfl⟩
theorem bl_refl (w:World):Below w.heap.size w w:=Below.refl _ _
theorem ret_vb {x y x' y':Int} {c d:Bool} (h1:x=x') (h2:y=y') (g:c=d):Ending.returned (.tuple #[.agg #[.int .i64 x,.int .i64 y],.bool c])=.returned (.tuple #[vec x' y',.bool d]):=by rw [h1,h2,g]
theorem ret_v {x y x' y':Int} (h1:x=x') (h2:y=y'):Ending.returned (.agg #[.int .i64 x,.int .i64 y])=.returned (vec x' y'):=by rw [h1,h2]
theorem specVecOk (x y:Int) (w:World):Calls Tryd.prog 53 #[vec x y] w fun e w'=>e=.returned (.bool (vokB x y))∧Below w.heap.size w w':=by
 cases hx:inB x (-1000000) 1000000
 · have E:=hid (vok_no1 (y:=y) hx);go_enter Tryd.func53,Tryd.ntmps53;go_wp2_with (go_at_call 20; refine (in_any _ _ _ _).mono ?_; rintro e w' ⟨rfl,rfl⟩);go_ret;exact ⟨ret_b (by rw [E.out]),bl_alloc (Below.refl _ _) _⟩
 · have E:=hid (vok_yes1 (y:=y) hx);go_enter Tryd.func53,Tryd.ntmps53;go_wp2_with (go_at_call 20; refine (in_any _ _ _ _).mono ?_; rintro e w' ⟨rfl,rfl⟩);go_ret;exact ⟨ret_b (by rw [E.out]),bl_alloc (Below.refl _ _) _⟩
end Go.Proofs.YtkpogcflgghfiaaDoor
namespace Go.Proofs.YtkpogcflgghfiaaDoor
namespace M
theorem va_mk {x y u v:Int} (h1:vokB x y=true) (h2:vokB u v=true) (h3:vokB (x+u) (y+v)=true):vaX x y u v=x+u∧vaY x y u v=y+v∧vaB x y u v=true:=by
 have ⟨e1,e2,e3⟩:=va_yes h1 h2;have ⟨r1,r2⟩:=rng_yes h3;exact ⟨by rw [e1,r1],by rw [e2,r2],by rw [e3,h3]⟩
theorem vs_mk {x y k p q:Int} (h:vokB x y=true) (hk:okB k=true) (hp:mu x k=p) (hq:mu y k=q) (h3:vokB p q=true):vsX x y k=p∧vsY x y k=q∧vsB x y k=true:=by
 have ⟨e1,e2,e3⟩:=vs_yes h hk;rw [hp,hq] at e1 e2 e3;have ⟨r1,r2⟩:=rng_yes h3;exact ⟨by rw [e1,r1],by rw [e2,r2],by rw [e3,h3]⟩
theorem vl_spec {x y:Int} (h:vokB x y=true):∃ s,vlI x y=s∧vl x y=s∧(0≤s∧s<1414214)∧(0≤x*x∧x*x≤1000000000000)∧(0≤y*y∧y*y≤1000000000000)∧s*s≤x*x+y*y∧x*x+y*y<(s+1)*(s+1):=by
 obtain ⟨⟨x1,x2⟩,y1,y2⟩:=(vok_iff x y).1 h;have a:=square_bd x1 x2;have b:=square_bd y1 y2;have ⟨s1,s2⟩:=sq_spec (n:=x*x+y*y) (by omega);exact ⟨vl x y,vl_yes h,rfl,vl_bd x1 x2 y1 y2,a,b,s1,s2⟩
theorem vl_zero:vlI 0 0=0∧vokB 0 0=true:=by
 have h:vokB 0 0=true:=vok_mk (by omega);refine ⟨?_,h⟩;rw [vl_yes h];exact (sq_unique (n:=0*0+0*0) (r:=0) (by omega) (by omega) (by omega) (by omega)).symm
theorem sq_abs (z:Int):z*z=(z.natAbs:Int)*(z.natAbs:Int):=by
 by_cases g:0≤z
 · rw [show (z.natAbs:Int)=z from by omega]
 · rw [show (z.natAbs:Int)=-z from by omega,Int.neg_mul_neg]
theorem sq_le_of_abs {a b:Int} (h:a.natAbs≤b.natAbs):a*a≤b*b:=by
 rw [sq_abs a,sq_abs b];exact Int.mul_le_mul (by omega) (by omega) (by omega) (by omega)
theorem le_of_sq {a b:Int} (ha:0≤a) (hb:0≤b) (h:a*a≤b*b):a≤b:=by
 by_cases g:a≤b
 · exact g
 · have:=Int.mul_le_mul (a:=b+1) (b:=b+1) (c:=a) (d:=a) (by omega) (by omega) (by omega) (by omega);have e:(b+1)*(b+1)=b*b+2*b+1:=by rw [Int.add_mul,Int.mul_add]; omega
   omega
theorem mul4 (a b:Int):a*a*(b*b)=a*b*(a*b):=by simp only [Int.mul_comm,Int.mul_left_comm]
theorem clamp_one {x m n:Int} (m0:0≤m) (h:m<n):((x*m).tdiv n).natAbs≤x.natAbs∧0≤(x*m).tdiv n*x∧((x*m).tdiv n*n).natAbs≤(x*m).natAbs:=by
 have n1:((x*m).tdiv n*n).natAbs≤(x*m).natAbs:=by
  rw [Int.natAbs_mul,Int.natAbs_tdiv]; exact Nat.div_mul_le_self _ _
 refine ⟨?_,?_,n1⟩
 · rw [Int.natAbs_tdiv,Int.natAbs_mul];exact Nat.div_le_of_le_mul (by rw [Nat.mul_comm]; exact Nat.mul_le_mul (by omega) (Nat.le_refl _))
 · by_cases g:0≤x
   · exact Int.mul_nonneg (Int.tdiv_nonneg (Int.mul_nonneg g m0) (by omega)) g
   · have p:0≤(-(x*m)).tdiv n:=Int.tdiv_nonneg (by rw [← Int.neg_mul]; exact Int.mul_nonneg (by omega) m0) (by omega);rw [Int.neg_tdiv] at p;exact Int.mul_nonneg_of_nonpos_of_nonpos (by omega) (by omega)
theorem clamp_len {x y X Y m n s:Int} (m0:0≤m) (hmn:m<n) (s0:0≤s) (hs:s*s≤X*X+Y*Y) (hX:(X*n).natAbs≤(x*m).natAbs) (hY:(Y*n).natAbs≤(y*m).natAbs) (hn:x*x+y*y<(n+1)*(n+1)):s≤m:=by
 by_cases g:s≤m
 · exact g
 · have a1:=sq_le_of_abs hX;have a2:=sq_le_of_abs hY;have e1:X*n*(X*n)+Y*n*(Y*n)=(X*X+Y*Y)*(n*n):=by
    simp only [Int.mul_add,Int.mul_comm,Int.mul_left_comm]
   have e2:x*m*(x*m)+y*m*(y*m)=(x*x+y*y)*(m*m):=by
    simp only [Int.mul_add,Int.mul_comm,Int.mul_left_comm]
   have nn:0≤n*n:=Int.mul_nonneg (by omega) (by omega);have mm:0≤m*m:=Int.mul_nonneg m0 m0;have b1:(m+1)*(m+1)≤X*X+Y*Y:=by
    have:=Int.mul_le_mul (a:=m+1) (b:=m+1) (c:=s) (d:=s) (by omega) (by omega) (by omega) (by omega);omega
   have b2:(m+1)*(m+1)*(n*n)≤(X*X+Y*Y)*(n*n):=Int.mul_le_mul_of_nonneg_right b1 nn;have b3:(x*x+y*y)*(m*m)≤(n+1)*(n+1)*(m*m):=Int.mul_le_mul_of_nonneg_right (by omega) mm;have e3:=mul4 (m+1) n;have e4:=mul4 (n+1) m;have c:=le_of_sq (a:=(m+1)*n) (b:=(n+1)*m) (Int.mul_nonneg (by omega) (by omega)) (Int.mul_nonneg (by omega) m0) (by omega);rw [Int.add_mul,Int.add_mul,Int.mul_comm n m] at c;omega
theorem cp_true {x y m:Int} (h:cpB x y m=true):∃ X Y,cpX x y m=X∧cpY x y m=Y∧vokB x y=true∧vokB X Y=true∧inB m 0 1000000=true∧vl X Y≤m∧(vl x y≤m→X=x∧Y=y)∧(0≤X*x∧X*X≤x*x)∧(0≤Y*y∧Y*Y≤y*y):=by
 have h0:=h;unfold cpB at h;simp only [Bool.and_eq_true] at h;obtain ⟨h1,h2⟩:=h;have bm:0≤m∧m≤1000000:=by simpa [inB] using h2
 obtain ⟨⟨x1,x2⟩,y1,y2⟩:=(vok_iff x y).1 h1;have qx:=square_bd x1 x2;have qy:=square_bd y1 y2;by_cases c:vl x y≤m
 · have ⟨e1,e2,_⟩:=cp_in h1 h2 c;exact ⟨x,y,e1,e2,h1,h1,h2,c,fun _=>⟨rfl,rfl⟩,⟨by omega,by omega⟩,by omega,by omega⟩
 · have ⟨e1,e2,_⟩:=cp_out h1 h2 c;obtain ⟨s,_,es,⟨s0,s1⟩,_,_,_,s3⟩:=vl_spec h1;rw [es] at c e1 e2;have ⟨a1,a2,a3⟩:=clamp_one (x:=x) (n:=s) bm.1 (by omega);have ⟨b1,b2,b3⟩:=clamp_one (x:=y) (n:=s) bm.1 (by omega);have hv:vokB ((x*m).tdiv s) ((y*m).tdiv s)=true:=vok_mk (by omega);obtain ⟨t,_,et,⟨t0,_⟩,_,_,t2,_⟩:=vl_spec hv;have hl:=clamp_len bm.1 (by omega) t0 t2 a3 b3 s3;exact ⟨_,_,e1,e2,h1,hv,h2,by rw [et]; exact hl,fun k=>absurd k (by rw [es]; exact c),⟨a2,sq_le_of_abs a1⟩,b2,sq_le_of_abs b1⟩
theorem sixteen {d:Int} (h0:0≤d) (h1:d≤15):d=0∨d=1∨d=2∨d=3∨d=4∨d=5∨d=6∨d=7∨d=8∨d=9∨d=10∨d=11∨d=12∨d=13∨d=14∨d=15:=by omega
theorem in_dir {d:Int} (h:inB d 0 15=true):0≤d∧d≤15:=by simpa [inB] using h
theorem dir_size {d:Int} (h:inB d 0 15=true):(-1000≤dirX d∧dirX d≤1000)∧(-1000≤dirY d∧dirY d≤1000)∧(998001≤dirX d*dirX d+dirY d*dirY d∧dirX d*dirX d+dirY d*dirY d<1004004):=by
 obtain ⟨h0,h1⟩:=in_dir h;clear h;rcases sixteen h0 h1 with rfl | rfl | rfl | rfl | rfl | rfl | rfl | rfl | rfl | rfl | rfl | rfl | rfl | rfl | rfl | rfl<;>decide
theorem dir_four {d:Int} (h:inB d 0 15=true):dirX ((d+4) % 16)=-dirY d∧dirY ((d+4) % 16)=dirX d∧inB ((d+4) % 16) 0 15=true:=by
 obtain ⟨h0,h1⟩:=in_dir h;clear h;rcases sixteen h0 h1 with rfl | rfl | rfl | rfl | rfl | rfl | rfl | rfl | rfl | rfl | rfl | rfl | rfl | rfl | rfl | rfl<;>decide
theorem vl_side {x y:Int} (h:vokB x y=true):∃ s,vlI x y=s∧(0≤s∧s<1414214)∧max x (-x)≤s∧max y (-y)≤s∧s≤max x (-x)+max y (-y):=by
 obtain ⟨s,e,_,⟨s0,s1⟩,_,_,s2,s3⟩:=vl_spec h;have ax:x*x=max x (-x)*max x (-x):=by
  rw [sq_abs x,show (x.natAbs:Int)=max x (-x) from by omega]
 have ay:y*y=max y (-y)*max y (-y):=by
  rw [sq_abs y,show (y.natAbs:Int)=max y (-y) from by omega]
 rw [ax,ay] at s2 s3;have px:0≤max x (-x):=by omega
 have py:0≤max y (-y):=by omega
 refine ⟨s,e,⟨s0,s1⟩,?_⟩;generalize max x (-x)=p at *;generalize max y (-y)=q at *;have pp:=Int.mul_nonneg px px;have qq:=Int.mul_nonneg py py;have pq:=Int.mul_nonneg px py;have a:=sq_mono_lt (a:=p) (b:=s+1) px (by omega) (by omega);have b:=sq_mono_lt (a:=q) (b:=s+1) py (by omega) (by omega);have ex:(p+q)*(p+q)=p*p+q*q+2*(p*q):=by
  simp only [Int.mul_add,Int.mul_comm]; omega
 have c:=le_of_sq (a:=s) (b:=p+q) s0 (by omega) (by omega);omega
end M
end Go.Proofs.YtkpogcflgghfiaaDoor
namespace Go.Proofs.YtkpogcflgghfiaaDoor
open Go.RowKit
open M
theorem specVScale0 (x y k:Int) (w:World) (x1:-1000000≤x) (x2:x≤1000000) (y1:-1000000≤y) (y2:y≤1000000) (k1:-2000000000≤k) (k2:k≤2000000000):Calls Tryd.prog 91 #[vec x y,.int .i64 k] w fun e w'=>e=.returned (vec (mu x k) (mu y k))∧Below w.heap.size w w':=by
 go_enter Tryd.func91,Tryd.ntmps91;go_wp2_with fail
 go_region_with ((go_at_call 99; refine (specMul0 _ _ _ (by omega) (by omega) (by omega) (by omega)).mono ?_; rintro e w' ⟨rfl,rfl⟩))
 all_goals
  go_wp2;exact bodyPost_ret (v:=vec ((x*k).tdiv 1000) ((y*k).tdiv 1000)) (by simp [results,Tryd.results91,go_sem]) rfl ⟨ret_v rfl rfl,by repeat (first | exact bl_refl _ | refine bl_alloc ?_ _ | refine bl_set ?_ _ _ _ (by omega) | refine bl_drew ?_ _)⟩
theorem specVLen0 (x y:Int) (w:World) (x1:-1000000≤x) (x2:x≤1000000) (y1:-1000000≤y) (y2:y≤1000000):Calls Tryd.prog 100 #[vec x y] w fun e w'=>e=.returned (.int .i64 (vl x y))∧Below w.heap.size w w':=by
 have a:=square_bd x1 x2;have b:=square_bd y1 y2;go_enter Tryd.func100,Tryd.ntmps100;go_wp2_with fail;refine (specRoot _ _ (by omega) (by omega)).mono ?_;rintro e w' ⟨rfl,rfl⟩;go_wp2;go_ret;exact ⟨ret_int rfl,bl_alloc (bl_refl w) _⟩
theorem specVLen0' (x y L:Int) (w:World) (hL:vl x y=L) (x1:-1000000≤x) (x2:x≤1000000) (y1:-1000000≤y) (y2:y≤1000000):Calls Tryd.prog 100 #[vec x y] w fun e w'=>e=.returned (.int .i64 L)∧Below w.heap.size w w':=by
 subst hL;exact specVLen0 x y w x1 x2 y1 y2
end Go.Proofs.YtkpogcflgghfiaaDoor
namespace Go.Proofs.YtkpogcflgghfiaaDoor
open Go.RowKit
open M
theorem specsixteen {d:Int} (h0:0≤d) (h1:d≤15):d=0∨d=1∨d=2∨d=3∨d=4∨d=5∨d=6∨d=7∨d=8∨d=9∨d=10∨d=11∨d=12∨d=13∨d=14∨d=15:=by omega
theorem specVDir0 (d:Int) (w:World) (h0:0≤d) (h1:d≤15):Calls Tryd.prog 92 #[.int .i64 d] w fun e w'=>e=.returned (vec (dirX d) (dirY d))∧Below w.heap.size w w':=by
 rcases specsixteen h0 h1 with rfl | rfl | rfl | rfl | rfl | rfl | rfl | rfl | rfl | rfl | rfl | rfl | rfl | rfl | rfl | rfl
 all_goals
  go_enter Tryd.func92,Tryd.ntmps92;go_wp2
  go_region
  all_goals
   go_wp2;exact bodyPost_ret (by simp [results,Tryd.results92,go_sem]; decide) rfl ⟨rfl,by repeat (first | exact bl_refl _ | refine bl_alloc ?_ _ | refine bl_set ?_ _ _ _ (by omega) | refine bl_drew ?_ _)⟩
theorem specVClamp0 (x y m:Int) (w:World) (x1:-1000000≤x) (x2:x≤1000000) (y1:-1000000≤y) (y2:y≤1000000) (m1:0≤m) (m2:m≤1000000):Calls Tryd.prog 93 #[vec x y,.int .i64 m] w fun e w'=>e=.returned (vec (cpX x y m) (cpY x y m))∧Below w.heap.size w w':=by
 have hv:vokB x y=true:=vok_mk ⟨⟨x1,x2⟩,y1,y2⟩;have hm:inB m 0 1000000=true:=inB_yes ⟨m1,m2⟩;obtain ⟨l1,l2⟩:=vl_bd x1 x2 y1 y2;by_cases c:vl x y≤m
 · have E:=hid (cp_in hv hm c);clear hv hm;go_enter Tryd.func93,Tryd.ntmps93;go_wp2_with fail;refine (specVLen0 _ _ _ x1 x2 y1 y2).mono ?_;rintro e w1 ⟨rfl,B1⟩;have C1:=B1;clear B1;obtain ⟨hc1,hf1⟩:=bcell C1;have H1:=hid (bl_trans (bl_alloc (bl_alloc (bl_refl w) _) _) C1);go_wp2;exact bodyPost_ret (v:=vec x y) (by simp [results,Tryd.results93,go_sem,hc1]) rfl ⟨ret_v (by rw [E.out.1]) (by rw [E.out.2.1]),bl_set (bl_set (H1.out) _ _ _ (by omega)) _ _ _ (by omega)⟩
 · have E:=hid (cp_out hv hm c);have p1:=mul_bd (a:=x) (b:=m) (by omega) (by omega) (by omega) (by omega);have p2:=mul_bd (a:=y) (b:=m) (by omega) (by omega) (by omega) (by omega);have s1:=clamp_bd (n:=vl x y) x1 x2 m1 m2;have s2:=clamp_bd (n:=vl x y) y1 y2 m1 m2;have n0:vl x y≠0:=by omega
   have w1':IntKind.i64.wrap (x*m)=x*m:=IntWalk.i64_in _ (by omega);have w2':IntKind.i64.wrap (y*m)=y*m:=IntWalk.i64_in _ (by omega);have w3':IntKind.i64.wrap ((x*m).tdiv (vl x y))=(x*m).tdiv (vl x y):=IntWalk.i64_in _ (by omega);have w4':IntKind.i64.wrap ((y*m).tdiv (vl x y))=(y*m).tdiv (vl x y):=IntWalk.i64_in _ (by omega);have n1:m<vl x y:=by omega
   clear hv hm c;obtain ⟨L,hL⟩:∃ L,vl x y=L:=⟨_,rfl⟩;rw [hL] at E s1 s2 n0 n1 w3' w4' l1 l2;have hL:=hid hL;go_enter Tryd.func93,Tryd.ntmps93;go_wp2_with fail;refine (specVLen0' _ _ L _ hL.out x1 x2 y1 y2).mono ?_;rintro e w1 ⟨rfl,B1⟩;obtain ⟨hc1,hf1⟩:=bcell B1;have H1:=hid (bl_trans (bl_alloc (bl_alloc (bl_refl w) _) _) B1);clear B1;go_wp2_with fail
   go_region
   all_goals
    go_wp2;exact bodyPost_ret (v:=vec ((x*m).tdiv L) ((y*m).tdiv L)) (by simp [results,Tryd.results93,go_sem,hc1]) rfl ⟨ret_v (by rw [E.out.1]) (by rw [E.out.2.1]),by repeat (first | exact H1.out | refine bl_set ?_ _ _ _ (by omega) | refine bl_drew ?_ _)⟩
end Go.Proofs.YtkpogcflgghfiaaDoor
