import Derived.Test.YtkpogcflgghfiaaDoorZVecS
set_option maxRecDepth 100000
set_option maxHeartbeats 8000000
open Go.Lib
namespace Go.Proofs.YtkpogcflgghfiaaDoor
namespace M
theorem ite_max (x y:Int):(if x<y then y else x)=max x y:=by split<;>omega
theorem ite_min (x y:Int):(if y<x then y else x)=min x y:=by split<;>omega
def bvB (a b c d:Int):Bool:=vokB a b&&vokB c d&&decide (a≤c)&&decide (b≤d)
theorem bv_no1 {a b c d:Int} (h:vokB a b=false):bvB a b c d=false:=by simp [bvB,h]
theorem bv_no2 {a b c d:Int} (h:vokB c d=false):bvB a b c d=false:=by simp [bvB,h]
theorem bv_no3 {a b c d:Int} (h:¬ a≤c):bvB a b c d=false:=by
 unfold bvB; rw [decide_eq_false h,Bool.and_false,Bool.false_and]
theorem bv_yes {a b c d:Int} (h:vokB a b=true) (g:vokB c d=true) (k:a≤c):bvB a b c d=decide (b≤d):=by simp [bvB,h,g,k]
theorem bv_iff (a b c d:Int):bvB a b c d=true↔((-1000000≤a∧a≤1000000)∧(-1000000≤b∧b≤1000000))∧((-1000000≤c∧c≤1000000)∧(-1000000≤d∧d≤1000000))∧a≤c∧b≤d:=by
 simp only [bvB,Bool.and_eq_true,vok_iff,decide_eq_true_eq];constructor
 · rintro ⟨⟨⟨h1,h2⟩,h3⟩,h4⟩; exact ⟨h1,h2,h3,h4⟩
 · rintro ⟨h1,h2,h3,h4⟩; exact ⟨⟨⟨h1,h2⟩,h3⟩,h4⟩
def h0B (a b c d x y:Int):Bool:=inB x a c&&inB y b d
theorem h0_no {a b c d x y:Int} (h:inB x a c=false):h0B a b c d x y=false:=by simp [h0B,h]
theorem h0_yes {a b c d x y:Int} (h:inB x a c=true):h0B a b c d x y=inB y b d:=by simp [h0B,h]
def bhB (a b c d x y:Int):Bool:=bvB a b c d&&vokB x y&&h0B a b c d x y
theorem bh_no1 {a b c d x y:Int} (h:bvB a b c d=false):bhB a b c d x y=false:=by simp [bhB,h]
theorem bh_no2 {a b c d x y:Int} (h:vokB x y=false):bhB a b c d x y=false:=by simp [bhB,h]
theorem bh_yes {a b c d x y:Int} (h:bvB a b c d=true) (g:vokB x y=true):bhB a b c d x y=h0B a b c d x y:=by simp [bhB,h,g]
def mtB (a b c d p q r s:Int):Bool:=bvB a b c d&&bvB p q r s&&bvB (max a p) (max b q) (min c r) (min d s)
def mtA (a b c d p q r s:Int):Int:=if mtB a b c d p q r s then max a p else 0
def mtE (a b c d p q r s:Int):Int:=if mtB a b c d p q r s then max b q else 0
def mtC (a b c d p q r s:Int):Int:=if mtB a b c d p q r s then min c r else 0
def mtD (a b c d p q r s:Int):Int:=if mtB a b c d p q r s then min d s else 0
theorem mt_yes {a b c d p q r s:Int} (h:mtB a b c d p q r s=true):mtA a b c d p q r s=max a p∧mtE a b c d p q r s=max b q∧mtC a b c d p q r s=min c r∧mtD a b c d p q r s=min d s:=by simp [mtA,mtE,mtC,mtD,h]
def nrB (a b c d x y:Int):Bool:=bvB a b c d&&vokB x y
def nrX (a b c d x y:Int):Int:=if nrB a b c d x y then max a (min x c) else 0
def nrY (a b c d x y:Int):Int:=if nrB a b c d x y then max b (min y d) else 0
theorem nr_no {a b c d x y:Int} (h:nrB a b c d x y=false):nrX a b c d x y=0∧nrY a b c d x y=0:=by simp [nrX,nrY,h]
theorem nr_yes {a b c d x y:Int} (h:nrB a b c d x y=true):nrX a b c d x y=max a (min x c)∧nrY a b c d x y=max b (min y d):=by simp [nrX,nrY,h]
def t0B (a b c d x y r:Int):Bool:=decide ((x-max a (min x c))*(x-max a (min x c))+(y-max b (min y d))*(y-max b (min y d))≤r*r)
theorem gap_bd {a c x:Int} (a1:-1000000≤a) (c2:c≤1000000) (ac:a≤c) (x1:-1000000≤x) (x2:x≤1000000):-2000000≤x-max a (min x c)∧x-max a (min x c)≤2000000:=by omega
end M
end Go.Proofs.YtkpogcflgghfiaaDoor
namespace Go.Proofs.YtkpogcflgghfiaaDoor
open Go.RowKit
open M
abbrev box (a b c d:Int):Value:=.agg #[.int .i64 a,.int .i64 b,.int .i64 c,.int .i64 d]
theorem specBValid (a b c d:Int) (w:World):Calls Tryd.prog 55 #[box a b c d] w fun e w'=>e=.returned (.bool (bvB a b c d))∧Below w.heap.size w w':=by
 cases h:vokB a b
 · have E:=hid (bv_no1 (c:=c) (d:=d) h);go_enter Tryd.func55,Tryd.ntmps55;go_wp2_with fail;refine (specVecOk _ _ _).mono ?_;rintro e w1 ⟨rfl,B1⟩;have C1:=B1;clear B1;obtain ⟨hc1,hf1⟩:=bcell C1;have H1:=hid (bl_trans (bl_alloc (bl_refl w) _) C1);go_wp2;go_ret;exact ⟨ret_b (by rw [E.out]),H1.out⟩
 cases g:vokB c d
 · have E:=hid (bv_no2 (a:=a) (b:=b) g);go_enter Tryd.func55,Tryd.ntmps55;go_wp2_with fail;refine (specVecOk _ _ _).mono ?_;rintro e w1 ⟨rfl,B1⟩;have C1:=B1;clear B1;obtain ⟨hc1,hf1⟩:=bcell C1;have H1:=hid (bl_trans (bl_alloc (bl_refl w) _) C1);go_wp2_with fail;refine (specVecOk _ _ _).mono ?_;rintro e w2 ⟨rfl,B2⟩;have C2:=bl_trans C1 B2;clear hc1 hf1 C1 B2;obtain ⟨hc2,hf2⟩:=bcell C2;have H2:=hid (bl_trans (bl_alloc (bl_refl w) _) C2);go_wp2;go_ret;exact ⟨ret_b (by rw [E.out]),H2.out⟩
 by_cases k:a≤c
 · have E:=hid (bv_yes h g k);go_enter Tryd.func55,Tryd.ntmps55;go_wp2_with fail;refine (specVecOk _ _ _).mono ?_;rintro e w1 ⟨rfl,B1⟩;have C1:=B1;clear B1;obtain ⟨hc1,hf1⟩:=bcell C1;have H1:=hid (bl_trans (bl_alloc (bl_refl w) _) C1);go_wp2_with fail;refine (specVecOk _ _ _).mono ?_;rintro e w2 ⟨rfl,B2⟩;have C2:=bl_trans C1 B2;clear hc1 hf1 C1 B2;obtain ⟨hc2,hf2⟩:=bcell C2;have H2:=hid (bl_trans (bl_alloc (bl_refl w) _) C2);go_wp2;go_ret;exact ⟨ret_b (by rw [E.out]),H2.out⟩
 · have E:=hid (bv_no3 (b:=b) (d:=d) k);have k2:decide (a≤c)=false:=decide_eq_false k;go_enter Tryd.func55,Tryd.ntmps55;go_wp2_with fail;refine (specVecOk _ _ _).mono ?_;rintro e w1 ⟨rfl,B1⟩;have C1:=B1;clear B1;obtain ⟨hc1,hf1⟩:=bcell C1;have H1:=hid (bl_trans (bl_alloc (bl_refl w) _) C1);go_wp2_with fail;refine (specVecOk _ _ _).mono ?_;rintro e w2 ⟨rfl,B2⟩;have C2:=bl_trans C1 B2;clear hc1 hf1 C1 B2;obtain ⟨hc2,hf2⟩:=bcell C2;have H2:=hid (bl_trans (bl_alloc (bl_refl w) _) C2);go_wp2;go_ret;exact ⟨ret_b (by rw [E.out]),H2.out⟩
theorem specBHas0 (a b c d x y:Int) (w:World):Calls Tryd.prog 81 #[box a b c d,vec x y] w fun e w'=>e=.returned (.bool (h0B a b c d x y))∧Below w.heap.size w w':=by
 cases h:inB x a c
 · have E:=hid (h0_no (b:=b) (d:=d) (y:=y) h);go_enter Tryd.func81,Tryd.ntmps81;go_wp2_with (go_at_call 20; refine (in_any _ _ _ _).mono ?_; rintro e w' ⟨rfl,rfl⟩);go_ret;exact ⟨ret_b (by rw [E.out]),bl_alloc (bl_alloc (bl_refl w) _) _⟩
 · have E:=hid (h0_yes (b:=b) (d:=d) (y:=y) h);go_enter Tryd.func81,Tryd.ntmps81;go_wp2_with (go_at_call 20; refine (in_any _ _ _ _).mono ?_; rintro e w' ⟨rfl,rfl⟩);go_ret;exact ⟨ret_b (by rw [E.out]),bl_alloc (bl_alloc (bl_refl w) _) _⟩
theorem specBNear0 (a b c d x y:Int) (w:World):Calls Tryd.prog 90 #[box a b c d,vec x y] w fun e w'=>e=.returned (vec (max a (min x c)) (max b (min y d)))∧Below w.heap.size w w':=by
 have hmx:=ite_max;have hmn:=ite_min;go_enter Tryd.func90,Tryd.ntmps90;go_wp2;exact bodyPost_ret (v:=vec (max a (min x c)) (max b (min y d))) (by simp [results,Tryd.results90,go_sem]) rfl ⟨rfl,by repeat (first | exact bl_refl _ | refine bl_alloc ?_ _ | refine bl_set ?_ _ _ _ (by omega))⟩
theorem specBTouch0 (a b c d x y r:Int) (w:World) (hb:bvB a b c d=true) (hv:vokB x y=true) (r0:0≤r) (r1:r≤1000000):Calls Tryd.prog 76 #[box a b c d,vec x y,.int .i64 r] w fun e w'=>e=.returned (.bool (t0B a b c d x y r))∧Below w.heap.size w w':=by
 obtain ⟨⟨⟨a1,a2⟩,b1,b2⟩,⟨⟨c1,c2⟩,d1,d2⟩,ac,bd⟩:=(bv_iff a b c d).1 hb;obtain ⟨⟨x1,x2⟩,y1,y2⟩:=(vok_iff x y).1 hv;have g1:=gap_bd a1 c2 ac x1 x2;have g2:=gap_bd b1 d2 bd y1 y2;have n1:-1000000≤max a (min x c)∧max a (min x c)≤1000000:=by omega
 have n2:-1000000≤max b (min y d)∧max b (min y d)≤1000000:=by omega
 have E:=hid (show t0B a b c d x y r=decide ((x-max a (min x c))*(x-max a (min x c))+(y-max b (min y d))*(y-max b (min y d))≤r*r) from rfl);have Q:=hid (fun W=>specBNear0 a b c d x y W);clear hb hv;generalize max a (min x c)=X at *;generalize max b (min y d)=Y at *;have m1:=mul_bd (a:=x-X) (b:=x-X) (by omega) (by omega) (by omega) (by omega);have m2:=mul_bd (a:=y-Y) (b:=y-Y) (by omega) (by omega) (by omega) (by omega);have m3:=mul_bd (a:=r) (b:=r) (by omega) (by omega) (by omega) (by omega);go_enter Tryd.func76,Tryd.ntmps76;go_wp2_with fail;refine (Q.out _).mono ?_;rintro e w1 ⟨rfl,B1⟩;obtain ⟨hc1,hf1⟩:=bcell B1
 have l0:w.heap.size<w1.heap.size:=by have:=B1.size; simp at this; omega
 have l1:w.heap.size+1<w1.heap.size:=by have:=B1.size; simp at this; omega
 have H1:=hid (bl_trans (bl_alloc (bl_alloc (bl_refl w) _) _) B1);clear B1 Q;go_wp2;go_ret;exact ⟨ret_b (by rw [E.out]),bl_alloc H1.out _⟩
end Go.Proofs.YtkpogcflgghfiaaDoor
namespace Go.Proofs.YtkpogcflgghfiaaDoor
namespace M
end M
end Go.Proofs.YtkpogcflgghfiaaDoor
