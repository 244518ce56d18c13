import Derived.Test.YtkpogcflgghfiaaDoorZVecS
set_option linter.all false
set_option maxRecDepth 100000
set_option maxHeartbeats 8000000
open Go.Lib
namespace Go.Proofs.YtkpogcflgghfiaaDoor
namespace M
theorem LZ (x y:Int):(if x<y then y else x)=max x y:=by split<;>omega
theorem L2 (x y:Int):(if y<x then y else x)=min x y:=by split<;>omega
def CS (a b c d:Int):Bool:=Au a b&&Au c d&&decide (a≤c)&&decide (b≤d)
theorem NU {a b c d:Int} (h:Au a b=false):CS a b c d=false:=by simp [CS,h]
theorem NV {a b c d:Int} (h:Au c d=false):CS a b c d=false:=by simp [CS,h]
theorem RP {a b c d:Int} (h:¬ a≤c):CS a b c d=false:=by
 unfold CS; rw [decide_eq_false h,Bool.and_false,Bool.false_and]
theorem RQ {a b c d:Int} (h:Au a b=true) (g:Au c d=true) (k:a≤c):CS a b c d=decide (b≤d):=by simp [CS,h,g,k]
theorem Ek (a b c d:Int):CS a b c d=true↔((-1000000≤a∧a≤1000000)∧(-1000000≤b∧b≤1000000))∧((-1000000≤c∧c≤1000000)∧(-1000000≤d∧d≤1000000))∧a≤c∧b≤d:=by
 simp only [CS,Bool.and_eq_true,AW,decide_eq_true_eq];constructor
 · rintro ⟨⟨⟨h1,h2⟩,h3⟩,h4⟩; exact ⟨h1,h2,h3,h4⟩
 · rintro ⟨h1,h2,h3,h4⟩; exact ⟨⟨⟨h1,h2⟩,h3⟩,h4⟩
def Dm (a b c d x y:Int):Bool:=Ba x a c&&Ba y b d
theorem Tr {a b c d x y:Int} (h:Ba x a c=false):Dm a b c d x y=false:=by simp [Dm,h]
theorem RS {a b c d x y:Int} (h:Ba x a c=true):Dm a b c d x y=Ba y b d:=by simp [Dm,h]
def NX (a b c d x y:Int):Bool:=CS a b c d&&Au x y&&Dm a b c d x y
theorem RU {a b c d x y:Int} (h:CS a b c d=false):NX a b c d x y=false:=by simp [NX,h]
theorem RV {a b c d x y:Int} (h:Au x y=false):NX a b c d x y=false:=by simp [NX,h]
theorem He {a b c d x y:Int} (h:CS a b c d=true) (g:Au x y=true):NX a b c d x y=Dm a b c d x y:=by simp [NX,h,g]
def Ts (a b c d p q r s:Int):Bool:=CS a b c d&&CS p q r s&&CS (max a p) (max b q) (min c r) (min d s)
def UR (a b c d p q r s:Int):Int:=if Ts a b c d p q r s then max a p else 0
def US (a b c d p q r s:Int):Int:=if Ts a b c d p q r s then max b q else 0
def UT (a b c d p q r s:Int):Int:=if Ts a b c d p q r s then min c r else 0
def UU (a b c d p q r s:Int):Int:=if Ts a b c d p q r s then min d s else 0
theorem UA {a b c d p q r s:Int} (h:Ts a b c d p q r s=true):UR a b c d p q r s=max a p∧US a b c d p q r s=max b q∧UT a b c d p q r s=min c r∧UU a b c d p q r s=min d s:=by simp [UR,US,UT,UU,h]
def L3 (a b c d x y:Int):Bool:=CS a b c d&&Au x y
def Tt (a b c d x y:Int):Int:=if L3 a b c d x y then max a (min x c) else 0
def Tu (a b c d x y:Int):Int:=if L3 a b c d x y then max b (min y d) else 0
theorem NY {a b c d x y:Int} (h:L3 a b c d x y=false):Tt a b c d x y=0∧Tu a b c d x y=0:=by simp [Tt,Tu,h]
theorem NZ {a b c d x y:Int} (h:L3 a b c d x y=true):Tt a b c d x y=max a (min x c)∧Tu a b c d x y=max b (min y d):=by simp [Tt,Tu,h]
def L4 (a b c d x y r:Int):Bool:=decide ((x-max a (min x c))*(x-max a (min x c))+(y-max b (min y d))*(y-max b (min y d))≤r*r)
theorem N2 {a c x:Int} (a1:-1000000≤a) (c2:c≤1000000) (ac:a≤c) (x1:-1000000≤x) (x2:x≤1000000):-2000000≤x-max a (min x c)∧x-max a (min x c)≤2000000:=by omega
end M
end Go.Proofs.YtkpogcflgghfiaaDoor
namespace Go.Proofs.YtkpogcflgghfiaaDoor
open Go.RowKit
open M
abbrev box (a b c d:Int):Value:=.agg #[.int .i64 a,.int .i64 b,.int .i64 c,.int .i64 d]
theorem CB (a b c d:Int) (w:World):Calls Tryd.prog 55 #[box a b c d] w fun e w'=>e=.returned (.bool (CS a b c d))∧Below w.heap.size w w':=by
 cases h:Au a b
 · have E:=hid (NU (c:=c) (d:=d) h);go_enter Tryd.func55,Tryd.ntmps55;go_wp2_with fail;refine (Bl _ _ _).mono ?_;rintro e w1 ⟨rfl,B1⟩;have C1:=B1;clear B1;obtain ⟨hc1,hf1⟩:=Ay C1;have H1:=hid (Ab (Aa (Ac w) _) C1);go_wp2;go_ret;exact ⟨Ao (by rw [E.out]),H1.out⟩
 cases g:Au c d
 · have E:=hid (NV (a:=a) (b:=b) g);go_enter Tryd.func55,Tryd.ntmps55;go_wp2_with fail;refine (Bl _ _ _).mono ?_;rintro e w1 ⟨rfl,B1⟩;have C1:=B1;clear B1;obtain ⟨hc1,hf1⟩:=Ay C1;have H1:=hid (Ab (Aa (Ac w) _) C1);go_wp2_with fail;refine (Bl _ _ _).mono ?_;rintro e w2 ⟨rfl,B2⟩;have C2:=Ab C1 B2;clear hc1 hf1 C1 B2;obtain ⟨hc2,hf2⟩:=Ay C2;have H2:=hid (Ab (Aa (Ac w) _) C2);go_wp2;go_ret;exact ⟨Ao (by rw [E.out]),H2.out⟩
 by_cases k:a≤c
 · have E:=hid (RQ h g k);go_enter Tryd.func55,Tryd.ntmps55;go_wp2_with fail;refine (Bl _ _ _).mono ?_;rintro e w1 ⟨rfl,B1⟩;have C1:=B1;clear B1;obtain ⟨hc1,hf1⟩:=Ay C1;have H1:=hid (Ab (Aa (Ac w) _) C1);go_wp2_with fail;refine (Bl _ _ _).mono ?_;rintro e w2 ⟨rfl,B2⟩;have C2:=Ab C1 B2;clear hc1 hf1 C1 B2;obtain ⟨hc2,hf2⟩:=Ay C2;have H2:=hid (Ab (Aa (Ac w) _) C2);go_wp2;go_ret;exact ⟨Ao (by rw [E.out]),H2.out⟩
 · have E:=hid (RP (b:=b) (d:=d) k);have k2:decide (a≤c)=false:=decide_eq_false k;go_enter Tryd.func55,Tryd.ntmps55;go_wp2_with fail;refine (Bl _ _ _).mono ?_;rintro e w1 ⟨rfl,B1⟩;have C1:=B1;clear B1;obtain ⟨hc1,hf1⟩:=Ay C1;have H1:=hid (Ab (Aa (Ac w) _) C1);go_wp2_with fail;refine (Bl _ _ _).mono ?_;rintro e w2 ⟨rfl,B2⟩;have C2:=Ab C1 B2;clear hc1 hf1 C1 B2;obtain ⟨hc2,hf2⟩:=Ay C2;have H2:=hid (Ab (Aa (Ac w) _) C2);go_wp2;go_ret;exact ⟨Ao (by rw [E.out]),H2.out⟩
theorem FX (a b c d x y:Int) (w:World):Calls Tryd.prog 81 #[box a b c d,Bo x y] w fun e w'=>e=.returned (.bool (Dm a b c d x y))∧Below w.heap.size w w':=by
 cases h:Ba x a c
 · have E:=hid (Tr (b:=b) (d:=d) (y:=y) h);go_enter Tryd.func81,Tryd.ntmps81;go_wp2_with (go_at_call 20; refine (Gc _ _ _ _).mono ?_; rintro e w' ⟨rfl,rfl⟩);go_ret;exact ⟨Ao (by rw [E.out]),Aa (Aa (Ac w) _) _⟩
 · have E:=hid (RS (b:=b) (d:=d) (y:=y) h);go_enter Tryd.func81,Tryd.ntmps81;go_wp2_with (go_at_call 20; refine (Gc _ _ _ _).mono ?_; rintro e w' ⟨rfl,rfl⟩);go_ret;exact ⟨Ao (by rw [E.out]),Aa (Aa (Ac w) _) _⟩
theorem Hf (a b c d x y:Int) (w:World):Calls Tryd.prog 90 #[box a b c d,Bo x y] w fun e w'=>e=.returned (Bo (max a (min x c)) (max b (min y d)))∧Below w.heap.size w w':=by
 have hmx:=LZ;have hmn:=L2;go_enter Tryd.func90,Tryd.ntmps90;go_wp2;exact bodyPost_ret (v:=Bo (max a (min x c)) (max b (min y d))) (by simp [results,Tryd.results90,go_sem]) rfl ⟨rfl,by repeat (first | exact Ac _ | refine Aa ?_ _ | refine Am ?_ _ _ _ (by omega))⟩
theorem JQ (a b c d x y r:Int) (w:World) (hb:CS a b c d=true) (hv:Au x y=true) (r0:0≤r) (r1:r≤1000000):Calls Tryd.prog 76 #[box a b c d,Bo x y,.int .i64 r] w fun e w'=>e=.returned (.bool (L4 a b c d x y r))∧Below w.heap.size w w':=by
 obtain ⟨⟨⟨a1,a2⟩,b1,b2⟩,⟨⟨c1,c2⟩,d1,d2⟩,ac,bd⟩:=(Ek a b c d).1 hb;obtain ⟨⟨x1,x2⟩,y1,y2⟩:=(AW x y).1 hv;have g1:=N2 a1 c2 ac x1 x2;have g2:=N2 b1 d2 bd y1 y2;have n1:-1000000≤max a (min x c)∧max a (min x c)≤1000000:=by omega
 have n2:-1000000≤max b (min y d)∧max b (min y d)≤1000000:=by omega
 have E:=hid (show L4 a b c d x y r=decide ((x-max a (min x c))*(x-max a (min x c))+(y-max b (min y d))*(y-max b (min y d))≤r*r) from rfl);have Q:=hid (fun W=>Hf a b c d x y W);clear hb hv;generalize max a (min x c)=X at *;generalize max b (min y d)=Y at *;have m1:=Ci (a:=x-X) (b:=x-X) (by omega) (by omega) (by omega) (by omega);have m2:=Ci (a:=y-Y) (b:=y-Y) (by omega) (by omega) (by omega) (by omega);have m3:=Ci (a:=r) (b:=r) (by omega) (by omega) (by omega) (by omega);go_enter Tryd.func76,Tryd.ntmps76;go_wp2_with fail;refine (Q.out _).mono ?_;rintro e w1 ⟨rfl,B1⟩;obtain ⟨hc1,hf1⟩:=Ay B1
 have l0:w.heap.size<w1.heap.size:=by have:=B1.size; simp at this; omega
 have l1:w.heap.size+1<w1.heap.size:=by have:=B1.size; simp at this; omega
 have H1:=hid (Ab (Aa (Aa (Ac w) _) _) B1);clear B1 Q;go_wp2;go_ret;exact ⟨Ao (by rw [E.out]),Aa H1.out _⟩
end Go.Proofs.YtkpogcflgghfiaaDoor
namespace Go.Proofs.YtkpogcflgghfiaaDoor
namespace M
end M
end Go.Proofs.YtkpogcflgghfiaaDoor
