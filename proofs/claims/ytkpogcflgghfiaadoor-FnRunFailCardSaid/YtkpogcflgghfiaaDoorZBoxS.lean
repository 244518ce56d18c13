import Derived.Test.YtkpogcflgghfiaaDoorZVecS
set_option linter.all false
set_option maxRecDepth 100000
set_option maxHeartbeats 8000000
open Go.Lib
namespace Go.Proofs.YtkpogcflgghfiaaDoor
namespace M
theorem LV (x y:Int):(if x<y then y else x)=max x y:=by split<;>omega
theorem LW (x y:Int):(if y<x then y else x)=min x y:=by split<;>omega
def CO (a b c d:Int):Bool:=As a b&&As c d&&decide (a≤c)&&decide (b≤d)
theorem NO {a b c d:Int} (h:As a b=false):CO a b c d=false:=by simp [CO,h]
theorem NP {a b c d:Int} (h:As c d=false):CO a b c d=false:=by simp [CO,h]
theorem RG {a b c d:Int} (h:¬ a≤c):CO a b c d=false:=by
 unfold CO; rw [decide_eq_false h,Bool.and_false,Bool.false_and]
theorem RH {a b c d:Int} (h:As a b=true) (g:As c d=true) (k:a≤c):CO a b c d=decide (b≤d):=by simp [CO,h,g,k]
theorem Ed (a b c d:Int):CO a b c d=true↔((-1000000≤a∧a≤1000000)∧(-1000000≤b∧b≤1000000))∧((-1000000≤c∧c≤1000000)∧(-1000000≤d∧d≤1000000))∧a≤c∧b≤d:=by
 simp only [CO,Bool.and_eq_true,AV,decide_eq_true_eq];constructor
 · rintro ⟨⟨⟨h1,h2⟩,h3⟩,h4⟩; exact ⟨h1,h2,h3,h4⟩
 · rintro ⟨h1,h2,h3,h4⟩; exact ⟨⟨⟨h1,h2⟩,h3⟩,h4⟩
def Dh (a b c d x y:Int):Bool:=A9 x a c&&A9 y b d
theorem Tm {a b c d x y:Int} (h:A9 x a c=false):Dh a b c d x y=false:=by simp [Dh,h]
theorem RI {a b c d x y:Int} (h:A9 x a c=true):Dh a b c d x y=A9 y b d:=by simp [Dh,h]
def NQ (a b c d x y:Int):Bool:=CO a b c d&&As x y&&Dh a b c d x y
theorem RJ {a b c d x y:Int} (h:CO a b c d=false):NQ a b c d x y=false:=by simp [NQ,h]
theorem RL {a b c d x y:Int} (h:As x y=false):NQ a b c d x y=false:=by simp [NQ,h]
theorem G4 {a b c d x y:Int} (h:CO a b c d=true) (g:As x y=true):NQ a b c d x y=Dh a b c d x y:=by simp [NQ,h,g]
def Tn (a b c d p q r s:Int):Bool:=CO a b c d&&CO p q r s&&CO (max a p) (max b q) (min c r) (min d s)
def UM (a b c d p q r s:Int):Int:=if Tn a b c d p q r s then max a p else 0
def UN (a b c d p q r s:Int):Int:=if Tn a b c d p q r s then max b q else 0
def UO (a b c d p q r s:Int):Int:=if Tn a b c d p q r s then min c r else 0
def UP (a b c d p q r s:Int):Int:=if Tn a b c d p q r s then min d s else 0
theorem Uv {a b c d p q r s:Int} (h:Tn a b c d p q r s=true):UM a b c d p q r s=max a p∧UN a b c d p q r s=max b q∧UO a b c d p q r s=min c r∧UP a b c d p q r s=min d s:=by simp [UM,UN,UO,UP,h]
def LX (a b c d x y:Int):Bool:=CO a b c d&&As x y
def To (a b c d x y:Int):Int:=if LX a b c d x y then max a (min x c) else 0
def Tp (a b c d x y:Int):Int:=if LX a b c d x y then max b (min y d) else 0
theorem NR {a b c d x y:Int} (h:LX a b c d x y=false):To a b c d x y=0∧Tp a b c d x y=0:=by simp [To,Tp,h]
theorem NS {a b c d x y:Int} (h:LX a b c d x y=true):To a b c d x y=max a (min x c)∧Tp a b c d x y=max b (min y d):=by simp [To,Tp,h]
def LY (a b c d x y r:Int):Bool:=decide ((x-max a (min x c))*(x-max a (min x c))+(y-max b (min y d))*(y-max b (min y d))≤r*r)
theorem NT {a c x:Int} (a1:-1000000≤a) (c2:c≤1000000) (ac:a≤c) (x1:-1000000≤x) (x2:x≤1000000):-2000000≤x-max a (min x c)∧x-max a (min x c)≤2000000:=by omega
end M
end Go.Proofs.YtkpogcflgghfiaaDoor
namespace Go.Proofs.YtkpogcflgghfiaaDoor
open Go.RowKit
open M
abbrev box (a b c d:Int):Value:=.agg #[.int .i64 a,.int .i64 b,.int .i64 c,.int .i64 d]
theorem Cx (a b c d:Int) (w:World):Calls Tryd.prog 55 #[box a b c d] w fun e w'=>e=.returned (.bool (CO a b c d))∧Below w.heap.size w w':=by
 cases h:As a b
 · have E:=hid (NO (c:=c) (d:=d) h);go_enter Tryd.func55,Tryd.ntmps55;go_wp2_with fail;refine (Bi _ _ _).mono ?_;rintro e w1 ⟨rfl,B1⟩;have C1:=B1;clear B1;obtain ⟨hc1,hf1⟩:=Aw C1;have H1:=hid (Ab (Aa (Ac w) _) C1);go_wp2;go_ret;exact ⟨Ao (by rw [E.out]),H1.out⟩
 cases g:As c d
 · have E:=hid (NP (a:=a) (b:=b) g);go_enter Tryd.func55,Tryd.ntmps55;go_wp2_with fail;refine (Bi _ _ _).mono ?_;rintro e w1 ⟨rfl,B1⟩;have C1:=B1;clear B1;obtain ⟨hc1,hf1⟩:=Aw C1;have H1:=hid (Ab (Aa (Ac w) _) C1);go_wp2_with fail;refine (Bi _ _ _).mono ?_;rintro e w2 ⟨rfl,B2⟩;have C2:=Ab C1 B2;clear hc1 hf1 C1 B2;obtain ⟨hc2,hf2⟩:=Aw C2;have H2:=hid (Ab (Aa (Ac w) _) C2);go_wp2;go_ret;exact ⟨Ao (by rw [E.out]),H2.out⟩
 by_cases k:a≤c
 · have E:=hid (RH h g k);go_enter Tryd.func55,Tryd.ntmps55;go_wp2_with fail;refine (Bi _ _ _).mono ?_;rintro e w1 ⟨rfl,B1⟩;have C1:=B1;clear B1;obtain ⟨hc1,hf1⟩:=Aw C1;have H1:=hid (Ab (Aa (Ac w) _) C1);go_wp2_with fail;refine (Bi _ _ _).mono ?_;rintro e w2 ⟨rfl,B2⟩;have C2:=Ab C1 B2;clear hc1 hf1 C1 B2;obtain ⟨hc2,hf2⟩:=Aw C2;have H2:=hid (Ab (Aa (Ac w) _) C2);go_wp2;go_ret;exact ⟨Ao (by rw [E.out]),H2.out⟩
 · have E:=hid (RG (b:=b) (d:=d) k);have k2:decide (a≤c)=false:=decide_eq_false k;go_enter Tryd.func55,Tryd.ntmps55;go_wp2_with fail;refine (Bi _ _ _).mono ?_;rintro e w1 ⟨rfl,B1⟩;have C1:=B1;clear B1;obtain ⟨hc1,hf1⟩:=Aw C1;have H1:=hid (Ab (Aa (Ac w) _) C1);go_wp2_with fail;refine (Bi _ _ _).mono ?_;rintro e w2 ⟨rfl,B2⟩;have C2:=Ab C1 B2;clear hc1 hf1 C1 B2;obtain ⟨hc2,hf2⟩:=Aw C2;have H2:=hid (Ab (Aa (Ac w) _) C2);go_wp2;go_ret;exact ⟨Ao (by rw [E.out]),H2.out⟩
theorem FQ (a b c d x y:Int) (w:World):Calls Tryd.prog 81 #[box a b c d,Bl x y] w fun e w'=>e=.returned (.bool (Dh a b c d x y))∧Below w.heap.size w w':=by
 cases h:A9 x a c
 · have E:=hid (Tm (b:=b) (d:=d) (y:=y) h);go_enter Tryd.func81,Tryd.ntmps81;go_wp2_with (go_at_call 20; refine (F5 _ _ _ _).mono ?_; rintro e w' ⟨rfl,rfl⟩);go_ret;exact ⟨Ao (by rw [E.out]),Aa (Aa (Ac w) _) _⟩
 · have E:=hid (RI (b:=b) (d:=d) (y:=y) h);go_enter Tryd.func81,Tryd.ntmps81;go_wp2_with (go_at_call 20; refine (F5 _ _ _ _).mono ?_; rintro e w' ⟨rfl,rfl⟩);go_ret;exact ⟨Ao (by rw [E.out]),Aa (Aa (Ac w) _) _⟩
theorem G6 (a b c d x y:Int) (w:World):Calls Tryd.prog 90 #[box a b c d,Bl x y] w fun e w'=>e=.returned (Bl (max a (min x c)) (max b (min y d)))∧Below w.heap.size w w':=by
 have hmx:=LV;have hmn:=LW;go_enter Tryd.func90,Tryd.ntmps90;go_wp2;exact bodyPost_ret (v:=Bl (max a (min x c)) (max b (min y d))) (by simp [results,Tryd.results90,go_sem]) rfl ⟨rfl,by repeat (first | exact Ac _ | refine Aa ?_ _ | refine Am ?_ _ _ _ (by omega))⟩
theorem JM (a b c d x y r:Int) (w:World) (hb:CO a b c d=true) (hv:As x y=true) (r0:0≤r) (r1:r≤1000000):Calls Tryd.prog 76 #[box a b c d,Bl x y,.int .i64 r] w fun e w'=>e=.returned (.bool (LY a b c d x y r))∧Below w.heap.size w w':=by
 obtain ⟨⟨⟨a1,a2⟩,b1,b2⟩,⟨⟨c1,c2⟩,d1,d2⟩,ac,bd⟩:=(Ed a b c d).1 hb;obtain ⟨⟨x1,x2⟩,y1,y2⟩:=(AV x y).1 hv;have g1:=NT a1 c2 ac x1 x2;have g2:=NT b1 d2 bd y1 y2;have n1:-1000000≤max a (min x c)∧max a (min x c)≤1000000:=by omega
 have n2:-1000000≤max b (min y d)∧max b (min y d)≤1000000:=by omega
 have E:=hid (show LY a b c d x y r=decide ((x-max a (min x c))*(x-max a (min x c))+(y-max b (min y d))*(y-max b (min y d))≤r*r) from rfl);have Q:=hid (fun W=>G6 a b c d x y W);clear hb hv;generalize max a (min x c)=X at *;generalize max b (min y d)=Y at *;have m1:=Ce (a:=x-X) (b:=x-X) (by omega) (by omega) (by omega) (by omega);have m2:=Ce (a:=y-Y) (b:=y-Y) (by omega) (by omega) (by omega) (by omega);have m3:=Ce (a:=r) (b:=r) (by omega) (by omega) (by omega) (by omega);go_enter Tryd.func76,Tryd.ntmps76;go_wp2_with fail;refine (Q.out _).mono ?_;rintro e w1 ⟨rfl,B1⟩;obtain ⟨hc1,hf1⟩:=Aw B1
 have l0:w.heap.size<w1.heap.size:=by have:=B1.size; simp at this; omega
 have l1:w.heap.size+1<w1.heap.size:=by have:=B1.size; simp at this; omega
 have H1:=hid (Ab (Aa (Aa (Ac w) _) _) B1);clear B1 Q;go_wp2;go_ret;exact ⟨Ao (by rw [E.out]),Aa H1.out _⟩
end Go.Proofs.YtkpogcflgghfiaaDoor
namespace Go.Proofs.YtkpogcflgghfiaaDoor
namespace M
end M
end Go.Proofs.YtkpogcflgghfiaaDoor
