import Derived.Test.YtflmmdljkhdjlaaZVecS
set_option linter.all false
set_option maxRecDepth 100000
set_option maxHeartbeats 8000000
open Go.Lib
namespace Go.Proofs.Ytflmmdljkhdjlaa
namespace M
theorem GD(x y:Int):(if x<y then y else x)=max x y:=by split<;>omega
theorem Jm(x y:Int):(if y<x then y else x)=min x y:=by split<;>omega
def Ex(a b c d:Int):Bool:=AG a b&&AG c d&&decide (a<=c)&&decide (b<=d)
theorem Kd{a b c d:Int}(h:AG a b=false):Ex a b c d=false:=by simp[Ex,h]
theorem Ke{a b c d:Int}(h:AG c d=false):Ex a b c d=false:=by simp[Ex,h]
theorem Kf{a b c d:Int}(h:¬ a<=c):Ex a b c d=false:=by
 unfold Ex; rw[decide_eq_false h,Bool.and_false,Bool.false_and]
theorem Kg{a b c d:Int}(h:AG a b=true)(g:AG c d=true)(k:a<=c):Ex a b c d=decide (b<=d):=by simp[Ex,h,g,k]
theorem Ge(a b c d:Int):Ex a b c d=true↔((-1000000<=a/\a<=1000000)/\(-1000000<=b/\b<=1000000))/\((-1000000<=c/\c<=1000000)/\(-1000000<=d/\d<=1000000))/\a<=c/\b<=d:=by
 simp only[Ex,Bool.and_eq_true,Cd,decide_eq_true_eq];constructor
 . rintro⟨⟨⟨h1,h2⟩,h3⟩,h4⟩; exact⟨h1,h2,h3,h4⟩
 . rintro⟨h1,h2,h3,h4⟩; exact⟨⟨⟨h1,h2⟩,h3⟩,h4⟩
def FB(a b c d x y:Int):Bool:=Aw x a c&&Aw y b d
theorem KJ{a b c d x y:Int}(h:Aw x a c=false):FB a b c d x y=false:=by simp[FB,h]
theorem Kh{a b c d x y:Int}(h:Aw x a c=true):FB a b c d x y=Aw y b d:=by simp[FB,h]
def HI(a b c d x y r:Int):Bool:=decide ((x-max a (min x c))*(x-max a (min x c))+(y-max b (min y d))*(y-max b (min y d))<=r*r)
theorem HJ{a c x:Int}(a1:-1000000<=a)(c2:c<=1000000)(ac:a<=c)(x1:-1000000<=x)(x2:x<=1000000):-2000000<=x-max a (min x c)/\x-max a (min x c)<=2000000:=by omega
end M
end Go.Proofs.Ytflmmdljkhdjlaa
namespace Go.Proofs.Ytflmmdljkhdjlaa
open Go.RowKit
open M
abbrev box(a b c d:Int):Value:=.agg #[.int .i64 a,.int .i64 b,.int .i64 c,.int .i64 d]
theorem Br(a b c d:Int)(w:World):Calls Try.prog 101 #[box a b c d] w fun e w'=>e=.returned (.bool (Ex a b c d))/\Below w.heap.size w w':=by
 cases h:AG a b
 . have E:=hid (Kd (c:=c) (d:=d) h);go_enter Try.func101,Try.ntmps101;go_wp2_with fail;refine(AC _ _ _).mono ?_;rintro e w1 ⟨rfl,B1⟩;have C1:=B1;clear B1;obtain⟨hc1,hf1⟩:=AF C1;have H1:=hid (Aa (Ab (Ac w) _) C1);go_wp2;go_ret;exact⟨Al (by rw[E.out]),H1.out⟩
 cases g:AG c d
 . have E:=hid (Ke (a:=a) (b:=b) g);go_enter Try.func101,Try.ntmps101;go_wp2_with fail;refine(AC _ _ _).mono ?_;rintro e w1 ⟨rfl,B1⟩;have C1:=B1;clear B1;obtain⟨hc1,hf1⟩:=AF C1;have H1:=hid (Aa (Ab (Ac w) _) C1);go_wp2_with fail;refine(AC _ _ _).mono ?_;rintro e w2 ⟨rfl,B2⟩;have C2:=Aa C1 B2;clear hc1 hf1 C1 B2;obtain⟨hc2,hf2⟩:=AF C2;have H2:=hid (Aa (Ab (Ac w) _) C2);go_wp2;go_ret;exact⟨Al (by rw[E.out]),H2.out⟩
 by_cases k:a<=c
 . have E:=hid (Kg h g k);go_enter Try.func101,Try.ntmps101;go_wp2_with fail;refine(AC _ _ _).mono ?_;rintro e w1 ⟨rfl,B1⟩;have C1:=B1;clear B1;obtain⟨hc1,hf1⟩:=AF C1;have H1:=hid (Aa (Ab (Ac w) _) C1);go_wp2_with fail;refine(AC _ _ _).mono ?_;rintro e w2 ⟨rfl,B2⟩;have C2:=Aa C1 B2;clear hc1 hf1 C1 B2;obtain⟨hc2,hf2⟩:=AF C2;have H2:=hid (Aa (Ab (Ac w) _) C2);go_wp2;go_ret;exact⟨Al (by rw[E.out]),H2.out⟩
 . have E:=hid (Kf (b:=b) (d:=d) k);have k2:decide (a<=c)=false:=decide_eq_false k;go_enter Try.func101,Try.ntmps101;go_wp2_with fail;refine(AC _ _ _).mono ?_;rintro e w1 ⟨rfl,B1⟩;have C1:=B1;clear B1;obtain⟨hc1,hf1⟩:=AF C1;have H1:=hid (Aa (Ab (Ac w) _) C1);go_wp2_with fail;refine(AC _ _ _).mono ?_;rintro e w2 ⟨rfl,B2⟩;have C2:=Aa C1 B2;clear hc1 hf1 C1 B2;obtain⟨hc2,hf2⟩:=AF C2;have H2:=hid (Aa (Ab (Ac w) _) C2);go_wp2;go_ret;exact⟨Al (by rw[E.out]),H2.out⟩
theorem C9(a b c d x y:Int)(w:World):Calls Try.prog 111 #[box a b c d,DK x y] w fun e w'=>e=.returned (.bool (FB a b c d x y))/\Below w.heap.size w w':=by
 cases h:Aw x a c
 . have E:=hid (KJ (b:=b) (d:=d) (y:=y) h);go_enter Try.func111,Try.ntmps111;go_wp2_with (go_at_call 64; refine(Ee _ _ _ _).mono ?_; rintro e w' ⟨rfl,rfl⟩);go_ret;exact⟨Al (by rw[E.out]),Ab (Ab (Ac w) _) _⟩
 . have E:=hid (Kh (b:=b) (d:=d) (y:=y) h);go_enter Try.func111,Try.ntmps111;go_wp2_with (go_at_call 64; refine(Ee _ _ _ _).mono ?_; rintro e w' ⟨rfl,rfl⟩);go_ret;exact⟨Al (by rw[E.out]),Ab (Ab (Ac w) _) _⟩
theorem DL(a b c d x y:Int)(w:World):Calls Try.prog 118 #[box a b c d,DK x y] w fun e w'=>e=.returned (DK (max a (min x c)) (max b (min y d)))/\Below w.heap.size w w':=by
 have hmx:=GD;have hmn:=Jm;go_enter Try.func118,Try.ntmps118;go_wp2;exact bodyPost_ret (v:=DK (max a (min x c)) (max b (min y d))) (by simp[results,Try.results118,go_sem]) rfl ⟨rfl,by repeat (first | exact Ac _ | refine Ab ?_ _ | refine Ar ?_ _ _ _ (by omega))⟩
theorem FF(a b c d x y r:Int)(w:World)(hb:Ex a b c d=true)(hv:AG x y=true)(r0:0<=r)(r1:r<=1000000):Calls Try.prog 112 #[box a b c d,DK x y,.int .i64 r] w fun e w'=>e=.returned (.bool (HI a b c d x y r))/\Below w.heap.size w w':=by
 obtain⟨⟨⟨a1,a2⟩,b1,b2⟩,⟨⟨c1,c2⟩,d1,d2⟩,ac,bd⟩:=(Ge a b c d).1 hb;obtain⟨⟨x1,x2⟩,y1,y2⟩:=(Cd x y).1 hv;have g1:=HJ a1 c2 ac x1 x2;have g2:=HJ b1 d2 bd y1 y2;have n1:-1000000<=max a (min x c)/\max a (min x c)<=1000000:=by omega
 have n2:-1000000<=max b (min y d)/\max b (min y d)<=1000000:=by omega
 have E:=hid (show HI a b c d x y r=decide ((x-max a (min x c))*(x-max a (min x c))+(y-max b (min y d))*(y-max b (min y d))<=r*r) from rfl);have Q:=hid (fun W=>DL a b c d x y W);clear hb hv;generalize max a (min x c)=X at *;generalize max b (min y d)=Y at *;have m1:=BP (a:=x-X) (b:=x-X) (by omega) (by omega) (by omega) (by omega);have m2:=BP (a:=y-Y) (b:=y-Y) (by omega) (by omega) (by omega) (by omega);have m3:=BP (a:=r) (b:=r) (by omega) (by omega) (by omega) (by omega);go_enter Try.func112,Try.ntmps112;go_wp2_with fail;refine(Q.out _).mono ?_;rintro e w1 ⟨rfl,B1⟩;obtain⟨hc1,hf1⟩:=AF B1
 have l0:w.heap.size<w1.heap.size:=by have:=B1.size; simp at this; omega
 have l1:w.heap.size+1<w1.heap.size:=by have:=B1.size; simp at this; omega
 have H1:=hid (Aa (Ab (Ab (Ac w) _) _) B1);clear B1 Q;go_wp2;go_ret;exact⟨Al (by rw[E.out]),Ab H1.out _⟩
end Go.Proofs.Ytflmmdljkhdjlaa
namespace Go.Proofs.Ytflmmdljkhdjlaa
namespace M
end M
end Go.Proofs.Ytflmmdljkhdjlaa
