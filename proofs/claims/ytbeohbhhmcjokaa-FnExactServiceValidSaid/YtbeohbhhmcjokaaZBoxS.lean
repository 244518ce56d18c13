import Derived.Test.YtbeohbhhmcjokaaZVecS
set_option linter.all false
set_option maxRecDepth 100000
set_option maxHeartbeats 8000000
open Go.Lib
namespace Go.Proofs.Ytbeohbhhmcjokaa
namespace M
theorem Eh(x y:Int):(if x<y then y else x)=max x y:=by split<;>omega
theorem Ei(x y:Int):(if y<x then y else x)=min x y:=by split<;>omega
def Bh(a b c d:Int):Bool:=Am a b&&Am c d&&decide (a<=c)&&decide (b<=d)
theorem Fa{a b c d:Int}(h:Am a b=false):Bh a b c d=false:=by simp[Bh,h]
theorem Fb{a b c d:Int}(h:Am c d=false):Bh a b c d=false:=by simp[Bh,h]
theorem GT{a b c d:Int}(h:¬ a<=c):Bh a b c d=false:=by
 unfold Bh; rw[decide_eq_false h,Bool.and_false,Bool.false_and]
theorem GU{a b c d:Int}(h:Am a b=true)(g:Am c d=true)(k:a<=c):Bh a b c d=decide (b<=d):=by simp[Bh,h,g,k]
theorem Fc(a b c d:Int):Bh a b c d=true↔((-1000000<=a/\a<=1000000)/\(-1000000<=b/\b<=1000000))/\((-1000000<=c/\c<=1000000)/\(-1000000<=d/\d<=1000000))/\a<=c/\b<=d:=by
 simp only[Bh,Bool.and_eq_true,AB,decide_eq_true_eq];constructor
 . rintro⟨⟨⟨h1,h2⟩,h3⟩,h4⟩; exact⟨h1,h2,h3,h4⟩
 . rintro⟨h1,h2,h3,h4⟩; exact⟨⟨⟨h1,h2⟩,h3⟩,h4⟩
def HP(a b c d x y:Int):Bool:=Al x a c&&Al y b d
def Gk(a b c d x y r:Int):Bool:=decide ((x-max a (min x c))*(x-max a (min x c))+(y-max b (min y d))*(y-max b (min y d))<=r*r)
theorem Fe{a c x:Int}(a1:-1000000<=a)(c2:c<=1000000)(ac:a<=c)(x1:-1000000<=x)(x2:x<=1000000):-2000000<=x-max a (min x c)/\x-max a (min x c)<=2000000:=by omega
end M
end Go.Proofs.Ytbeohbhhmcjokaa
namespace Go.Proofs.Ytbeohbhhmcjokaa
open Go.RowKit
open M
abbrev box(a b c d:Int):Value:=.agg #[.int .i64 a,.int .i64 b,.int .i64 c,.int .i64 d]
theorem Ay(a b c d:Int)(w:World):Calls Try.prog 87 #[box a b c d] w fun e w'=>e=.returned (.bool (Bh a b c d))/\Below w.heap.size w w':=by
 cases h:Am a b
 . have E:=hid (Fa (c:=c) (d:=d) h);go_enter Try.func87,Try.ntmps87;go_wp2_with fail;refine(Aj _ _ _).mono ?_;rintro e w1 ⟨rfl,B1⟩;have C1:=B1;clear B1;obtain⟨hc1,hf1⟩:=Ae C1;have H1:=hid (Aa (Ab (Ac w) _) C1);go_wp2;go_ret;exact⟨Ad (by rw[E.out]),H1.out⟩
 cases g:Am c d
 . have E:=hid (Fb (a:=a) (b:=b) g);go_enter Try.func87,Try.ntmps87;go_wp2_with fail;refine(Aj _ _ _).mono ?_;rintro e w1 ⟨rfl,B1⟩;have C1:=B1;clear B1;obtain⟨hc1,hf1⟩:=Ae C1;have H1:=hid (Aa (Ab (Ac w) _) C1);go_wp2_with fail;refine(Aj _ _ _).mono ?_;rintro e w2 ⟨rfl,B2⟩;have C2:=Aa C1 B2;clear hc1 hf1 C1 B2;obtain⟨hc2,hf2⟩:=Ae C2;have H2:=hid (Aa (Ab (Ac w) _) C2);go_wp2;go_ret;exact⟨Ad (by rw[E.out]),H2.out⟩
 by_cases k:a<=c
 . have E:=hid (GU h g k);go_enter Try.func87,Try.ntmps87;go_wp2_with fail;refine(Aj _ _ _).mono ?_;rintro e w1 ⟨rfl,B1⟩;have C1:=B1;clear B1;obtain⟨hc1,hf1⟩:=Ae C1;have H1:=hid (Aa (Ab (Ac w) _) C1);go_wp2_with fail;refine(Aj _ _ _).mono ?_;rintro e w2 ⟨rfl,B2⟩;have C2:=Aa C1 B2;clear hc1 hf1 C1 B2;obtain⟨hc2,hf2⟩:=Ae C2;have H2:=hid (Aa (Ab (Ac w) _) C2);go_wp2;go_ret;exact⟨Ad (by rw[E.out]),H2.out⟩
 . have E:=hid (GT (b:=b) (d:=d) k);have k2:decide (a<=c)=false:=decide_eq_false k;go_enter Try.func87,Try.ntmps87;go_wp2_with fail;refine(Aj _ _ _).mono ?_;rintro e w1 ⟨rfl,B1⟩;have C1:=B1;clear B1;obtain⟨hc1,hf1⟩:=Ae C1;have H1:=hid (Aa (Ab (Ac w) _) C1);go_wp2_with fail;refine(Aj _ _ _).mono ?_;rintro e w2 ⟨rfl,B2⟩;have C2:=Aa C1 B2;clear hc1 hf1 C1 B2;obtain⟨hc2,hf2⟩:=Ae C2;have H2:=hid (Aa (Ab (Ac w) _) C2);go_wp2;go_ret;exact⟨Ad (by rw[E.out]),H2.out⟩
theorem DR(a b c d x y:Int)(w:World):Calls Try.prog 117 #[box a b c d,Ce x y] w fun e w'=>e=.returned (Ce (max a (min x c)) (max b (min y d)))/\Below w.heap.size w w':=by
 have hmx:=Eh;have hmn:=Ei;go_enter Try.func117,Try.ntmps117;go_wp2;exact bodyPost_ret (v:=Ce (max a (min x c)) (max b (min y d))) (by simp[results,Try.results117,go_sem]) rfl ⟨rfl,by repeat (first | exact Ac _ | refine Ab ?_ _ | refine Ag ?_ _ _ _ (by omega))⟩
theorem Dj(a b c d x y r:Int)(w:World)(hb:Bh a b c d=true)(hv:Am x y=true)(r0:0<=r)(r1:r<=1000000):Calls Try.prog 108 #[box a b c d,Ce x y,.int .i64 r] w fun e w'=>e=.returned (.bool (Gk a b c d x y r))/\Below w.heap.size w w':=by
 obtain⟨⟨⟨a1,a2⟩,b1,b2⟩,⟨⟨c1,c2⟩,d1,d2⟩,ac,bd⟩:=(Fc a b c d).1 hb;obtain⟨⟨x1,x2⟩,y1,y2⟩:=(AB x y).1 hv;have g1:=Fe a1 c2 ac x1 x2;have g2:=Fe b1 d2 bd y1 y2;have n1:-1000000<=max a (min x c)/\max a (min x c)<=1000000:=by omega
 have n2:-1000000<=max b (min y d)/\max b (min y d)<=1000000:=by omega
 have E:=hid (show Gk a b c d x y r=decide ((x-max a (min x c))*(x-max a (min x c))+(y-max b (min y d))*(y-max b (min y d))<=r*r) from rfl);have Q:=hid (fun W=>DR a b c d x y W);clear hb hv;generalize max a (min x c)=X at *;generalize max b (min y d)=Y at *;have m1:=BM (a:=x-X) (b:=x-X) (by omega) (by omega) (by omega) (by omega);have m2:=BM (a:=y-Y) (b:=y-Y) (by omega) (by omega) (by omega) (by omega);have m3:=BM (a:=r) (b:=r) (by omega) (by omega) (by omega) (by omega);go_enter Try.func108,Try.ntmps108;go_wp2_with fail;refine(Q.out _).mono ?_;rintro e w1 ⟨rfl,B1⟩;obtain⟨hc1,hf1⟩:=Ae B1
 have l0:w.heap.size<w1.heap.size:=by have:=B1.size; simp at this; omega
 have l1:w.heap.size+1<w1.heap.size:=by have:=B1.size; simp at this; omega
 have H1:=hid (Aa (Ab (Ab (Ac w) _) _) B1);clear B1 Q;go_wp2;go_ret;exact⟨Ad (by rw[E.out]),Ab H1.out _⟩
end Go.Proofs.Ytbeohbhhmcjokaa
namespace Go.Proofs.Ytbeohbhhmcjokaa
namespace M
end M
end Go.Proofs.Ytbeohbhhmcjokaa
