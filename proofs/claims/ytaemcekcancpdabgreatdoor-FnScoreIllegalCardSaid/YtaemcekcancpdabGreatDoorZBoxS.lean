import Derived.Test.YtaemcekcancpdabGreatDoorZVecS
set_option linter.all false
set_option maxRecDepth 100000
set_option maxHeartbeats 8000000
open Go.Lib
namespace Go.Proofs.YtaemcekcancpdabGreatDoor
namespace M
theorem MQ(x y:Int):(if x<y then y else x)=max x y:=by split<;>omega
theorem MR(x y:Int):(if y<x then y else x)=min x y:=by split<;>omega
def Dc(a b c d:Int):Bool:=Av a b&&Av c d&&decide (a<=c)&&decide (b<=d)
theorem Pf{a b c d:Int}(h:Av a b=false):Dc a b c d=false:=by simp[Dc,h]
theorem Pg{a b c d:Int}(h:Av c d=false):Dc a b c d=false:=by simp[Dc,h]
theorem Tn{a b c d:Int}(h:¬ a<=c):Dc a b c d=false:=by
 unfold Dc; rw[decide_eq_false h,Bool.and_false,Bool.false_and]
theorem To{a b c d:Int}(h:Av a b=true)(g:Av c d=true)(k:a<=c):Dc a b c d=decide (b<=d):=by simp[Dc,h,g,k]
theorem En(a b c d:Int):Dc a b c d=true↔((-1000000<=a/\a<=1000000)/\(-1000000<=b/\b<=1000000))/\((-1000000<=c/\c<=1000000)/\(-1000000<=d/\d<=1000000))/\a<=c/\b<=d:=by
 simp only[Dc,Bool.and_eq_true,AY,decide_eq_true_eq];constructor
 . rintro⟨⟨⟨h1,h2⟩,h3⟩,h4⟩; exact⟨h1,h2,h3,h4⟩
 . rintro⟨h1,h2,h3,h4⟩; exact⟨⟨⟨h1,h2⟩,h3⟩,h4⟩
def Dd(a b c d x y:Int):Bool:=Be x a c&&Be y b d
theorem UF{a b c d x y:Int}(h:Be x a c=false):Dd a b c d x y=false:=by simp[Dd,h]
theorem Tp{a b c d x y:Int}(h:Be x a c=true):Dd a b c d x y=Be y b d:=by simp[Dd,h]
def NM(a b c d x y:Int):Bool:=Dc a b c d&&Av x y&&Dd a b c d x y
theorem Tq{a b c d x y:Int}(h:Dc a b c d=false):NM a b c d x y=false:=by simp[NM,h]
theorem Tr{a b c d x y:Int}(h:Av x y=false):NM a b c d x y=false:=by simp[NM,h]
theorem HA{a b c d x y:Int}(h:Dc a b c d=true)(g:Av x y=true):NM a b c d x y=Dd a b c d x y:=by simp[NM,h,g]
def MU(a b c d x y:Int):Bool:=Dc a b c d&&Av x y
def UG(a b c d x y:Int):Int:=if MU a b c d x y then max a (min x c) else 0
def UH(a b c d x y:Int):Int:=if MU a b c d x y then max b (min y d) else 0
theorem Ph{a b c d x y:Int}(h:MU a b c d x y=false):UG a b c d x y=0/\UH a b c d x y=0:=by simp[UG,UH,h]
theorem Pi{a b c d x y:Int}(h:MU a b c d x y=true):UG a b c d x y=max a (min x c)/\UH a b c d x y=max b (min y d):=by simp[UG,UH,h]
def MV(a b c d x y r:Int):Bool:=decide ((x-max a (min x c))*(x-max a (min x c))+(y-max b (min y d))*(y-max b (min y d))<=r*r)
theorem Pj{a c x:Int}(a1:-1000000<=a)(c2:c<=1000000)(ac:a<=c)(x1:-1000000<=x)(x2:x<=1000000):-2000000<=x-max a (min x c)/\x-max a (min x c)<=2000000:=by omega
end M
end Go.Proofs.YtaemcekcancpdabGreatDoor
namespace Go.Proofs.YtaemcekcancpdabGreatDoor
open Go.RowKit
open M
abbrev box(a b c d:Int):Value:=.agg #[.int .i64 a,.int .i64 b,.int .i64 c,.int .i64 d]
theorem CI(a b c d:Int)(w:World):Calls Tryz.prog 61 #[box a b c d] w fun e w'=>e=.returned (.bool (Dc a b c d))/\Below w.heap.size w w':=by
 cases h:Av a b
 . have E:=hid (Pf (c:=c) (d:=d) h);go_enter Tryz.func61,Tryz.ntmps61;go_wp2_with fail;refine(Bl _ _ _).mono ?_;rintro e w1 ⟨rfl,B1⟩;have C1:=B1;clear B1;obtain⟨hc1,hf1⟩:=AA C1;have H1:=hid (Ab (Aa (Ac w) _) C1);go_wp2;go_ret;exact⟨An (by rw[E.out]),H1.out⟩
 cases g:Av c d
 . have E:=hid (Pg (a:=a) (b:=b) g);go_enter Tryz.func61,Tryz.ntmps61;go_wp2_with fail;refine(Bl _ _ _).mono ?_;rintro e w1 ⟨rfl,B1⟩;have C1:=B1;clear B1;obtain⟨hc1,hf1⟩:=AA C1;have H1:=hid (Ab (Aa (Ac w) _) C1);go_wp2_with fail;refine(Bl _ _ _).mono ?_;rintro e w2 ⟨rfl,B2⟩;have C2:=Ab C1 B2;clear hc1 hf1 C1 B2;obtain⟨hc2,hf2⟩:=AA C2;have H2:=hid (Ab (Aa (Ac w) _) C2);go_wp2;go_ret;exact⟨An (by rw[E.out]),H2.out⟩
 by_cases k:a<=c
 . have E:=hid (To h g k);go_enter Tryz.func61,Tryz.ntmps61;go_wp2_with fail;refine(Bl _ _ _).mono ?_;rintro e w1 ⟨rfl,B1⟩;have C1:=B1;clear B1;obtain⟨hc1,hf1⟩:=AA C1;have H1:=hid (Ab (Aa (Ac w) _) C1);go_wp2_with fail;refine(Bl _ _ _).mono ?_;rintro e w2 ⟨rfl,B2⟩;have C2:=Ab C1 B2;clear hc1 hf1 C1 B2;obtain⟨hc2,hf2⟩:=AA C2;have H2:=hid (Ab (Aa (Ac w) _) C2);go_wp2;go_ret;exact⟨An (by rw[E.out]),H2.out⟩
 . have E:=hid (Tn (b:=b) (d:=d) k);have k2:decide (a<=c)=false:=decide_eq_false k;go_enter Tryz.func61,Tryz.ntmps61;go_wp2_with fail;refine(Bl _ _ _).mono ?_;rintro e w1 ⟨rfl,B1⟩;have C1:=B1;clear B1;obtain⟨hc1,hf1⟩:=AA C1;have H1:=hid (Ab (Aa (Ac w) _) C1);go_wp2_with fail;refine(Bl _ _ _).mono ?_;rintro e w2 ⟨rfl,B2⟩;have C2:=Ab C1 B2;clear hc1 hf1 C1 B2;obtain⟨hc2,hf2⟩:=AA C2;have H2:=hid (Ab (Aa (Ac w) _) C2);go_wp2;go_ret;exact⟨An (by rw[E.out]),H2.out⟩
theorem F6(a b c d x y:Int)(w:World):Calls Tryz.prog 99 #[box a b c d,Bu x y] w fun e w'=>e=.returned (.bool (Dd a b c d x y))/\Below w.heap.size w w':=by
 cases h:Be x a c
 . have E:=hid (UF (b:=b) (d:=d) (y:=y) h);go_enter Tryz.func99,Tryz.ntmps99;go_wp2_with (go_at_call 44; refine(HT _ _ _ _).mono ?_; rintro e w' ⟨rfl,rfl⟩);go_ret;exact⟨An (by rw[E.out]),Aa (Aa (Ac w) _) _⟩
 . have E:=hid (Tp (b:=b) (d:=d) (y:=y) h);go_enter Tryz.func99,Tryz.ntmps99;go_wp2_with (go_at_call 44; refine(HT _ _ _ _).mono ?_; rintro e w' ⟨rfl,rfl⟩);go_ret;exact⟨An (by rw[E.out]),Aa (Aa (Ac w) _) _⟩
theorem HC(a b c d x y:Int)(w:World):Calls Tryz.prog 100 #[box a b c d,Bu x y] w fun e w'=>e=.returned (Bu (max a (min x c)) (max b (min y d)))/\Below w.heap.size w w':=by
 have hmx:=MQ;have hmn:=MR;go_enter Tryz.func100,Tryz.ntmps100;go_wp2;exact bodyPost_ret (v:=Bu (max a (min x c)) (max b (min y d))) (by simp[results,Tryz.results100,go_sem]) rfl ⟨rfl,by repeat (first | exact Ac _ | refine Aa ?_ _ | refine Ak ?_ _ _ _ (by omega))⟩
theorem KE(a b c d x y r:Int)(w:World)(hb:Dc a b c d=true)(hv:Av x y=true)(r0:0<=r)(r1:r<=1000000):Calls Tryz.prog 83 #[box a b c d,Bu x y,.int .i64 r] w fun e w'=>e=.returned (.bool (MV a b c d x y r))/\Below w.heap.size w w':=by
 obtain⟨⟨⟨a1,a2⟩,b1,b2⟩,⟨⟨c1,c2⟩,d1,d2⟩,ac,bd⟩:=(En a b c d).1 hb;obtain⟨⟨x1,x2⟩,y1,y2⟩:=(AY x y).1 hv;have g1:=Pj a1 c2 ac x1 x2;have g2:=Pj b1 d2 bd y1 y2;have n1:-1000000<=max a (min x c)/\max a (min x c)<=1000000:=by omega
 have n2:-1000000<=max b (min y d)/\max b (min y d)<=1000000:=by omega
 have E:=hid (show MV a b c d x y r=decide ((x-max a (min x c))*(x-max a (min x c))+(y-max b (min y d))*(y-max b (min y d))<=r*r) from rfl);have Q:=hid (fun W=>HC a b c d x y W);clear hb hv;generalize max a (min x c)=X at *;generalize max b (min y d)=Y at *;have m1:=Ck (a:=x-X) (b:=x-X) (by omega) (by omega) (by omega) (by omega);have m2:=Ck (a:=y-Y) (b:=y-Y) (by omega) (by omega) (by omega) (by omega);have m3:=Ck (a:=r) (b:=r) (by omega) (by omega) (by omega) (by omega);go_enter Tryz.func83,Tryz.ntmps83;go_wp2_with fail;refine(Q.out _).mono ?_;rintro e w1 ⟨rfl,B1⟩;obtain⟨hc1,hf1⟩:=AA B1
 have l0:w.heap.size<w1.heap.size:=by have:=B1.size; simp at this; omega
 have l1:w.heap.size+1<w1.heap.size:=by have:=B1.size; simp at this; omega
 have H1:=hid (Ab (Aa (Aa (Ac w) _) _) B1);clear B1 Q;go_wp2;go_ret;exact⟨An (by rw[E.out]),Aa H1.out _⟩
end Go.Proofs.YtaemcekcancpdabGreatDoor
namespace Go.Proofs.YtaemcekcancpdabGreatDoor
namespace M
end M
end Go.Proofs.YtaemcekcancpdabGreatDoor
namespace Go.Proofs.YtaemcekcancpdabGreatDoor
namespace M
def Ri(h n:Int):Int:=(8191*h+n % 1000003+1) % 1000003
theorem Pk(h n:Int):0<=Ri h n/\Ri h n<1000003:=by unfold Ri; omega
def GL(h:Int)(xs:List Int):Int:=xs.foldl Ri h
theorem Pm{h:Int}(h0:0<=h)(h1:h<1000003)(xs:List Int):0<=GL h xs/\GL h xs<1000003:=by
 unfold GL
 induction xs generalizing h with
 | nil=>exact⟨h0,h1⟩
 | cons x xs ih=>exact ih (Pk h x).1 (Pk h x).2
theorem NN{xs:List Int}{k:Nat}(h:k<xs.length):xs.take (k+1)=xs.take k++[xs.getD k 0]:=by
 rw[List.take_succ_eq_append_getElem h,List.getD_eq_getElem?_getD,List.getElem?_eq_getElem h];rfl
theorem KF{h:Int}{xs:List Int}{k:Nat}(hk:k<xs.length):GL h (xs.take (k+1))=Ri (GL h (xs.take k)) (xs.getD k 0):=by
 unfold GL;rw[NN hk,List.foldl_append];rfl
def UI(xs:List Int):Bool:=xs.all okB&&decide (xs.length<=200)
def hI(xs:List Int):Int:=if UI xs then GL 17 xs else -1
def tg(k:Int)(xs:List Int):Int:=Ri (GL (Ri 17 k) xs) k
def tI(k:Int)(xs:List Int):Int:=if Be k 1 9999&&UI xs then tg k xs else -1
def tC(k:Int)(xs:List Int)(t:Int):Bool:=decide (0<=t)&&decide (tI k xs=t)
end M
end Go.Proofs.YtaemcekcancpdabGreatDoor
namespace Go.Proofs.YtaemcekcancpdabGreatDoor
open Go.RowKit
open M
def Ints(w:World)(A:Option Addr)(n:Nat)(xs:List Int):Prop :=
 xs.length=n/\(0<n->∃ b off,A=some ⟨b,off,none⟩/\b<w.heap.size/\∀ k,k<n->w.cell? ⟨b,off+k,none⟩=some (.int .i64 (xs.getD k 0)))
theorem Ints.step{w w':World}{A:Option Addr}{n:Nat}{xs:List Int}(h:Ints w A n xs)(B:Below w.heap.size w w'):Ints w' A n xs :=
 ⟨h.1,fun hn=>by
  obtain⟨b,off,e,hb,hc⟩:=h.2 hn;exact⟨b,off,e,Nat.lt_of_lt_of_le hb B.size,fun k hk=>(B.cell (p:=⟨b,off+k,none⟩) hb).trans (hc k hk)⟩⟩
theorem Ints.alloc{w:World}{A:Option Addr}{n:Nat}{xs:List Int}(h:Ints w A n xs)(o:Obj):Ints (w.alloc o) A n xs:=h.step (Aa (Ac w) o)
theorem AQ(n lo hi:Int)(b:Bool)(w:World)(h:Be n lo hi=b):Calls Tryz.prog 44 #[.int .i64 n,.int .i64 lo,.int .i64 hi] w fun e w'=>e=.returned (.bool b)/\w=w':=by
 subst h;exact HT n lo hi w
end Go.Proofs.YtaemcekcancpdabGreatDoor
namespace Go.Proofs.YtaemcekcancpdabGreatDoor
namespace M
end M
end Go.Proofs.YtaemcekcancpdabGreatDoor
