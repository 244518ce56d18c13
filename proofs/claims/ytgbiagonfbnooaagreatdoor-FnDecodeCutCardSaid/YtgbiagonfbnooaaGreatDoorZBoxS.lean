import Derived.Test.YtgbiagonfbnooaaGreatDoorZVecS
set_option linter.all false
set_option maxRecDepth 100000
set_option maxHeartbeats 8000000
open Go.Lib
namespace Go.Proofs.YtgbiagonfbnooaaGreatDoor
namespace M
theorem Hz(x y:Int):(if x<y then y else x)=max x y:=by split<;>omega
theorem HA(x y:Int):(if y<x then y else x)=min x y:=by split<;>omega
def E5(a b c d:Int):Bool:=AD a b&&AD c d&&decide (a<=c)&&decide (b<=d)
theorem MC{a b c d:Int}(h:AD a b=false):E5 a b c d=false:=by simp[E5,h]
theorem MD{a b c d:Int}(h:AD c d=false):E5 a b c d=false:=by simp[E5,h]
theorem MF{a b c d:Int}(h:¬ a<=c):E5 a b c d=false:=by
 unfold E5; rw[decide_eq_false h,Bool.and_false,Bool.false_and]
theorem MI{a b c d:Int}(h:AD a b=true)(g:AD c d=true)(k:a<=c):E5 a b c d=decide (b<=d):=by simp[E5,h,g,k]
theorem GY(a b c d:Int):E5 a b c d=true↔((-1000000<=a/\a<=1000000)/\(-1000000<=b/\b<=1000000))/\((-1000000<=c/\c<=1000000)/\(-1000000<=d/\d<=1000000))/\a<=c/\b<=d:=by
 simp only[E5,Bool.and_eq_true,Cj,decide_eq_true_eq];constructor
 . rintro⟨⟨⟨h1,h2⟩,h3⟩,h4⟩; exact⟨h1,h2,h3,h4⟩
 . rintro⟨h1,h2,h3,h4⟩; exact⟨⟨⟨h1,h2⟩,h3⟩,h4⟩
def F4(a b c d x y:Int):Bool:=Ax x a c&&Ax y b d
theorem Ns{a b c d x y:Int}(h:Ax x a c=false):F4 a b c d x y=false:=by simp[F4,h]
theorem MJ{a b c d x y:Int}(h:Ax x a c=true):F4 a b c d x y=Ax y b d:=by simp[F4,h]
def Jo(a b c d x y r:Int):Bool:=decide ((x-max a (min x c))*(x-max a (min x c))+(y-max b (min y d))*(y-max b (min y d))<=r*r)
theorem Jp{a c x:Int}(a1:-1000000<=a)(c2:c<=1000000)(ac:a<=c)(x1:-1000000<=x)(x2:x<=1000000):-2000000<=x-max a (min x c)/\x-max a (min x c)<=2000000:=by omega
end M
end Go.Proofs.YtgbiagonfbnooaaGreatDoor
namespace Go.Proofs.YtgbiagonfbnooaaGreatDoor
open Go.RowKit
open M
abbrev box(a b c d:Int):Value:=.agg #[.int .i64 a,.int .i64 b,.int .i64 c,.int .i64 d]
theorem Br(a b c d:Int)(w:World):Calls Tryz.prog 79 #[box a b c d] w fun e w'=>e=.returned (.bool (E5 a b c d))/\Below w.heap.size w w':=by
 cases h:AD a b
 . have E:=hid (MC (c:=c) (d:=d) h);go_enter Tryz.func79,Tryz.ntmps79;go_wp2_with fail;refine(AB _ _ _).mono ?_;rintro e w1 ⟨rfl,B1⟩;have C1:=B1;clear B1;obtain⟨hc1,hf1⟩:=AC C1;have H1:=hid (Aa (Ab (Ac w) _) C1);go_wp2;go_ret;exact⟨Al (by rw[E.out]),H1.out⟩
 cases g:AD c d
 . have E:=hid (MD (a:=a) (b:=b) g);go_enter Tryz.func79,Tryz.ntmps79;go_wp2_with fail;refine(AB _ _ _).mono ?_;rintro e w1 ⟨rfl,B1⟩;have C1:=B1;clear B1;obtain⟨hc1,hf1⟩:=AC C1;have H1:=hid (Aa (Ab (Ac w) _) C1);go_wp2_with fail;refine(AB _ _ _).mono ?_;rintro e w2 ⟨rfl,B2⟩;have C2:=Aa C1 B2;clear hc1 hf1 C1 B2;obtain⟨hc2,hf2⟩:=AC C2;have H2:=hid (Aa (Ab (Ac w) _) C2);go_wp2;go_ret;exact⟨Al (by rw[E.out]),H2.out⟩
 by_cases k:a<=c
 . have E:=hid (MI h g k);go_enter Tryz.func79,Tryz.ntmps79;go_wp2_with fail;refine(AB _ _ _).mono ?_;rintro e w1 ⟨rfl,B1⟩;have C1:=B1;clear B1;obtain⟨hc1,hf1⟩:=AC C1;have H1:=hid (Aa (Ab (Ac w) _) C1);go_wp2_with fail;refine(AB _ _ _).mono ?_;rintro e w2 ⟨rfl,B2⟩;have C2:=Aa C1 B2;clear hc1 hf1 C1 B2;obtain⟨hc2,hf2⟩:=AC C2;have H2:=hid (Aa (Ab (Ac w) _) C2);go_wp2;go_ret;exact⟨Al (by rw[E.out]),H2.out⟩
 . have E:=hid (MF (b:=b) (d:=d) k);have k2:decide (a<=c)=false:=decide_eq_false k;go_enter Tryz.func79,Tryz.ntmps79;go_wp2_with fail;refine(AB _ _ _).mono ?_;rintro e w1 ⟨rfl,B1⟩;have C1:=B1;clear B1;obtain⟨hc1,hf1⟩:=AC C1;have H1:=hid (Aa (Ab (Ac w) _) C1);go_wp2_with fail;refine(AB _ _ _).mono ?_;rintro e w2 ⟨rfl,B2⟩;have C2:=Aa C1 B2;clear hc1 hf1 C1 B2;obtain⟨hc2,hf2⟩:=AC C2;have H2:=hid (Aa (Ab (Ac w) _) C2);go_wp2;go_ret;exact⟨Al (by rw[E.out]),H2.out⟩
theorem Du(a b c d x y:Int)(w:World):Calls Tryz.prog 123 #[box a b c d,Ei x y] w fun e w'=>e=.returned (.bool (F4 a b c d x y))/\Below w.heap.size w w':=by
 cases h:Ax x a c
 . have E:=hid (Ns (b:=b) (d:=d) (y:=y) h);go_enter Tryz.func123,Tryz.ntmps123;go_wp2_with (go_at_call 41; refine(Ew _ _ _ _).mono ?_; rintro e w' ⟨rfl,rfl⟩);go_ret;exact⟨Al (by rw[E.out]),Ab (Ab (Ac w) _) _⟩
 . have E:=hid (MJ (b:=b) (d:=d) (y:=y) h);go_enter Tryz.func123,Tryz.ntmps123;go_wp2_with (go_at_call 41; refine(Ew _ _ _ _).mono ?_; rintro e w' ⟨rfl,rfl⟩);go_ret;exact⟨Al (by rw[E.out]),Ab (Ab (Ac w) _) _⟩
theorem Ek(a b c d x y:Int)(w:World):Calls Tryz.prog 119 #[box a b c d,Ei x y] w fun e w'=>e=.returned (Ei (max a (min x c)) (max b (min y d)))/\Below w.heap.size w w':=by
 have hmx:=Hz;have hmn:=HA;go_enter Tryz.func119,Tryz.ntmps119;go_wp2;exact bodyPost_ret (v:=Ei (max a (min x c)) (max b (min y d))) (by simp[results,Tryz.results119,go_sem]) rfl ⟨rfl,by repeat (first | exact Ac _ | refine Ab ?_ _ | refine Ar ?_ _ _ _ (by omega))⟩
theorem Ga(a b c d x y r:Int)(w:World)(hb:E5 a b c d=true)(hv:AD x y=true)(r0:0<=r)(r1:r<=1000000):Calls Tryz.prog 103 #[box a b c d,Ei x y,.int .i64 r] w fun e w'=>e=.returned (.bool (Jo a b c d x y r))/\Below w.heap.size w w':=by
 obtain⟨⟨⟨a1,a2⟩,b1,b2⟩,⟨⟨c1,c2⟩,d1,d2⟩,ac,bd⟩:=(GY a b c d).1 hb;obtain⟨⟨x1,x2⟩,y1,y2⟩:=(Cj x y).1 hv;have g1:=Jp a1 c2 ac x1 x2;have g2:=Jp b1 d2 bd y1 y2;have n1:-1000000<=max a (min x c)/\max a (min x c)<=1000000:=by omega
 have n2:-1000000<=max b (min y d)/\max b (min y d)<=1000000:=by omega
 have E:=hid (show Jo a b c d x y r=decide ((x-max a (min x c))*(x-max a (min x c))+(y-max b (min y d))*(y-max b (min y d))<=r*r) from rfl);have Q:=hid (fun W=>Ek a b c d x y W);clear hb hv;generalize max a (min x c)=X at *;generalize max b (min y d)=Y at *;have m1:=BS (a:=x-X) (b:=x-X) (by omega) (by omega) (by omega) (by omega);have m2:=BS (a:=y-Y) (b:=y-Y) (by omega) (by omega) (by omega) (by omega);have m3:=BS (a:=r) (b:=r) (by omega) (by omega) (by omega) (by omega);go_enter Tryz.func103,Tryz.ntmps103;go_wp2_with fail;refine(Q.out _).mono ?_;rintro e w1 ⟨rfl,B1⟩;obtain⟨hc1,hf1⟩:=AC B1
 have l0:w.heap.size<w1.heap.size:=by have:=B1.size; simp at this; omega
 have l1:w.heap.size+1<w1.heap.size:=by have:=B1.size; simp at this; omega
 have H1:=hid (Aa (Ab (Ab (Ac w) _) _) B1);clear B1 Q;go_wp2;go_ret;exact⟨Al (by rw[E.out]),Ab H1.out _⟩
end Go.Proofs.YtgbiagonfbnooaaGreatDoor
namespace Go.Proofs.YtgbiagonfbnooaaGreatDoor
namespace M
end M
end Go.Proofs.YtgbiagonfbnooaaGreatDoor
namespace Go.Proofs.YtgbiagonfbnooaaGreatDoor
namespace M
def Lq(h n:Int):Int:=(8191*h+n % 1000003+1) % 1000003
theorem GZ(h n:Int):0<=Lq h n/\Lq h n<1000003:=by unfold Lq; omega
theorem Lr(n:Int):(n.tmod 1000003+1000003).tmod 1000003=n % 1000003:=by
 have h1:-1000003<n.tmod 1000003:=Int.lt_tmod_of_pos n (by omega);rw[Int.tmod_eq_emod_of_nonneg (by omega)];have e:=@Int.tmod_eq_emod n 1000003;by_cases c:0<=n\/(1000003:Int) ∣ n
 . rw[if_pos c] at e;omega
 . rw[if_neg c] at e;omega
def Jk(h:Int)(xs:List Int):Int:=xs.foldl Lq h
theorem Jq{h:Int}(h0:0<=h)(h1:h<1000003)(xs:List Int):0<=Jk h xs/\Jk h xs<1000003:=by
 unfold Jk
 induction xs generalizing h with
 | nil=>exact⟨h0,h1⟩
 | cons x xs ih=>exact ih (GZ h x).1 (GZ h x).2
theorem IC{xs:List Int}{k:Nat}(h:k<xs.length):xs.take (k+1)=xs.take k++[xs.getD k 0]:=by
 rw[List.take_succ_eq_append_getElem h,List.getD_eq_getElem?_getD,List.getElem?_eq_getElem h];rfl
theorem Jr{h:Int}{xs:List Int}{k:Nat}(hk:k<xs.length):Jk h (xs.take (k+1))=Lq (Jk h (xs.take k)) (xs.getD k 0):=by
 unfold Jk;rw[IC hk,List.foldl_append];rfl
def NV(xs:List Int):Bool:=xs.all okB&&decide (xs.length<=200)
def hI(xs:List Int):Int:=if NV xs then Jk 17 xs else -1
def tg(k:Int)(xs:List Int):Int:=Lq (Jk (Lq 17 k) xs) k
end M
end Go.Proofs.YtgbiagonfbnooaaGreatDoor
namespace Go.Proofs.YtgbiagonfbnooaaGreatDoor
open Go.RowKit
open M
def Ints(w:World)(A:Option Addr)(n:Nat)(xs:List Int):Prop :=
 xs.length=n/\(0<n->∃ b off,A=some ⟨b,off,none⟩/\b<w.heap.size/\∀ k,k<n->w.cell? ⟨b,off+k,none⟩=some (.int .i64 (xs.getD k 0)))
theorem Ints.step{w w':World}{A:Option Addr}{n:Nat}{xs:List Int}(h:Ints w A n xs)(B:Below w.heap.size w w'):Ints w' A n xs :=
 ⟨h.1,fun hn=>by
  obtain⟨b,off,e,hb,hc⟩:=h.2 hn;exact⟨b,off,e,Nat.lt_of_lt_of_le hb B.size,fun k hk=>(B.cell (p:=⟨b,off+k,none⟩) hb).trans (hc k hk)⟩⟩
theorem Ints.alloc{w:World}{A:Option Addr}{n:Nat}{xs:List Int}(h:Ints w A n xs)(o:Obj):Ints (w.alloc o) A n xs:=h.step (Ab (Ac w) o)
theorem Em(h n:Int)(w:World)(h0:0<=h)(h1:h<1000003):Calls Tryz.prog 89 #[.int .i64 h,.int .i64 n] w fun e w'=>e=.returned (.int .i64 (Lq h n))/\w=w':=by
 have t1:-1000003<n.tmod 1000003:=Int.lt_tmod_of_pos n (by omega);have t2:n.tmod 1000003<1000003:=Int.tmod_lt_of_pos n (by omega);have E:=hid (show Lq h n=(8191*h+(n.tmod 1000003+1000003) % 1000003+1) % 1000003 from by
  rw[<- Int.tmod_eq_emod_of_nonneg (a:=n.tmod 1000003+1000003) (by omega),Lr]; rfl)
 go_enter Tryz.func89,Tryz.ntmps89;go_wp2;go_ret;exact⟨AN (by rw[E.out]; omega),rfl⟩
theorem C9(h:Int)(A:Option Addr)(n cap:Nat)(xs:List Int)(w:World)(h0:0<=h)(h1:h<1000003)(I:Ints w A n xs)(hn:n<=281474976710656) :
 Calls Tryz.prog 90 #[.int .i64 h,.slice A n cap] w fun e w'=>e=.returned (.int .i64 (Jk h xs))/\w=w':=by
 obtain⟨hl,hc⟩:=I;have hl:=hid hl;have hc:=hid hc;go_enter Tryz.func90,Tryz.ntmps90;go_wp2
 go_loop [0,5] (fun t i=>∃ k:Nat,k<=n/\i=.int .i64 k/\t=.int .i64 (Jk h (xs.take k))) (fun _ i=>n-(RowKit.intOf i).toNat)
 case atStart=>exact⟨0,Nat.zero_le _,rfl,rfl⟩
 case round =>
  obtain⟨k,hk,rfl,rfl⟩:=hrel;obtain⟨b0,b1⟩:=Jq h0 h1 (xs.take k);by_cases hlt:k<n
  . obtain⟨b,off,rfl,hb,hcell⟩:=hc.out (by omega);have hck:=hcell k hlt;have HS:=hid (Jr (h:=h) (xs:=xs) (k:=k) (by have:=hl.out; omega));clear hcell;generalize xs.getD k 0=z at *;go_wp2_with fail;refine(Em _ _ _ b0 b1).mono ?_;rintro e w' ⟨rfl,rfl⟩;go_wp2
    go_round
    case rel=>exact⟨k+1,by omega,by go_num,by rw[HS.out]⟩
    case measure=>simp[RowKit.intOf]; omega
  . go_wp2;go_ret;exact⟨AN (by rw[List.take_of_length_le (by have:=hl.out; omega)]),rfl⟩
theorem Js(k:Int)(A:Option Addr)(n cap:Nat)(xs:List Int)(w:World)(I:Ints w A n xs)(hn:n<=281474976710656) :
 Calls Tryz.prog 59 #[.int .i64 k,.slice A n cap] w fun e w'=>e=.returned (.int .i64 (tg k xs))/\w=w':=by
 have I:=hid I;obtain⟨a0,a1⟩:=GZ 17 k;obtain⟨b0,b1⟩:=Jq a0 a1 xs;go_enter Tryz.func59,Tryz.ntmps59;go_wp2_with fail;refine(Em _ _ _ (by omega) (by omega)).mono ?_;rintro e w' ⟨rfl,rfl⟩;go_wp2_with fail;refine(C9 _ A n cap xs _ a0 a1 I.out hn).mono ?_;rintro e w' ⟨rfl,rfl⟩;go_wp2_with fail;refine(Em _ _ _ b0 b1).mono ?_;rintro e w' ⟨rfl,rfl⟩;go_wp2;go_ret;exact⟨rfl,rfl⟩
theorem Ak(n lo hi:Int)(b:Bool)(w:World)(h:Ax n lo hi=b):Calls Tryz.prog 41 #[.int .i64 n,.int .i64 lo,.int .i64 hi] w fun e w'=>e=.returned (.bool b)/\w=w':=by
 subst h;exact Ew n lo hi w
end Go.Proofs.YtgbiagonfbnooaaGreatDoor
namespace Go.Proofs.YtgbiagonfbnooaaGreatDoor
namespace M
end M
end Go.Proofs.YtgbiagonfbnooaaGreatDoor
namespace Go.Proofs.YtgbiagonfbnooaaGreatDoor
open Go.RowKit
open M
open Go.RowKit
open M
open Go.RowKit
open M
end Go.Proofs.YtgbiagonfbnooaaGreatDoor
