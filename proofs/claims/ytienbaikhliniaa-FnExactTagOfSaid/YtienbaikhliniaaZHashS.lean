import Derived.Test.YtienbaikhliniaaZVecS
set_option linter.all false
set_option maxRecDepth 100000
set_option maxHeartbeats 8000000
open Go.Lib
namespace Go.Proofs.Ytienbaikhliniaa
namespace M
def AG(h n:Int):Int:=(8191*h+n % 1000003+1) % 1000003
theorem Ah(h n:Int):0<=AG h n/\AG h n<1000003:=by unfold AG; omega
theorem B7(n:Int):(n.tmod 1000003+1000003).tmod 1000003=n % 1000003:=by
 have h1:-1000003<n.tmod 1000003:=Int.lt_tmod_of_pos n (by omega);rw[Int.tmod_eq_emod_of_nonneg (by omega)];have e:=@Int.tmod_eq_emod n 1000003;by_cases c:0<=n\/(1000003:Int) ∣ n
 . rw[if_pos c] at e;omega
 . rw[if_neg c] at e;omega
def AU(h:Int)(xs:List Int):Int:=xs.foldl AG h
theorem Ao{h:Int}(h0:0<=h)(h1:h<1000003)(xs:List Int):0<=AU h xs/\AU h xs<1000003:=by
 unfold AU
 induction xs generalizing h with
 | nil=>exact⟨h0,h1⟩
 | cons x xs ih=>exact ih (Ah h x).1 (Ah h x).2
theorem Aw{xs:List Int}{k:Nat}(h:k<xs.length):xs.take (k+1)=xs.take k++[xs.getD k 0]:=by
 rw[List.take_succ_eq_append_getElem h,List.getD_eq_getElem?_getD,List.getElem?_eq_getElem h];rfl
theorem A2{h:Int}{xs:List Int}{k:Nat}(hk:k<xs.length):AU h (xs.take (k+1))=AG (AU h (xs.take k)) (xs.getD k 0):=by
 unfold AU;rw[Aw hk,List.foldl_append];rfl
def An(xs:List Int):Bool:=xs.all okB&&decide (xs.length<=200)
theorem A3{xs:List Int}{k:Nat}(hk:k<xs.length):(xs.take (k+1)).all okB=((xs.take k).all okB&&okB (xs.getD k 0)):=by
 rw[Aw hk,List.all_append];simp
theorem Bm{xs:List Int}{k:Nat}(hk:k<xs.length)(h:okB (xs.getD k 0)=false):An xs=false:=by
 have:xs.all okB=false:=by
  rw[List.all_eq_false];refine⟨xs.getD k 0,?_,by rw[h]; simp⟩;rw[List.getD_eq_getElem?_getD,List.getElem?_eq_getElem hk];exact List.getElem_mem hk
 simp[An,this]
theorem Bn{xs:List Int}(h:xs.all okB=true):An xs=decide (xs.length<=200):=by simp[An,h]
def tg(k:Int)(xs:List Int):Int:=AG (AU (AG 17 k) xs) k
def tI(k:Int)(xs:List Int):Int:=if AN k 1 9999&&An xs then tg k xs else -1
theorem AH{k:Int}{xs:List Int}(h:AN k 1 9999=false):tI k xs=-1:=by simp[tI,h]
theorem Bb{k:Int}{xs:List Int}(h:An xs=false):tI k xs=-1:=by simp[tI,h]
theorem Ax{k:Int}{xs:List Int}(h:AN k 1 9999=true)(g:An xs=true):tI k xs=tg k xs:=by simp[tI,h,g]
theorem Cx(k:Int)(xs:List Int):0<=tg k xs/\tg k xs<1000003:=Ah _ _
theorem A4(k:Int)(xs:List Int):-1<=tI k xs/\tI k xs<1000003:=by
 unfold tI;have:=Cx k xs;split<;>omega
def tC(k:Int)(xs:List Int)(t:Int):Bool:=decide (0<=t)&&decide (tI k xs=t)
theorem BE{k:Int}{xs:List Int}{t:Int}(h:t<0):tC k xs t=false:=by
 have:¬ 0<=t:=by omega
 simp[tC,this]
theorem Bc{k:Int}{xs:List Int}{t:Int}(h:0<=t):tC k xs t=decide (tI k xs=t):=by simp[tC,h]
end M
end Go.Proofs.Ytienbaikhliniaa
namespace Go.Proofs.Ytienbaikhliniaa
open Go.RowKit
open M
def Ints(w:World)(A:Option Addr)(n:Nat)(xs:List Int):Prop :=
 xs.length=n/\(0<n->∃ b off,A=some ⟨b,off,none⟩/\b<w.heap.size/\∀ k,k<n->w.cell? ⟨b,off+k,none⟩=some (.int .i64 (xs.getD k 0)))
theorem Ints.step{w w':World}{A:Option Addr}{n:Nat}{xs:List Int}(h:Ints w A n xs)(B:Below w.heap.size w w'):Ints w' A n xs :=
 ⟨h.1,fun hn=>by
  obtain⟨b,off,e,hb,hc⟩:=h.2 hn;exact⟨b,off,e,Nat.lt_of_lt_of_le hb B.size,fun k hk=>(B.cell (p:=⟨b,off+k,none⟩) hb).trans (hc k hk)⟩⟩
theorem Ints.alloc{w:World}{A:Option Addr}{n:Nat}{xs:List Int}(h:Ints w A n xs)(o:Obj):Ints (w.alloc o) A n xs:=h.step (Aa (Am w) o)
theorem Bo(n:Int)(b:Bool)(w:World)(h:okB n=b):Calls Try.prog 30 #[.int .i64 n] w fun e w'=>e=.returned (.bool b)/\w=w':=by
 subst h;exact Cu n w
theorem AJ(h n:Int)(w:World)(h0:0<=h)(h1:h<1000003):Calls Try.prog 31 #[.int .i64 h,.int .i64 n] w fun e w'=>e=.returned (.int .i64 (AG h n))/\w=w':=by
 have t1:-1000003<n.tmod 1000003:=Int.lt_tmod_of_pos n (by omega);have t2:n.tmod 1000003<1000003:=Int.tmod_lt_of_pos n (by omega);have E:=hid (show AG h n=(8191*h+(n.tmod 1000003+1000003) % 1000003+1) % 1000003 from by
  rw[<- Int.tmod_eq_emod_of_nonneg (a:=n.tmod 1000003+1000003) (by omega),B7]; rfl)
 go_enter Try.func31,Try.ntmps31;go_wp2;go_ret;exact⟨Al (by rw[E.out]; omega),rfl⟩
theorem B8(h:Int)(A:Option Addr)(n cap:Nat)(xs:List Int)(w:World)(h0:0<=h)(h1:h<1000003)(I:Ints w A n xs)(hn:n<=281474976710656) :
 Calls Try.prog 32 #[.int .i64 h,.slice A n cap] w fun e w'=>e=.returned (.int .i64 (AU h xs))/\w=w':=by
 obtain⟨hl,hc⟩:=I;have hl:=hid hl;have hc:=hid hc;go_enter Try.func32,Try.ntmps32;go_wp2
 go_loop [0,5] (fun t i=>∃ k:Nat,k<=n/\i=.int .i64 k/\t=.int .i64 (AU h (xs.take k))) (fun _ i=>n-(intOf i).toNat)
 case atStart=>exact⟨0,Nat.zero_le _,rfl,rfl⟩
 case round =>
  obtain⟨k,hk,rfl,rfl⟩:=hrel;obtain⟨b0,b1⟩:=Ao h0 h1 (xs.take k);by_cases hlt:k<n
  . obtain⟨b,off,rfl,hb,hcell⟩:=hc.out (by omega);have hck:=hcell k hlt;have HS:=hid (A2 (h:=h) (xs:=xs) (k:=k) (by have:=hl.out; omega));clear hcell;generalize xs.getD k 0=z at *;go_wp2_with fail;refine(AJ _ _ _ b0 b1).mono ?_;rintro e w' ⟨rfl,rfl⟩;go_wp2
    go_round
    case rel=>exact⟨k+1,by omega,by go_num,by rw[HS.out]⟩
    case measure=>simp[intOf]; omega
  . go_wp2;go_ret;exact⟨Al (by rw[List.take_of_length_le (by have:=hl.out; omega)]),rfl⟩
theorem Bp(A:Option Addr)(n cap:Nat)(xs:List Int)(w:World)(I:Ints w A n xs)(hn:n<=281474976710656) :
 Calls Try.prog 23 #[.slice A n cap] w fun e w'=>e=.returned (.bool (An xs))/\w=w':=by
 obtain⟨hl,hc⟩:=I;have hl:=hid hl;have hc:=hid hc;go_enter Try.func23,Try.ntmps23;go_wp2
 go_loop [3] (fun i=>∃ k:Nat,k<=n/\i=.int .i64 k/\(xs.take k).all okB=true) (fun i=>n-(intOf i).toNat)
 case atStart=>exact⟨0,Nat.zero_le _,rfl,rfl⟩
 case round =>
  obtain⟨k,hk,rfl,ha⟩:=hrel;have ha:=hid ha;by_cases hlt:k<n
  . obtain⟨b,off,rfl,hb,hcell⟩:=hc.out (by omega);have hck:=hcell k hlt;have hkl:k<xs.length:=by have:=hl.out; omega
    have HS:=A3 hkl;have HN:=Bm hkl;rw[ha.out,Bool.true_and] at HS;clear hcell hkl;generalize xs.getD k 0=z at *;cases hz:okB z
    . have E:=hid (HN hz);clear HN HS;have hz:=hid hz;go_wp2_with fail;refine(Bo z false _ hz.out).mono ?_;rintro e w' ⟨rfl,rfl⟩;go_wp2;go_ret;exact⟨Af (by rw[E.out]),rfl⟩
    . have E:=hid (HS.trans hz);clear HN HS;have hz:=hid hz;go_wp2_with fail;refine(Bo z true _ hz.out).mono ?_;rintro e w' ⟨rfl,rfl⟩;go_wp2
      go_round
      case rel=>exact⟨k+1,by omega,by go_num,E.out⟩
      case measure=>simp[intOf]; omega
  . have e:(xs.take k)=xs:=List.take_of_length_le (by have:=hl.out; omega);have E:=hid (Bn (xs:=xs) (by have t:=ha.out; rw[e] at t; exact t));clear e;go_wp2;go_ret;exact⟨Af (by rw[E.out]; simp only[decide_eq_decide]; have:=hl.out; omega),rfl⟩
theorem Co(k:Int)(A:Option Addr)(n cap:Nat)(xs:List Int)(w:World)(I:Ints w A n xs)(hn:n<=281474976710656) :
 Calls Try.prog 24 #[.int .i64 k,.slice A n cap] w fun e w'=>e=.returned (.int .i64 (tg k xs))/\w=w':=by
 have I:=hid I;obtain⟨a0,a1⟩:=Ah 17 k;obtain⟨b0,b1⟩:=Ao a0 a1 xs;go_enter Try.func24,Try.ntmps24;go_wp2_with fail;refine(AJ _ _ _ (by omega) (by omega)).mono ?_;rintro e w' ⟨rfl,rfl⟩;go_wp2_with fail;refine(B8 _ A n cap xs _ a0 a1 I.out hn).mono ?_;rintro e w' ⟨rfl,rfl⟩;go_wp2_with fail;refine(AJ _ _ _ b0 b1).mono ?_;rintro e w' ⟨rfl,rfl⟩;go_wp2;go_ret;exact⟨rfl,rfl⟩
theorem AV(n lo hi:Int)(b:Bool)(w:World)(h:AN n lo hi=b):Calls Try.prog 22 #[.int .i64 n,.int .i64 lo,.int .i64 hi] w fun e w'=>e=.returned (.bool b)/\w=w':=by
 subst h;exact BL n lo hi w
theorem Aq(k:Int)(A:Option Addr)(n cap:Nat)(xs:List Int)(w:World)(I:Ints w A n xs)(hn:n<=281474976710656) :
 Calls Try.prog 11 #[.int .i64 k,.slice A n cap] w fun e w'=>e=.returned (.int .i64 (tI k xs))/\w=w':=by
 have I:=hid I;cases g:AN k 1 9999
 . have E:=hid (AH (xs:=xs) g);have g:=hid g;go_enter Try.func11,Try.ntmps11;go_wp2_with fail;refine(AV _ _ _ _ _ g.out).mono ?_;rintro e w' ⟨rfl,rfl⟩;go_wp2;go_ret;exact⟨Al (by rw[E.out]),rfl⟩
 cases h:An xs
 . have E:=hid (Bb (k:=k) h);have g:=hid g;have C:=hid (fun W J=>Bp A n cap xs W J hn);rw[h] at C;go_enter Try.func11,Try.ntmps11;go_wp2_with fail;refine(AV _ _ _ _ _ g.out).mono ?_;rintro e w' ⟨rfl,rfl⟩;go_wp2_with fail;refine(C.out _ I.out).mono ?_;rintro e w' ⟨rfl,rfl⟩;go_wp2;go_ret;exact⟨Al (by rw[E.out]),rfl⟩
 . have E:=hid (Ax g h);have g:=hid g;have C:=hid (fun W J=>Bp A n cap xs W J hn);rw[h] at C;go_enter Try.func11,Try.ntmps11;go_wp2_with fail;refine(AV _ _ _ _ _ g.out).mono ?_;rintro e w' ⟨rfl,rfl⟩;go_wp2_with fail;refine(C.out _ I.out).mono ?_;rintro e w' ⟨rfl,rfl⟩;go_wp2_with fail;refine(Co k A n cap xs _ I.out hn).mono ?_;rintro e w' ⟨rfl,rfl⟩;go_wp2;go_ret;exact⟨Al (by rw[E.out]),rfl⟩
theorem AW(k:Int)(A:Option Addr)(n cap:Nat)(xs:List Int)(t:Int)(w:World)(I:Ints w A n xs)(hn:n<=281474976710656) :
 Calls Try.prog 15 #[.int .i64 k,.slice A n cap,.int .i64 t] w fun e w'=>e=.returned (.bool (tC k xs t))/\w=w':=by
 have I:=hid I;by_cases t0:0<=t
 . have E:=hid (Bc (k:=k) (xs:=xs) t0);go_enter Try.func15,Try.ntmps15;go_wp2_with fail;refine(Aq k A n cap xs _ I.out hn).mono ?_;rintro e w' ⟨rfl,rfl⟩;go_wp2;go_ret;exact⟨Af (by rw[E.out]; first | rfl | simp | (by_cases q:tI k xs=t<;>simp[q])),rfl⟩
 . have E:=hid (BE (k:=k) (xs:=xs) (t:=t) (by omega));go_enter Try.func15,Try.ntmps15;go_wp2;go_ret;exact⟨Af (by rw[E.out]),rfl⟩
end Go.Proofs.Ytienbaikhliniaa
namespace Go.Proofs.Ytienbaikhliniaa
namespace M
theorem Bq{h g n:Int}(h0:0<=h)(h1:h<1000003)(g0:0<=g)(g1:g<1000003)(e:AG h n=AG g n):h=g:=by unfold AG at e; omega
theorem B9{h n d:Int}(d0:1<=d)(d1:d<=1000002):AG h (n+d)≠AG h n:=by unfold AG; omega
theorem Ca{h g:Int}(h0:0<=h)(h1:h<1000003)(g0:0<=g)(g1:g<1000003)(xs:List Int)(e:AU h xs=AU g xs):h=g:=by
 unfold AU at e
 induction xs generalizing h g with
 | nil=>exact e
 | cons x xs ih=>exact Bq h0 h1 g0 g1 (ih (Ah h x).1 (Ah h x).2 (Ah g x).1 (Ah g x).2 e)
theorem Cb{h d:Int}(h0:0<=h)(h1:h<1000003)(d0:1<=d)(d1:d<=1000002)(xs:List Int)(k:Nat)(hk:k<xs.length):AU h (xs.set k (xs.getD k 0+d))≠AU h xs:=by
 induction xs generalizing h k with
 | nil=>simp at hk
 | cons x xs ih =>
  cases k with
  | zero =>
   intro e;exact B9 (h:=h) (n:=x) d0 d1 (Ca (Ah _ _).1 (Ah _ _).2 (Ah _ _).1 (Ah _ _).2 xs e)
  | succ k=>exact ih (Ah h x).1 (Ah h x).2 k (by simpa using hk)
theorem Cc(xs:List Int):An xs=true↔(∀ x∈xs,okB x=true)/\xs.length<=200:=by simp[An,List.all_eq_true]
theorem Cm{xs:List Int}(h:An xs=true){k:Nat}(hk:k<xs.length):-2000000000<=xs.getD k 0/\xs.getD k 0<=2000000000:=by
 have:=((Cc xs).1 h).1 (xs.getD k 0) (by
  rw[List.getD_eq_getElem?_getD,List.getElem?_eq_getElem hk];exact List.getElem_mem hk)
 exact(Bg _).1 this
theorem AX{k:Int}{xs:List Int}(h:0<=tI k xs):AN k 1 9999=true/\An xs=true:=by
 cases g:AN k 1 9999
 . rw[AH g] at h; omega
 . cases q:An xs
   . rw[Bb q] at h; omega
   . exact⟨rfl,rfl⟩
theorem Cd{k:Int}{xs:List Int}(h:0<=tI k xs):tC k xs (tI k xs)=true:=by rw[Bc h]; simp
theorem A6{k:Int}{xs:List Int}{t:Int}(h:tI k xs≠t):tC k xs t=false:=by simp[tC,h]
theorem Bd{q:Int}{xs:List Int}(h:0<=tI q xs){k:Nat}(hk:k<xs.length){d:Int}(d0:1<=d)(d1:d<=1000):tC q (xs.set k (xs.getD k 0+d)) (tI q xs)=false:=by
 obtain⟨g,l⟩:=AX h;refine A6 fun e=>?_;rw[<- e] at h;obtain⟨_,l'⟩:=AX h;rw[Ax g l,Ax g l'] at e;have b:=Cm l hk;have s:=Ah 17 q;exact Cb s.1 s.2 d0 (by omega) xs k hk (Bq (Ao s.1 s.2 _).1 (Ao s.1 s.2 _).2 (Ao s.1 s.2 _).1 (Ao s.1 s.2 _).2 e)
theorem BF{k:Int}{xs:List Int}{j:Int}(h:0<=tI k xs)(j0:0<=j)(j1:j<1000):tC k xs ((tI k xs+1+j) % 1000003)=false:=by
 have:=A4 k xs;exact A6 (by omega)
theorem BG(xs:List Int):tI 0 xs=-1:=AH (by decide)
theorem Ce(xs:List Int):tI 10000 xs=-1:=AH (by decide)
theorem Cf(k:Int)(xs:List Int):tC k xs (-1)=false:=BE (by omega)
theorem Br:An []=true:=by decide
theorem Cg{a b:Int}(ha:AN a 1 9999=true)(hb:AN b 1 9999=true)(h:a≠b):tI a []≠tI b []:=by
 rw[Ax ha Br,Ax hb Br];have ha:1<=a/\a<=9999:=by simpa[AN] using ha
 have hb:1<=b/\b<=9999:=by simpa[AN] using hb
 show AG (AG 17 a) a≠AG (AG 17 b) b
 unfold AG;omega
end M
end Go.Proofs.Ytienbaikhliniaa
