import Derived.Test.YtflmmdljkhdjlaaZVecS
set_option linter.all false
set_option maxRecDepth 100000
set_option maxHeartbeats 8000000
open Go.Lib
namespace Go.Proofs.Ytflmmdljkhdjlaa
namespace M
def Jn(h n:Int):Int:=(8191*h+n % 1000003+1) % 1000003
theorem Gf(h n:Int):0<=Jn h n/\Jn h n<1000003:=by unfold Jn; omega
theorem Jo(n:Int):(n.tmod 1000003+1000003).tmod 1000003=n % 1000003:=by
 have h1:-1000003<n.tmod 1000003:=Int.lt_tmod_of_pos n (by omega);rw[Int.tmod_eq_emod_of_nonneg (by omega)];have e:=@Int.tmod_eq_emod n 1000003;by_cases c:0<=n\/(1000003:Int) ∣ n
 . rw[if_pos c] at e;omega
 . rw[if_neg c] at e;omega
def HE(h:Int)(xs:List Int):Int:=xs.foldl Jn h
theorem HK{h:Int}(h0:0<=h)(h1:h<1000003)(xs:List Int):0<=HE h xs/\HE h xs<1000003:=by
 unfold HE
 induction xs generalizing h with
 | nil=>exact⟨h0,h1⟩
 | cons x xs ih=>exact ih (Gf h x).1 (Gf h x).2
theorem Hd{xs:List Int}{k:Nat}(h:k<xs.length):xs.take (k+1)=xs.take k++[xs.getD k 0]:=by
 rw[List.take_succ_eq_append_getElem h,List.getD_eq_getElem?_getD,List.getElem?_eq_getElem h];rfl
theorem HM{h:Int}{xs:List Int}{k:Nat}(hk:k<xs.length):HE h (xs.take (k+1))=Jn (HE h (xs.take k)) (xs.getD k 0):=by
 unfold HE;rw[Hd hk,List.foldl_append];rfl
def Lg(xs:List Int):Bool:=xs.all okB&&decide (xs.length<=200)
def hI(xs:List Int):Int:=if Lg xs then HE 17 xs else -1
def tg(k:Int)(xs:List Int):Int:=Jn (HE (Jn 17 k) xs) k
end M
end Go.Proofs.Ytflmmdljkhdjlaa
namespace Go.Proofs.Ytflmmdljkhdjlaa
open Go.RowKit
open M
def Ints(w:World)(A:Option Addr)(n:Nat)(xs:List Int):Prop :=
 xs.length=n/\(0<n->∃ b off,A=some ⟨b,off,none⟩/\b<w.heap.size/\∀ k,k<n->w.cell? ⟨b,off+k,none⟩=some (.int .i64 (xs.getD k 0)))
theorem Ints.step{w w':World}{A:Option Addr}{n:Nat}{xs:List Int}(h:Ints w A n xs)(B:Below w.heap.size w w'):Ints w' A n xs :=
 ⟨h.1,fun hn=>by
  obtain⟨b,off,e,hb,hc⟩:=h.2 hn;exact⟨b,off,e,Nat.lt_of_lt_of_le hb B.size,fun k hk=>(B.cell (p:=⟨b,off+k,none⟩) hb).trans (hc k hk)⟩⟩
theorem Ints.alloc{w:World}{A:Option Addr}{n:Nat}{xs:List Int}(h:Ints w A n xs)(o:Obj):Ints (w.alloc o) A n xs:=h.step (Ab (Ac w) o)
theorem DO(h n:Int)(w:World)(h0:0<=h)(h1:h<1000003):Calls Try.prog 106 #[.int .i64 h,.int .i64 n] w fun e w'=>e=.returned (.int .i64 (Jn h n))/\w=w':=by
 have t1:-1000003<n.tmod 1000003:=Int.lt_tmod_of_pos n (by omega);have t2:n.tmod 1000003<1000003:=Int.tmod_lt_of_pos n (by omega);have E:=hid (show Jn h n=(8191*h+(n.tmod 1000003+1000003) % 1000003+1) % 1000003 from by
  rw[<- Int.tmod_eq_emod_of_nonneg (a:=n.tmod 1000003+1000003) (by omega),Jo]; rfl)
 go_enter Try.func106,Try.ntmps106;go_wp2;go_ret;exact⟨AY (by rw[E.out]; omega),rfl⟩
theorem CK(h:Int)(A:Option Addr)(n cap:Nat)(xs:List Int)(w:World)(h0:0<=h)(h1:h<1000003)(I:Ints w A n xs)(hn:n<=281474976710656) :
 Calls Try.prog 107 #[.int .i64 h,.slice A n cap] w fun e w'=>e=.returned (.int .i64 (HE h xs))/\w=w':=by
 obtain⟨hl,hc⟩:=I;have hl:=hid hl;have hc:=hid hc;go_enter Try.func107,Try.ntmps107;go_wp2
 go_loop [0,5] (fun t i=>∃ k:Nat,k<=n/\i=.int .i64 k/\t=.int .i64 (HE h (xs.take k))) (fun _ i=>n-(intOf i).toNat)
 case atStart=>exact⟨0,Nat.zero_le _,rfl,rfl⟩
 case round =>
  obtain⟨k,hk,rfl,rfl⟩:=hrel;obtain⟨b0,b1⟩:=HK h0 h1 (xs.take k);by_cases hlt:k<n
  . obtain⟨b,off,rfl,hb,hcell⟩:=hc.out (by omega);have hck:=hcell k hlt;have HS:=hid (HM (h:=h) (xs:=xs) (k:=k) (by have:=hl.out; omega));clear hcell;generalize xs.getD k 0=z at *;go_wp2_with fail;refine(DO _ _ _ b0 b1).mono ?_;rintro e w' ⟨rfl,rfl⟩;go_wp2
    go_round
    case rel=>exact⟨k+1,by omega,by go_num,by rw[HS.out]⟩
    case measure=>simp[intOf]; omega
  . go_wp2;go_ret;exact⟨AY (by rw[List.take_of_length_le (by have:=hl.out; omega)]),rfl⟩
theorem HP(k:Int)(A:Option Addr)(n cap:Nat)(xs:List Int)(w:World)(I:Ints w A n xs)(hn:n<=281474976710656) :
 Calls Try.prog 92 #[.int .i64 k,.slice A n cap] w fun e w'=>e=.returned (.int .i64 (tg k xs))/\w=w':=by
 have I:=hid I;obtain⟨a0,a1⟩:=Gf 17 k;obtain⟨b0,b1⟩:=HK a0 a1 xs;go_enter Try.func92,Try.ntmps92;go_wp2_with fail;refine(DO _ _ _ (by omega) (by omega)).mono ?_;rintro e w' ⟨rfl,rfl⟩;go_wp2_with fail;refine(CK _ A n cap xs _ a0 a1 I.out hn).mono ?_;rintro e w' ⟨rfl,rfl⟩;go_wp2_with fail;refine(DO _ _ _ b0 b1).mono ?_;rintro e w' ⟨rfl,rfl⟩;go_wp2;go_ret;exact⟨rfl,rfl⟩
theorem Aj(n lo hi:Int)(b:Bool)(w:World)(h:Aw n lo hi=b):Calls Try.prog 64 #[.int .i64 n,.int .i64 lo,.int .i64 hi] w fun e w'=>e=.returned (.bool b)/\w=w':=by
 subst h;exact Ee n lo hi w
end Go.Proofs.Ytflmmdljkhdjlaa
namespace Go.Proofs.Ytflmmdljkhdjlaa
namespace M
end M
end Go.Proofs.Ytflmmdljkhdjlaa
namespace Go.Proofs.Ytflmmdljkhdjlaa
open Go.RowKit
open M
open Go.RowKit
open M
open Go.RowKit
open M
end Go.Proofs.Ytflmmdljkhdjlaa
