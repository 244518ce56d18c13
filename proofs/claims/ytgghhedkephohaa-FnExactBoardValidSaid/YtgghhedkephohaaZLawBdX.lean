import Derived.Test.YtgghhedkephohaaZEnMark
set_option linter.all false
set_option maxRecDepth 100000
set_option maxHeartbeats 8000000
open Go.Lib
namespace Go.Proofs.Ytgghhedkephohaa
open Go.RowKit
open M
theorem Bq(A:Option Addr)(n c:Nat)(xs:List En)(w:World)(Y:Ents w A n xs)(hn0:n<=9223372036854775807) :
 Calls Try.prog 14 #[.slice A n c] w fun e w'=>e=.returned (.bool true)/\Below w.heap.size w w':=by
 have C0:=fun W=>B4 A n c 1048576 W hn0 (by omega) (by omega);by_cases hbig:1048576<n
 . rw[if_pos (by omega)] at C0;replace C0:=hid C0;go_enter Try.func14,Try.ntmps14;go_wp2_with fail;refine(C0.out _).mono ?_;rintro e wn ⟨rfl,rfl⟩;go_wp2;go_ret;exact⟨rfl,Below.refl _ _⟩
 rw[if_neg (by omega)] at C0;replace C0:=hid C0;have hn:n<=1048576:=by omega
 have hz0:decide ((1048576:Int)-(n:Int)<0)=false:=decide_eq_false (by omega);obtain⟨r,hr⟩:∃ r,CL xs=r:=⟨_,rfl⟩;have H:=hid (Ac w);replace Y:=hid Y;go_enter Try.func14,Try.ntmps14;go_wp2_with fail;refine(C0.out _).mono ?_;rintro e wn ⟨rfl,rfl⟩;cases r
 all_goals
  go_wp2_with fail;refine(A3 A n c xs _ Y.out hn).mono ?_;rintro e w1 ⟨uT1,rfl,T1,_,_,_,B⟩;replace Y:=hid (Y.out.step B);replace T1:=hid T1;replace H:=hid (Aa H.out B);clear B;go_wp2_with fail;refine(Dz _ n n xs _ hr _ T1.out (by omega)).mono ?_;rintro e w2 ⟨rfl,B⟩;replace Y:=hid (Y.out.step B);replace T1:=hid (T1.out.step B);replace H:=hid (Aa H.out B);clear B;go_wp2_with fail;refine(A3 A n c xs _ Y.out hn).mono ?_;rintro e w3 ⟨uX3,rfl,X3,_,_,_,B⟩;replace Y:=hid (Y.out.step B);replace T1:=hid (T1.out.step B);replace X3:=hid X3;replace H:=hid (Aa H.out B);clear B;go_wp2_with fail
  refine(E2 _ n n xs _ hr _ X3.out (by omega)).mono ?_;rintro e w4 ⟨rfl,B⟩;replace Y:=hid (Y.out.step B);replace T1:=hid (T1.out.step B);replace X3:=hid (X3.out.step B);replace H:=hid (Aa H.out B);clear B;go_wp2_with fail;refine(A3 A n c xs _ Y.out hn).mono ?_;rintro e w5 ⟨uT6,rfl,T6,_,_,_,B⟩;replace Y:=hid (Y.out.step B);replace T1:=hid (T1.out.step B);replace X3:=hid (X3.out.step B);replace T6:=hid T6;replace H:=hid (Aa H.out B);clear B;go_wp2_with fail;refine(A8 _ _ n n n xs _ X3.out T6.out hn).mono ?_;rintro e w6 ⟨rfl,B⟩;replace Y:=hid (Y.out.step B);replace T1:=hid (T1.out.step B);replace X3:=hid (X3.out.step B)
  replace T6:=hid (T6.out.step B);replace H:=hid (Aa H.out B);clear B;go_wp2;go_ret;exact⟨rfl,H.out⟩
theorem BB(A:Option Addr)(n c:Nat)(xs:List En)(w:World)(Y:Ents w A n xs)(hn0:n<=9223372036854775807) :
 Calls Try.prog 18 #[.slice A n c] w fun e w'=>e=.returned (.bool true)/\Below w.heap.size w w':=by
 have C0:=fun W=>B4 A n c 1048576 W hn0 (by omega) (by omega);by_cases hbig:1048576<n
 . rw[if_pos (by omega)] at C0;replace C0:=hid C0;go_enter Try.func18,Try.ntmps18;go_wp2_with fail;refine(C0.out _).mono ?_;rintro e wn ⟨rfl,rfl⟩;go_wp2;go_ret;exact⟨rfl,Below.refl _ _⟩
 rw[if_neg (by omega)] at C0;replace C0:=hid C0;have hn:n<=1048576:=by omega
 have hz0:decide ((1048576:Int)-(n:Int)<0)=false:=decide_eq_false (by omega);obtain⟨r,hr⟩:∃ r,Au xs=r:=⟨_,rfl⟩;have H:=hid (Ac w);replace Y:=hid Y;go_enter Try.func18,Try.ntmps18;go_wp2_with fail;refine(C0.out _).mono ?_;rintro e wn ⟨rfl,rfl⟩;go_wp2_with fail;refine(A3 A n c xs _ Y.out hn).mono ?_;rintro e w1 ⟨uT1,rfl,T1,_,_,_,B⟩;replace Y:=hid (Y.out.step B);replace T1:=hid T1;replace H:=hid (Aa H.out B);clear B;go_wp2_with fail;refine(C5 _ n n xs _ hr _ T1.out (by omega)).mono ?_;rintro e w2 ⟨rfl,B⟩;replace Y:=hid (Y.out.step B);replace T1:=hid (T1.out.step B);replace H:=hid (Aa H.out B);clear B
 go_wp2_with fail;refine(A3 A n c xs _ Y.out hn).mono ?_;rintro e w3 ⟨uX3,rfl,X3,_,_,_,B⟩;replace Y:=hid (Y.out.step B);replace T1:=hid (T1.out.step B);replace X3:=hid X3;replace H:=hid (Aa H.out B);clear B;go_wp2_with fail;refine(C4 _ n n xs _ hr _ X3.out (by omega)).mono ?_;rintro e w4 ⟨rfl,B⟩;replace Y:=hid (Y.out.step B);replace T1:=hid (T1.out.step B);replace X3:=hid (X3.out.step B);replace H:=hid (Aa H.out B);clear B;go_wp2_with fail;refine(A3 A n c xs _ Y.out hn).mono ?_;rintro e w5 ⟨uT6,rfl,T6,_,_,_,B⟩;replace Y:=hid (Y.out.step B);replace T1:=hid (T1.out.step B);replace X3:=hid (X3.out.step B)
 replace T6:=hid T6;replace H:=hid (Aa H.out B);clear B;go_wp2_with fail;refine(A8 _ _ n n n xs _ X3.out T6.out hn).mono ?_;rintro e w6 ⟨rfl,B⟩;replace Y:=hid (Y.out.step B);replace T1:=hid (T1.out.step B);replace X3:=hid (X3.out.step B);replace T6:=hid (T6.out.step B);replace H:=hid (Aa H.out B);clear B;go_wp2;go_ret;exact⟨rfl,H.out⟩
theorem B3(A:Option Addr)(n c:Nat)(xs:List En)(pl:Int)(w:World)(Y:Ents w A n xs)(hn0:n<=9223372036854775807) :
 Calls Try.prog 16 #[.slice A n c,.int .i64 pl] w fun e w'=>e=.returned (.bool true)/\Below w.heap.size w w':=by
 have C0:=fun W=>B4 A n c 1048576 W hn0 (by omega) (by omega);by_cases hbig:1048576<n
 . rw[if_pos (by omega)] at C0;replace C0:=hid C0;go_enter Try.func16,Try.ntmps16;go_wp2_with fail;refine(C0.out _).mono ?_;rintro e wn ⟨rfl,rfl⟩;go_wp2;go_ret;exact⟨rfl,Below.refl _ _⟩
 rw[if_neg (by omega)] at C0;replace C0:=hid C0;have hn:n<=1048576:=by omega
 have hz0:decide ((1048576:Int)-(n:Int)<0)=false:=decide_eq_false (by omega);obtain⟨r,hr⟩:∃ r,brank xs pl=r:=⟨_,rfl⟩;have H:=hid (Ac w);replace Y:=hid Y;go_enter Try.func16,Try.ntmps16;go_wp2_with fail;refine(C0.out _).mono ?_;rintro e wn ⟨rfl,rfl⟩;go_wp2_with fail;refine(A3 A n c xs _ Y.out hn).mono ?_;rintro e w1 ⟨uT1,rfl,T1,_,_,_,B⟩;replace Y:=hid (Y.out.step B);replace T1:=hid T1;replace H:=hid (Aa H.out B);clear B;go_wp2_with fail;refine(AJ _ n n xs pl _ hr _ T1.out (by omega)).mono ?_;rintro e w2 ⟨rfl,B⟩;replace Y:=hid (Y.out.step B);replace T1:=hid (T1.out.step B);replace H:=hid (Aa H.out B);clear B
 go_wp2_with fail;refine(A3 A n c xs _ Y.out hn).mono ?_;rintro e w3 ⟨uX3,rfl,X3,_,_,_,B⟩;replace Y:=hid (Y.out.step B);replace T1:=hid (T1.out.step B);replace X3:=hid X3;replace H:=hid (Aa H.out B);clear B;go_wp2_with fail;refine(AD _ n n xs pl _ hr _ X3.out (by omega)).mono ?_;rintro e w4 ⟨rfl,B⟩;replace Y:=hid (Y.out.step B);replace T1:=hid (T1.out.step B);replace X3:=hid (X3.out.step B);replace H:=hid (Aa H.out B);clear B;go_wp2_with fail;refine(A3 A n c xs _ Y.out hn).mono ?_;rintro e w5 ⟨uT6,rfl,T6,_,_,_,B⟩;replace Y:=hid (Y.out.step B);replace T1:=hid (T1.out.step B);replace X3:=hid (X3.out.step B)
 replace T6:=hid T6;replace H:=hid (Aa H.out B);clear B;go_wp2_with fail;refine(A8 _ _ n n n xs _ X3.out T6.out hn).mono ?_;rintro e w6 ⟨rfl,B⟩;replace Y:=hid (Y.out.step B);replace T1:=hid (T1.out.step B);replace X3:=hid (X3.out.step B);replace T6:=hid (T6.out.step B);replace H:=hid (Aa H.out B);clear B;go_wp2;go_ret;exact⟨rfl,H.out⟩
end Go.Proofs.Ytgghhedkephohaa
