import Derived.Test.YtgghhedkephohaaZEnB
import Derived.Test.YtgghhedkephohaaZEnBuild
set_option linter.all false
set_option maxRecDepth 100000
set_option maxHeartbeats 8000000
open Go.Lib
namespace Go.Proofs.Ytgghhedkephohaa
open Go.RowKit
open M
def M.brank(xs:List En)(pl:Int):Int:=if CL xs=false then -1 else AG xs pl+1
def M.brem(xs:List En)(pl:Int):List En × Bool:=if CL xs=false then ([],false) else (As xs pl,decide (Aj xs pl<xs.length))
def Made(w:World)(u:Value)(ys:List En)(e:Ending)(w':World):Prop :=
 ∃ v,e=.returned (.tuple #[v,u])/\w'.ownsRow w.heap.size 25 2 v ys.length (AM ys)/\Below w.heap.size w w'
theorem ED(A:Option Addr)(n cap:Nat)(xs:List En)(pl:Int)(w:World)(Y:Ents w A n xs)(hn:n<=281474976710656) :
 Calls Try.prog 27 #[.slice A n cap,.int .i64 pl] w fun e w'=>e=.returned (.int .i64 (brank xs pl))/\Below w.heap.size w w':=by
 have hl:=hid Y.1;have Y:=hid Y;cases hv:CL xs
 . have E:=hid (show brank xs pl=-1 by rw[brank,hv,if_pos rfl]);replace hv:=hid hv;go_enter Try.func27,Try.ntmps27;go_wp2_with fail;refine(AN A n cap xs _ Y.out hn).mono ?_;rintro e w1 ⟨rfl,B⟩;rw[hv.out];replace B:=hid B;go_wp2;go_ret;exact⟨Ar E.out.symm,B.out⟩
 have E:=hid (show brank xs pl=AG xs pl+1 by rw[brank,hv,if_neg (by simp)]);have b1:=Dj xs pl;rw[hl.out] at b1;replace hv:=hid hv;go_enter Try.func27,Try.ntmps27;go_wp2_with fail;refine(AN A n cap xs _ Y.out hn).mono ?_;rintro e w1 ⟨rfl,B⟩;rw[hv.out];replace B:=hid B;go_wp2_with fail;refine(AW A n cap xs pl _ (Y.out.step B.out) hn).mono ?_;rintro e w2 ⟨rfl,B2⟩;replace B:=hid (Aa B.out B2);clear B2;generalize AG xs pl=z at *;have hz:IntKind.i64.wrap (z+1)=z+1:=IntWalk.i64_in _ (by omega);go_wp2;go_ret;exact⟨Ar (by first | (rw[E.out]; done) | (rw[E.out]; exact hz) | (rw[E.out]; exact hz.symm)),B.out⟩
theorem E4(A:Option Addr)(n cap:Nat)(xs:List En)(pl:Int)(w:World)(Y:Ents w A n xs)(hn:n<=2000000) :
 Calls Try.prog 30 #[.slice A n cap,.int .i64 pl] w (Made w (.bool (brem xs pl).2) (brem xs pl).1):=by
 replace hn:n<=281474976710656/\n<=2000000:=⟨by omega,hn⟩;obtain⟨hn,hn2⟩:=hn;have hl:=hid Y.1;have Y:=hid Y;cases hv:CL xs
 . have E:=hid (show brem xs pl=([],false) by rw[brem,hv,if_pos rfl]);rw[E.out];replace hv:=hid hv;go_enter Try.func30,Try.ntmps30;go_wp2_with fail;refine(AN A n cap xs _ Y.out hn).mono ?_;rintro e w1 ⟨rfl,B⟩;rw[hv.out];replace B:=hid B;go_wp2
   go_ret2
   exact⟨_,rfl,Af (Ah w1 w1.heap.size _ rfl (Nat.le_refl _)) B.out.size,Ad B.out _⟩
 have E:=hid (show brem xs pl=(As xs pl,decide (Aj xs pl<xs.length)) by rw[brem,hv,if_neg (by simp)]);rw[E.out];have hg:decide ((0:Int)<=AG xs pl)=decide (Aj xs pl<xs.length):=decide_eq_decide.2 BE;replace hv:=hid hv;go_enter Try.func30,Try.ntmps30;go_wp2_with fail;refine(AN A n cap xs _ Y.out hn).mono ?_;rintro e w1 ⟨rfl,B⟩;rw[hv.out];replace B:=hid B;go_wp2_with fail;refine(EF A n cap xs pl _ (Y.out.step B.out) hn2).mono ?_;rintro e w2 ⟨v,rfl,O,B2⟩;replace O:=hid (Af O B.out.size);replace B:=hid (Aa B.out B2);clear B2;go_wp2_with fail;refine(AW A n cap xs pl _ (Y.out.step B.out) hn).mono ?_;rintro e w3 ⟨rfl,B2⟩
 replace O:=hid (Ak O.out B2);replace B:=hid (Aa B.out B2);clear B2;generalize AG xs pl=z at *;generalize decide (Aj xs pl<xs.length)=y at *;go_wp2
 go_ret2
 first
  | exact⟨v,by rw[hg],O.out,B.out⟩
  | exact⟨v,rfl,O.out,B.out⟩
theorem E5(A:Option Addr)(n cap:Nat)(xs:List En)(w:World)(Y:Ents w A n xs)(hn:n<=281474976710656) :
 Calls Try.prog 34 #[.slice A n cap] w fun e w'=>e=.returned (.int .i64 (Au xs))/\Below w.heap.size w w':=by
 have hl:=hid Y.1;have Y:=hid Y;cases hv:CL xs
 . have E:=hid (show Au xs=-1 by rw[Au,hv,if_pos rfl]);replace hv:=hid hv;go_enter Try.func34,Try.ntmps34;go_wp2_with fail;refine(AN A n cap xs _ Y.out hn).mono ?_;rintro e w1 ⟨rfl,B⟩;rw[hv.out];replace B:=hid B;go_wp2;go_ret;exact⟨Ar E.out.symm,B.out⟩
 have hb:=Aw.1 hv;have hn4:=hb.len;rw[hl.out] at hn4;by_cases h4:n<4
 . have g4:decide ((n:Int)<4)=true:=decide_eq_true (by omega);have E:=hid (show Au xs=60 by rw[Au,hv,if_neg (by simp),hl.out,if_pos h4]);replace hv:=hid hv;clear hb;go_enter Try.func34,Try.ntmps34;go_wp2_with fail;refine(AN A n cap xs _ Y.out hn).mono ?_;rintro e w1 ⟨rfl,B⟩;rw[hv.out];replace B:=hid B;go_wp2;go_ret;exact⟨Ar E.out.symm,B.out⟩
 have h4':n=4:=by omega
 have g4:decide ((n:Int)<4)=false:=decide_eq_false (by omega);have E:=hid (show Au xs=(xs.getD (n-1) ez).s-1 by rw[Au,hv,if_neg (by simp),hl.out,if_neg (by omega)]);have hs:=hb.ok _ (List.getElem_mem (show n-1<xs.length by rw[hl.out]; omega));rw[<- gd (show n-1<xs.length by rw[hl.out]; omega)] at hs;simp only[AR,Bool.and_eq_true,decide_eq_true_eq] at hs;have hs2:=hs.2;have hk1:IntKind.i64.wrap ((n:Int)-1)=((n-1:Nat):Int):=by rw[IntWalk.i64_in _ (by omega)]; omega
 have hk2:(n:Int)-1=((n-1:Nat):Int):=by omega
 have hk3:n-1<n:=by omega
 have hk5:IntKind.i64.wrap ((n-1:Nat):Int)=((n-1:Nat):Int):=IntWalk.i64_in _ (by omega);replace hv:=hid hv;replace h4':=hid h4';clear hb hs;go_enter Try.func34,Try.ntmps34;go_wp2_with fail;refine(AN A n cap xs _ Y.out hn).mono ?_;rintro e w1 ⟨rfl,B⟩;rw[hv.out];replace B:=hid B;obtain⟨b,off,rfl,_,hc⟩:=(Y.out.step B.out).2 (by omega);have c1:=(hc (n-1) (by omega)).c1;clear hc;generalize (xs.getD (n-1) ez).s=z at *;have hz:IntKind.i64.wrap (z-1)=z-1:=IntWalk.i64_in _ (by omega);go_wp2;go_ret;exact⟨Ar (by first | (rw[E.out]; done) | (rw[E.out]; exact hz) | (rw[E.out]; exact hz.symm)),B.out⟩
theorem EE(A:Option Addr)(n cap:Nat)(xs:List En)(pl:Int)(w:World)(Y:Ents w A n xs)(hn:n<=281474976710656) :
 Calls Try.prog 26 #[.slice A n cap,.int .i64 pl] w fun e w'=>e=.returned (.int .i64 (brank xs pl))/\Below w.heap.size w w':=by
 have hl:=hid Y.1;have Y:=hid Y;cases hv:CL xs
 . have E:=hid (show brank xs pl=-1 by rw[brank,hv,if_pos rfl]);replace hv:=hid hv;go_enter Try.func26,Try.ntmps26;go_wp2_with fail;refine(AL A n cap xs _ Y.out hn).mono ?_;rintro e w1 ⟨rfl,B⟩;rw[hv.out];replace B:=hid B;go_wp2;go_ret;exact⟨Ar E.out.symm,B.out⟩
 have E:=hid (show brank xs pl=AG xs pl+1 by rw[brank,hv,if_neg (by simp)]);have b1:=Dj xs pl;rw[hl.out] at b1;replace hv:=hid hv;go_enter Try.func26,Try.ntmps26;go_wp2_with fail;refine(AL A n cap xs _ Y.out hn).mono ?_;rintro e w1 ⟨rfl,B⟩;rw[hv.out];replace B:=hid B;go_wp2_with fail;refine(AF A n cap xs pl _ (Y.out.step B.out) hn).mono ?_;rintro e w2 ⟨rfl,B2⟩;replace B:=hid (Aa B.out B2);clear B2;generalize AG xs pl=z at *;have hz:IntKind.i64.wrap (z+1)=z+1:=IntWalk.i64_in _ (by omega);go_wp2;go_ret;exact⟨Ar (by first | (rw[E.out]; done) | (rw[E.out]; exact hz) | (rw[E.out]; exact hz.symm)),B.out⟩
theorem BK(a b:Int):(a != b)=decide (a≠b):=by by_cases h:a=b<;>simp[h]
theorem E6(A:Option Addr)(n cap:Nat)(xs:List En)(pl:Int)(w:World)(Y:Ents w A n xs)(hn:n<=2000000) :
 Calls Try.prog 29 #[.slice A n cap,.int .i64 pl] w (Made w (.bool (brem xs pl).2) (brem xs pl).1):=by
 replace hn:n<=281474976710656/\n<=2000000:=⟨by omega,hn⟩;obtain⟨hn,hn2⟩:=hn;have hl:=hid Y.1;have Y:=hid Y;cases hv:CL xs
 . have E:=hid (show brem xs pl=([],false) by rw[brem,hv,if_pos rfl]);rw[E.out];replace hv:=hid hv;go_enter Try.func29,Try.ntmps29;go_wp2_with fail;refine(AL A n cap xs _ Y.out hn).mono ?_;rintro e w1 ⟨rfl,B⟩;rw[hv.out];replace B:=hid B;go_wp2
   go_ret2
   exact⟨_,rfl,Af (Ah w1 w1.heap.size _ rfl (Nat.le_refl _)) B.out.size,Ad B.out _⟩
 have E:=hid (show brem xs pl=(As xs pl,decide (Aj xs pl<xs.length)) by rw[brem,hv,if_neg (by simp)]);rw[E.out];have hg:(AG xs pl != -1)=decide (Aj xs pl<xs.length):=by rw[BK]; exact decide_eq_decide.2 ⟨fun h=>BE.1 (by have:=Dj xs pl; omega),fun h=>by have:=BE.2 h; omega⟩
 replace hv:=hid hv;go_enter Try.func29,Try.ntmps29;go_wp2_with fail;refine(AL A n cap xs _ Y.out hn).mono ?_;rintro e w1 ⟨rfl,B⟩;rw[hv.out];replace B:=hid B;go_wp2_with fail;refine(EC A n cap xs pl _ (Y.out.step B.out) hn2).mono ?_;rintro e w2 ⟨v,rfl,O,B2⟩;replace O:=hid (Af O B.out.size);replace B:=hid (Aa B.out B2);clear B2;go_wp2_with fail;refine(AF A n cap xs pl _ (Y.out.step B.out) hn).mono ?_;rintro e w3 ⟨rfl,B2⟩;replace O:=hid (Ak O.out B2);replace B:=hid (Aa B.out B2);clear B2;generalize AG xs pl=z at *;generalize decide (Aj xs pl<xs.length)=y at *;go_wp2
 go_ret2
 first
  | exact⟨v,by rw[hg],O.out,B.out⟩
  | exact⟨v,rfl,O.out,B.out⟩
theorem E7(A:Option Addr)(n cap:Nat)(xs:List En)(w:World)(Y:Ents w A n xs)(hn:n<=281474976710656) :
 Calls Try.prog 33 #[.slice A n cap] w fun e w'=>e=.returned (.int .i64 (Au xs))/\Below w.heap.size w w':=by
 have hl:=hid Y.1;have Y:=hid Y;cases hv:CL xs
 . have E:=hid (show Au xs=-1 by rw[Au,hv,if_pos rfl]);replace hv:=hid hv;go_enter Try.func33,Try.ntmps33;go_wp2_with fail;refine(AL A n cap xs _ Y.out hn).mono ?_;rintro e w1 ⟨rfl,B⟩;rw[hv.out];replace B:=hid B;go_wp2;go_ret;exact⟨Ar E.out.symm,B.out⟩
 have hb:=Aw.1 hv;have hn4:=hb.len;rw[hl.out] at hn4;by_cases h4:n<4
 . have g4:decide ((n:Int)<4)=true:=decide_eq_true (by omega);have E:=hid (show Au xs=60 by rw[Au,hv,if_neg (by simp),hl.out,if_pos h4]);replace hv:=hid hv;clear hb;go_enter Try.func33,Try.ntmps33;go_wp2_with fail;refine(AL A n cap xs _ Y.out hn).mono ?_;rintro e w1 ⟨rfl,B⟩;rw[hv.out];replace B:=hid B;go_wp2;go_ret;exact⟨Ar E.out.symm,B.out⟩
 have h4':n=4:=by omega
 have g4:decide ((n:Int)<4)=false:=decide_eq_false (by omega);have E:=hid (show Au xs=(xs.getD (n-1) ez).s-1 by rw[Au,hv,if_neg (by simp),hl.out,if_neg (by omega)]);have hs:=hb.ok _ (List.getElem_mem (show n-1<xs.length by rw[hl.out]; omega));rw[<- gd (show n-1<xs.length by rw[hl.out]; omega)] at hs;simp only[AR,Bool.and_eq_true,decide_eq_true_eq] at hs;have hs2:=hs.2;have hk1:IntKind.i64.wrap ((n:Int)-1)=((n-1:Nat):Int):=by rw[IntWalk.i64_in _ (by omega)]; omega
 have hk2:(n:Int)-1=((n-1:Nat):Int):=by omega
 have hk3:n-1<n:=by omega
 have hk5:IntKind.i64.wrap ((n-1:Nat):Int)=((n-1:Nat):Int):=IntWalk.i64_in _ (by omega);replace hv:=hid hv;replace h4':=hid h4';clear hb hs;go_enter Try.func33,Try.ntmps33;go_wp2_with fail;refine(AL A n cap xs _ Y.out hn).mono ?_;rintro e w1 ⟨rfl,B⟩;rw[hv.out];replace B:=hid B;obtain⟨b,off,rfl,_,hc⟩:=(Y.out.step B.out).2 (by omega);have c1:=(hc (n-1) (by omega)).c1;clear hc;generalize (xs.getD (n-1) ez).s=z at *;have hz:IntKind.i64.wrap (z-1)=z-1:=IntWalk.i64_in _ (by omega);go_wp2;go_ret;exact⟨Ar (by first | (rw[E.out]; done) | (rw[E.out]; exact hz) | (rw[E.out]; exact hz.symm)),B.out⟩
end Go.Proofs.Ytgghhedkephohaa
