import Derived.Test.YtflmmdljkhdjlaaZLinkIn
import Derived.Test.YtflmmdljkhdjlaaZRepA
set_option linter.all false
set_option maxRecDepth 100000
set_option maxHeartbeats 8000000
open Go.Lib
namespace Go.Proofs.Ytflmmdljkhdjlaa
open Go.RowKit
open M
theorem GY(A:Option Addr)(n cap:Nat)(xs:List In)(w:World)(Y:Inputs w A n xs)(hn:n<=281474976710656) :
 Calls Try.prog 52 #[.slice A n cap] w fun e w'=>e=.returned (.bool (Ce xs))/\Below w.heap.size w w':=by
 have hl:=hid Y.1;replace Y:=hid Y;go_enter Try.func52,Try.ntmps52;by_cases h60:n<=60
 rotate_left
 . have d60:decide ((60:Int)<(n:Int))=true:=decide_eq_true (by omega);have E:=hid (show Ce xs=false by
    cases h:Ce xs
    . rfl
    . have:=(AP.1 h).2;have:=hl.out;omega)
   go_wp2;go_ret;exact⟨Al E.out.symm,Ac w⟩
 have d60:decide ((60:Int)<(n:Int))=false:=decide_eq_false (by omega);go_wp2
 go_loopw [10] (IG w n xs) (fun i _=>n-(intOf i).toNat)
 case atStart=>exact⟨0,Nat.zero_le _,rfl,rfl,Ac w⟩
 case round =>
  obtain⟨k,hk,rfl,ha,B⟩:=hrel;by_cases hlt:k<n
  . obtain⟨b,off,rfl,hb,hc⟩:=(Y.out.step B).2 (by omega);obtain⟨c0,c1,c2⟩:=hc k hlt;have hkl:k<xs.length:=by have:=hl.out; omega
    have et:=rp_next hkl;rw[ha,Bool.true_and] at et;have eb:=hid (rp_bad hkl);replace et:=hid et;replace B:=hid B;clear hc ha hkl;generalize xs.getD k iz=q at *;obtain⟨s,p,z⟩:=q;dsimp only at c0 c1 c2;go_wp2_with fail;refine(Ea s p z _).mono ?_;rintro e w1 ⟨rfl,B1⟩;replace B:=hid (Aa (Ab B.out _) B1);clear B1 c0 c1 c2;cases hv:Bp s p z
    . have e0:=eb.out hv;clear eb et;go_wp2;go_ret;exact⟨Al e0.symm,B.out⟩
    . have et:=et.out.trans hv;replace et:=hid et;clear eb hv;go_wp2
      go_roundw
      case rel=>exact⟨k+1,by omega,by go_num,et.out,B.out⟩
      case measure=>simp[intOf]; omega
  obtain rfl:k=n:=by omega
  have hx:xs.take k=xs:=by rw[<- hl.out,List.take_length]
  rw[hx] at ha;have E:=hid (show Ce xs=true from AP.2 ⟨ha,by have:=hl.out; omega⟩);replace B:=hid B;clear ha hx;go_wp2;go_ret;exact⟨Al E.out.symm,B.out⟩
theorem IU(p:Option Addr)(lo:Nat)(qs:List Pt)(w:World)(C:ChainP w lo w.heap.size qs (.pointer p))(hq:qs.length<=1000) :
 Calls Try.prog 54 #[.pointer p] w (DJ w qs):=by
 have O:(w.alloc (.cells #[] 34)).ownsRow w.heap.size 34 2 (.slice (some ⟨w.heap.size,0,none⟩) 0 0) 0 (BR (qs.take 0)):=Bm w w.heap.size w.heap.size rfl (Nat.le_refl _);have B:=Ab (Ac w) (.cells #[] 34);replace C:=hid C;replace O:=hid O;replace B:=hid B;go_enter Try.func54,Try.ntmps54;go_wp2
 go_loopw [0,3] (fun pv ov W=>∃(k:Nat) (p':Option Addr) (hi:Nat),pv=.pointer p'/\hi<=w.heap.size/\k<=qs.length/\ChainP W lo hi (qs.drop k) (.pointer p')/\(∃ A ca,ov=.slice A k ca)/\W.ownsRow w.heap.size 34 2 ov k (BR (qs.take k))/\Below w.heap.size w W) (fun pv ov _=>qs.length-(match ov with | .slice _ k _=>k | _=>0))
 case atStart=>exact⟨0,p,w.heap.size,rfl,Nat.le_refl _,Nat.zero_le _,C.out.alloc _,⟨_,_,rfl⟩,O.out,B.out⟩
 case round =>
  clear O B C;obtain⟨k,p',hi,rfl,hhi,hk,C,⟨A1,ca,rfl⟩,O,B⟩:=hrel;by_cases hlt:k<qs.length
  rotate_left
  . have hd:qs.drop k=[]:=List.drop_eq_nil_of_le (by omega);have ht:qs.take k=qs:=List.take_of_length_le (by omega);rw[hd] at C;obtain rfl:p'=none:=by simpa[ChainP] using C
    obtain rfl:k=qs.length:=by omega
    rw[ht] at O;replace O:=hid O;replace B:=hid B;clear ht hd C;go_wp2;go_ret;exact⟨_,rfl,O.out,B.out⟩
  have ed:=Hu pz hlt;have et:qs.take (k+1)=qs.take k++[qs.getD k pz]:=by
   rw[List.take_succ_eq_append_getElem hlt,List.getD_eq_getElem?_getD,List.getElem?_eq_getElem hlt];rfl
  rw[ed] at C;clear ed;obtain⟨g,nx,e1,hg1,hg2,hG,hT⟩:=ChainP.cons C;cases e1
  clear C;generalize qs.getD k pz=q at *;obtain⟨qc,qm⟩:=q;simp only at hG;obtain⟨g0,g1,g2⟩:=BD hG;have g3:=hG.lt;replace et:=hid et;replace O:=hid O;replace B:=hid B;replace hG:=hid hG;replace hT:=hid hT;have hsz:=B.out.size;have hq2:k+1<=10000000:=by omega
  go_wp2_with (at_builtin; refine AL _ rfl (.tmp 11) (.tmp 16) rfl w.heap.size (.slice A1 k ca) k (qs.take k) rfl (O.out.alloc _) _ 1 1 [⟨qc,qm⟩] rfl (Parts.one _ _ qc qm _ rfl) hq2 (by simp; omega) ?_);intro v' w9 O9 G9 _;have B9:=(Ab B.out _).grown G9 (by simp; omega) (fun g' e=>(O.out.lt g' e).1);have hT9:=(hT.out.alloc (.cells #[.int .i64 qc,.int .i64 qm] 34));have hG9:CellsAt w9 g [.int .i64 qc,.int .i64 qm,.pointer nx]:=(hG.out.alloc _).grown G9 (fun e=>by have:=(O.out.lt _ e).1; omega);have hTn:ChainP w9 lo g (qs.drop (k+1)) (.pointer nx):=ChainP.grown G9 (fun g' e=>.inr (by have:=(O.out.lt g' e).1; omega)) hT9;have c2:=hG9.cell 2 _ rfl
  have c3:=hG9.lt;have O9:=hid (show w9.ownsRow w.heap.size 34 2 v' (k+1) (BR (qs.take (k+1))) from by rw[et.out]; exact O9);obtain⟨A2,ca2,hv2,_,_⟩:=Parts.of_own O9.out;subst hv2;replace B9:=hid B9;replace hTn:=hid hTn;clear G9 O B hG hT hT9 hG9 g0 g1 g2 g3;go_wp2
  go_roundw
  case rel=>exact⟨k+1,nx,g,rfl,by omega,by omega,hTn.out,⟨_,_,rfl⟩,O9.out,B9.out⟩
  case measure=>simp; omega
theorem Ht(A:Option Addr)(n cap:Nat)(xs:List In)(w:World)(Y:Inputs w A n xs)(hn:n<=281474976710656) :
 Calls Try.prog 17 #[.slice A n cap] w (DJ w (AQ xs)):=by
 replace Y:=hid Y;go_enter Try.func17,Try.ntmps17;go_wp2_with fail;refine(GY A n cap xs _ Y.out hn).mono ?_;rintro e w1 ⟨rfl,B⟩;have Y1:=hid (Y.out.step B);replace B:=hid B;cases ok:Ce xs
 . replace ok:=hid ok;go_wp2;go_ret;refine⟨_,rfl,?_,Ab B.out _⟩;rw[AQ,ok.out];exact Bm w1 _ _ rfl B.out.size
 . have hlen:(Bj (An xs)).length<=1000:=by have:=pts_len (An xs); have:=(AP.1 ok).2; simp[An] at *; omega
   replace ok:=hid ok;go_wp2_with fail;refine(Gq A n cap xs _ Y1.out ok.out).mono ?_;rintro e w2 ⟨p,rfl,C,B2⟩;replace C:=hid C;replace B:=hid (Aa B.out B2);clear B2;go_wp2_with fail;refine(IU p _ (Bj (An xs)) _ C.out hlen).mono ?_;rintro e w3 ⟨v,rfl,O,B3⟩;replace O:=hid (Bz O B.out.size);replace B:=hid (Aa B.out B3);clear B3;go_wp2;go_ret;refine⟨_,rfl,?_,B.out⟩;rw[AQ,ok.out];exact O.out
end Go.Proofs.Ytflmmdljkhdjlaa
