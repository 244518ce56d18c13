import Derived.Test.YtflmmdljkhdjlaaZLinkIn
import Derived.Test.YtflmmdljkhdjlaaZRepA
set_option linter.all false
set_option maxRecDepth 100000
set_option maxHeartbeats 8000000
open Go.Lib
namespace Go.Proofs.Ytflmmdljkhdjlaa
open Go.RowKit
open M
theorem GY(A:Option Addr)(n cap:Nat)(xs:List In)(w:World)(Y:Inputs w A n xs)(hn:n<=281474976710656) :
 Calls Try.prog 52 #[.slice A n cap] w fun e w'=>e=.returned (.bool (Ce xs))/\Below w.heap.size w w':=by
 have hl:=hid Y.1;replace Y:=hid Y;go_enter Try.func52,Try.ntmps52;by_cases h60:n<=60
 rotate_left
 . have d60:decide ((60:Int)<(n:Int))=true:=decide_eq_true (by omega);have E:=hid (show Ce xs=false by
    cases h:Ce xs
    . rfl
    . have:=(AP.1 h).2;have:=hl.out;omega)
   go_wp2;go_ret;exact⟨Al E.out.symm,Ac w⟩
 have d60:decide ((60:Int)<(n:Int))=false:=decide_eq_false (by omega);go_wp2
 go_loopw [10] (IG w n xs) (fun i _=>n-(intOf i).toNat)
 case atStart=>exact⟨0,Nat.zero_le _,rfl,rfl,Ac w⟩
 case round =>
  obtain⟨k,hk,rfl,ha,B⟩:=hrel;by_cases hlt:k<n
  . obtain⟨b,off,rfl,hb,hc⟩:=(Y.out.step B).2 (by omega);obtain⟨c0,c1,c2⟩:=hc k hlt;have hkl:k<xs.length:=by have:=hl.out; omega
    have et:=rp_next hkl;rw[ha,Bool.true_and] at et;have eb:=hid (rp_bad hkl);replace et:=hid et;replace B:=hid B;clear hc ha hkl;generalize xs.getD k iz=q at *;obtain⟨s,p,z⟩:=q;dsimp only at c0 c1 c2;go_wp2_with fail;refine(Ea s p z _).mono ?_;rintro e w1 ⟨rfl,B1⟩;replace B:=hid (Aa (Ab B.out _) B1);clear B1 c0 c1 c2;cases hv:Bp s p z
    . have e0:=eb.out hv;clear eb et;go_wp2;go_ret;exact⟨Al e0.symm,B.out⟩
    . have et:=et.out.trans hv;replace et:=hid et;clear eb hv;go_wp2
      go_roundw
      case rel=>exact⟨k+1,by omega,by go_num,et.out,B.out⟩
      case measure=>simp[intOf]; omega
  obtain rfl:k=n:=by omega
  have hx:xs.take k=xs:=by rw[<- hl.out,List.take_length]
  rw[hx] at ha;have E:=hid (show Ce xs=true from AP.2 ⟨ha,by have:=hl.out; omega⟩);replace B:=hid B;clear ha hx;go_wp2;go_ret;exact⟨Al E.out.symm,B.out⟩
end Go.Proofs.Ytflmmdljkhdjlaa
