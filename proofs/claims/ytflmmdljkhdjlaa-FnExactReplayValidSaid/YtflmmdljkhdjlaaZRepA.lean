import Derived.Test.YtflmmdljkhdjlaaZRepMath
import Derived.Test.YtflmmdljkhdjlaaZDrawLev
set_option linter.all false
set_option maxRecDepth 100000
set_option maxHeartbeats 8000000
open Go.Lib
namespace Go.Proofs.Ytflmmdljkhdjlaa
open Go.RowKit
open M
theorem M.rp_next{xs:List In}{k:Nat}(h:k<xs.length):((xs.take (k+1)).all fun q=>Bp q.s q.p q.z)=(((xs.take k).all fun q=>Bp q.s q.p q.z)&&Bp (xs.getD k iz).s (xs.getD k iz).p (xs.getD k iz).z):=by
 rw[List.take_succ_eq_append_getElem h,List.all_append,List.getD_eq_getElem?_getD,List.getElem?_eq_getElem h];simp
theorem M.rp_bad{xs:List In}{k:Nat}(h:k<xs.length)(hv:Bp (xs.getD k iz).s (xs.getD k iz).p (xs.getD k iz).z=false):Ce xs=false:=by
 have e:(xs.all fun q=>Bp q.s q.p q.z)=false:=by
  rw[List.all_eq_false];exact⟨xs[k],List.getElem_mem h,by rw[List.getD_eq_getElem?_getD,List.getElem?_eq_getElem h] at hv; simpa using hv⟩
 rw[Ce,e]; rfl
def IG(w:World)(n:Nat)(xs:List In)(iv:Value)(W:World):Prop:=∃ k:Nat,k<=n/\iv=.int .i64 k/\((xs.take k).all fun q=>Bp q.s q.p q.z)=true/\Below w.heap.size w W
theorem GW(A:Option Addr)(n cap:Nat)(xs:List In)(w:World)(Y:Inputs w A n xs)(hn:n<=281474976710656) :
 Calls Try.prog 55 #[.slice A n cap] w fun e w'=>e=.returned (.bool (Ce xs))/\Below w.heap.size w w':=by
 have hl:=hid Y.1;have Y:=hid Y;go_enter Try.func55,Try.ntmps55;go_wp2
 go_loopw [3] (IG w n xs) (fun i _=>n-(intOf i).toNat)
 case atStart=>exact⟨0,Nat.zero_le _,rfl,rfl,Ac w⟩
 case round =>
  obtain⟨k,hk,rfl,ha,B⟩:=hrel;by_cases hlt:k<n
  . obtain⟨b,off,rfl,hb,hc⟩:=(Y.out.step B).2 (by omega);obtain⟨c0,c1,c2⟩:=hc k hlt;have hkl:k<xs.length:=by have:=hl.out; omega
    have et:=rp_next hkl;rw[ha,Bool.true_and] at et;have eb:=hid (rp_bad hkl);have et:=hid et;have B:=hid B;clear hc ha hkl;generalize xs.getD k iz=q at *;obtain⟨s,p,z⟩:=q;dsimp only at c0 c1 c2;go_wp2_with fail;refine(B8 s p z _).mono ?_;rintro e w1 ⟨rfl,B1⟩;replace B:=hid (Aa B.out B1);clear B1 c0 c1 c2;cases hv:Bp s p z
    . have e0:=eb.out hv;clear eb et;go_wp2;go_ret;exact⟨Al e0.symm,B.out⟩
    . have et:=et.out.trans hv;have et:=hid et;clear eb;go_wp2
      go_roundw
      case rel=>exact⟨k+1,by omega,by go_num,et.out,B.out⟩
      case measure=>simp[intOf]; omega
  . obtain rfl:k=n:=by omega
    have B:=hid B;have ha:=hid ha;go_wp2;go_ret;refine⟨Al ?_,B.out⟩;have h2:=ha.out;rw[<- hl.out,List.take_length] at h2;rw[Ce,h2,hl.out,Bool.true_and];exact decide_eq_decide.2 (by omega)
theorem M.codes_next{xs:List In}{k:Nat}(h:k<xs.length):An (xs.take (k+1))=An (xs.take k)++[FD (xs.getD k iz)]:=by
 rw[List.take_succ_eq_append_getElem h,An,List.map_append,List.getD_eq_getElem?_getD,List.getElem?_eq_getElem h];rfl
theorem M.valid_at{xs:List In}{k:Nat}(h:k<xs.length)(ok:Ce xs=true):Bp (xs.getD k iz).s (xs.getD k iz).p (xs.getD k iz).z=true:=by
 have:=List.all_eq_true.1 (AP.1 ok).1 xs[k] (List.getElem_mem h);rw[List.getD_eq_getElem?_getD,List.getElem?_eq_getElem h];exact this
theorem IH{w:World}{base:Nat}{e:TypeId}{sz:Nat}{v:Value}{n:Nat}{xs:List Value}(h:w.ownsRow base e sz v n xs)(hn:0<n):∃ g cap,v=.slice (some ⟨g,0,none⟩) n cap/\base<=g/\g<w.heap.size:=by
 have h0:=h;rcases h.2 with⟨_,e⟩ | ⟨g,cap,cur,rfl,hb,_⟩
 . omega
 . exact⟨g,cap,rfl,hb,(h0.lt g rfl).2⟩
end Go.Proofs.Ytflmmdljkhdjlaa
