import Derived.Test.YtgghhedkephohaaZEnS
import Derived.Test.YtgghhedkephohaaZUpTo
set_option linter.all false
set_option maxRecDepth 100000
set_option maxHeartbeats 8000000
open Go.Lib
namespace Go.Proofs.Ytgghhedkephohaa
open Go.RowKit
open M
theorem A5(p s:Int)(w:World):Calls Try.prog 45 #[.agg #[.int .i64 p,.int .i64 s]] w fun e w'=>e=.returned (.bool (AR ⟨p,s⟩))/\Below w.heap.size w w':=by
 cases a1:Di p 0 9
 . have E:=hid (show AR ⟨p,s⟩=false by simp only[AR,Di] at a1 ⊢; rw[a1]; rfl);replace a1:=hid a1;go_enter Try.func45,Try.ntmps45;go_wp2_with fail;refine(Cw p 9 _).mono ?_;rintro e w1 ⟨rfl,rfl⟩;rw[a1.out];go_wp2;go_ret;exact⟨Av E.out.symm,Ad (Ac w) _⟩
 . have E:=hid (show AR ⟨p,s⟩=Di s 0 60 by simp only[AR,Di] at a1 ⊢; rw[a1]; rfl);replace a1:=hid a1;go_enter Try.func45,Try.ntmps45;go_wp2_with fail;refine(Cw p 9 _).mono ?_;rintro e w1 ⟨rfl,rfl⟩;rw[a1.out];go_wp2_with fail;refine(Cw s 60 _).mono ?_;rintro e w1 ⟨rfl,rfl⟩;go_wp2;go_ret;exact⟨Av E.out.symm,Ad (Ac w) _⟩
def CS(w:World)(n:Nat)(xs:List En)(pl:Int)(iv:Value)(W:World):Prop:=∃ k:Nat,k<=n/\iv=.int .i64 k/\(∀ j,j<k->(xs.getD j ez).p≠pl)/\Below w.heap.size w W
theorem AF(A:Option Addr)(n cap:Nat)(xs:List En)(pl:Int)(w:World)(Y:Ents w A n xs)(hn:n<=281474976710656) :
 Calls Try.prog 47 #[.slice A n cap,.int .i64 pl] w fun e w'=>e=.returned (.int .i64 (AG xs pl))/\Below w.heap.size w w':=by
 have hl:=hid Y.1;have Y:=hid Y;go_enter Try.func47,Try.ntmps47;go_wp2
 go_loopw [9] (CS w n xs pl) (fun i _=>n-(RowKit.intOf i).toNat)
 case atStart=>exact⟨0,Nat.zero_le _,rfl,fun j hj=>absurd hj (by omega),Ac w⟩
 case round =>
  obtain⟨k,hk,rfl,ha,B⟩:=hrel;by_cases hlt:k<n
  . obtain⟨b,off,rfl,hb,hc⟩:=(Y.out.step B).2 (by omega);obtain⟨c0,c1⟩:=hc k hlt;have hkl:k<xs.length:=by have:=hl.out; omega
    clear hc;have B:=hid B;by_cases hp:(xs.getD k ez).p=pl
    . have E:=hid (Eo hkl hp ha);clear ha;rw[hp] at c0;have hpb:(pl==pl)=true:=by simp
      clear hp;generalize (xs.getD k ez).s=zs at *;go_wp2;go_ret;exact⟨Ar E.out.symm,Ad B.out _⟩
    . have ha:=hid (show ∀ j,j<k+1->(xs.getD j ez).p≠pl from fun j hj=>by
       rcases Nat.lt_or_ge j k with h1 | h1
       . exact ha j h1
       . have:j=k:=by omega
         subst this; exact hp)
      have hpb:((xs.getD k ez).p==pl)=false:=beq_eq_false_iff_ne.2 hp;clear hp;generalize (xs.getD k ez).s=zs at *;generalize (xs.getD k ez).p=zp at *;go_wp2
      go_roundw
      case rel=>exact⟨k+1,by omega,by go_num,ha.out,Ad B.out _⟩
      case measure=>simp[RowKit.intOf]; omega
  . obtain rfl:k=n:=by omega
    have E:=hid (CZ (xs:=xs) (pl:=pl) (fun j hj=>ha j (by have:=hl.out; omega)));have B:=hid B;clear ha;go_wp2;go_ret;exact⟨Ar E.out.symm,B.out⟩
def D7(w:World)(n:Nat)(xs:List En)(pl:Int)(ov iv:Value)(W:World):Prop:=∃ k:Nat,k<=n/\iv=.int .i64 k/\W.ownsRow w.heap.size 25 2 ov (As (xs.take k) pl).length (AM (As (xs.take k) pl))/\Below w.heap.size w W
theorem EC(A:Option Addr)(n cap:Nat)(xs:List En)(pl:Int)(w:World)(Y:Ents w A n xs)(hn:n<=2000000) :
 Calls Try.prog 46 #[.slice A n cap,.int .i64 pl] w fun e w'=>∃ v,e=.returned v/\w'.ownsRow w.heap.size 25 2 v (As xs pl).length (AM (As xs pl))/\Below w.heap.size w w':=by
 have hl:=hid Y.1;have Y:=hid Y;go_enter Try.func46,Try.ntmps46;have O:w.ownsRow w.heap.size 25 2 (.slice none 0 0) (As (xs.take 0) pl).length (AM (As (xs.take 0) pl)):=⟨rfl,.inl ⟨rfl,rfl⟩⟩;have B0:=Ac w;go_wp2
 go_loopw [5,10] (D7 w n xs pl) (fun _ i _=>n-(RowKit.intOf i).toNat)
 case atStart=>exact⟨0,Nat.zero_le _,rfl,O,B0⟩
 case round =>
  clear O B0;obtain⟨k,hk,rfl,O,B⟩:=hrel;by_cases hlt:k<n
  . obtain⟨b,off,rfl,hb,hc⟩:=(Y.out.step B).2 (by omega);have hb0:b<w.heap.size:=by
     obtain⟨b',off',e',hb',_⟩:=Y.out.2 (by omega);cases e'; exact hb'
    obtain⟨c0,c1⟩:=hc k hlt;have hkl:k<xs.length:=by have:=hl.out; omega
    have hwl:(As (xs.take k) pl).length<=k:=Nat.le_trans (List.length_filter_le _ _) (by simp; omega);clear hc;have hB:=B.size;have B:=hid B;have en:=wo_next hkl (pl:=pl);generalize xs.getD k ez=q at *;obtain⟨zp,zs⟩:=q;dsimp only at c0 c1 en;by_cases hp:zp=pl
    . rw[if_pos hp] at en;rw[<- en] at O;have en:=hid en;have O:=hid O;have hpb:(zp==pl)=true:=by simp[hp]
      have hpn:(zp != pl)=false:=by simp[hp]
      clear hp;go_wp2
      go_roundw
      case rel=>exact⟨k+1,by omega,by go_num,O.out.alloc _,Ad B.out _⟩
      case measure=>simp[RowKit.intOf]; omega
    . rw[if_neg hp] at en;have hln:=hid (show(As (xs.take (k+1)) pl).length=(As (xs.take k) pl).length+1 by rw[en]; simp);have en:=hid en;have O:=hid O;have hpb:(zp==pl)=false:=by simp[hp]
      have hpn:(zp != pl)=true:=by simp[hp]
      clear hp;obtain⟨A2,c2,rfl,_,_⟩:=Ents.of_own O.out;go_wp2_with (at_builtin; refine Al _ rfl (.tmp 18) (.tmp 20) rfl w.heap.size (.slice A2 _ c2) _ _ rfl ((O.out.alloc _).alloc _) (some ⟨_,0,none⟩) 1 1 [⟨zp,zs⟩] rfl (Ents.one _ _ zp zs _ (by simp)) (by omega) (by simp; omega) ?_);intro v' w9 O9 G9 _;rw[<- en.out] at O9;replace O9:=hid O9;have H9:=hid ((Ad (Ad B.out _) _).grown G9 (by have:=B.out.size; simp; omega) (fun g e=>(O.out.lt g e).1));clear G9 O B;go_wp2
      go_roundw
      case rel=>exact⟨k+1,by omega,by go_num,by rw[hln.out]; exact O9.out,H9.out⟩
      case measure=>simp[RowKit.intOf]; omega
  . obtain rfl:k=n:=by omega
    have e:xs.take k=xs:=List.take_of_length_le (by have:=hl.out; omega);rw[e] at O;have O:=hid O;have B:=hid B;go_wp2;go_ret;exact⟨_,rfl,O.out,B.out⟩
end Go.Proofs.Ytgghhedkephohaa
