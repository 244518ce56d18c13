import Derived.Test.YtbeohbhhmcjokaaZEnRow
set_option linter.all false
set_option maxRecDepth 100000
set_option maxHeartbeats 8000000
open Go.Lib
namespace Go.Proofs.Ytbeohbhhmcjokaa
open Go.RowKit
open M
theorem AC{a b:Int}(h:a=b):Ending.returned (.int .i64 a)=.returned (.int .i64 b):=by rw[h]
theorem A8(p s:Int)(w:World):Calls Try.prog 89 #[.agg #[.int .i64 p,.int .i64 s]] w fun e w'=>e=.returned (.bool (CE ⟨p,s⟩))/\Below w.heap.size w w':=by
 cases a1:Al p 0 9
 . have E:=hid (show CE ⟨p,s⟩=false by simp only[CE,Al] at a1 ⊢; rw[a1]; rfl);replace a1:=hid a1;go_enter Try.func89,Try.ntmps89;go_wp2_with fail;refine(A0 p 0 9 _).mono ?_;rintro e w1 ⟨rfl,rfl⟩;rw[a1.out];go_wp2;go_ret;exact⟨Ad E.out.symm,Ab (Ac w) _⟩
 . have E:=hid (show CE ⟨p,s⟩=Al s 0 60 by simp only[CE,Al] at a1 ⊢; rw[a1]; rfl);replace a1:=hid a1;go_enter Try.func89,Try.ntmps89;go_wp2_with fail;refine(A0 p 0 9 _).mono ?_;rintro e w1 ⟨rfl,rfl⟩;rw[a1.out];go_wp2_with fail;refine(A0 s 0 60 _).mono ?_;rintro e w1 ⟨rfl,rfl⟩;go_wp2;go_ret;exact⟨Ad E.out.symm,Ab (Ac w) _⟩
def Dm(w:World)(n:Nat)(xs:List En)(pl:Int)(iv:Value)(W:World):Prop:=∃ k:Nat,k<=n/\iv=.int .i64 k/\(∀ j,j<k->(xs.getD j ez).p≠pl)/\Below w.heap.size w W
theorem Cm(A:Option Addr)(n cap:Nat)(xs:List En)(pl:Int)(w:World)(Y:Ents w A n xs)(hn:n<=281474976710656) :
 Calls Try.prog 90 #[.slice A n cap,.int .i64 pl] w fun e w'=>e=.returned (.int .i64 (Gg xs pl))/\Below w.heap.size w w':=by
 have hl:=hid Y.1;have Y:=hid Y;go_enter Try.func90,Try.ntmps90;go_wp2
 go_loopw [5] (Dm w n xs pl) (fun i _=>n-(RowKit.intOf i).toNat)
 case atStart=>exact⟨0,Nat.zero_le _,rfl,fun j hj=>absurd hj (by omega),Ac w⟩
 case round =>
  obtain⟨k,hk,rfl,ha,B⟩:=hrel;by_cases hlt:k<n
  . obtain⟨b,off,rfl,hb,hc⟩:=(Y.out.step B).2 (by omega);obtain⟨c0,c1⟩:=hc k hlt;have hkl:k<xs.length:=by have:=hl.out; omega
    clear hc;have B:=hid B;by_cases hp:(xs.getD k ez).p=pl
    . have E:=hid (E6 hkl hp ha);clear ha;rw[hp] at c0;have hpb:(pl==pl)=true:=by simp
      clear hp;generalize (xs.getD k ez).s=zs at *;go_wp2;go_ret;exact⟨AC E.out.symm,B.out⟩
    . have ha:=hid (show ∀ j,j<k+1->(xs.getD j ez).p≠pl from fun j hj=>by
       rcases Nat.lt_or_ge j k with h1 | h1
       . exact ha j h1
       . have:j=k:=by omega
         subst this; exact hp)
      have hpb:((xs.getD k ez).p==pl)=false:=beq_eq_false_iff_ne.2 hp;clear hp;generalize (xs.getD k ez).s=zs at *;generalize (xs.getD k ez).p=zp at *;go_wp2
      go_roundw
      case rel=>exact⟨k+1,by omega,by go_num,ha.out,B.out⟩
      case measure=>simp[RowKit.intOf]; omega
  . obtain rfl:k=n:=by omega
    have E:=hid (Dh (xs:=xs) (pl:=pl) (fun j hj=>ha j (by have:=hl.out; omega)));have B:=hid B;clear ha;go_wp2;go_ret;exact⟨AC E.out.symm,B.out⟩
open Go.RowKit
open M
theorem Bu(n k:Int)(w:World):Calls Try.prog 73 #[.int .i64 n,.int .i64 k] w fun e w'=>e=.returned (.bool (Al n 0 k))/\w=w':=by
 by_cases h0:0<=n
 . have d0:decide ((0:Int)<=n)=true:=decide_eq_true h0;by_cases h1:n<=k
   . have d1:decide (n<=k)=true:=decide_eq_true h1;go_enter Try.func73,Try.ntmps73;go_wp2;go_ret;exact⟨Ad (Bc ⟨h0,h1⟩).symm,rfl⟩
   . have d1:decide (n<=k)=false:=decide_eq_false h1;go_enter Try.func73,Try.ntmps73;go_wp2;go_ret;exact⟨Ad (AZ (fun h=>by omega)).symm,rfl⟩
 . have d0:decide ((0:Int)<=n)=false:=decide_eq_false h0;go_enter Try.func73,Try.ntmps73;go_wp2;go_ret;exact⟨Ad (AZ (fun h=>by omega)).symm,rfl⟩
open Go.RowKit
open M
theorem Bv(p s:Int)(w:World):Calls Try.prog 106 #[.agg #[.int .i64 p,.int .i64 s]] w fun e w'=>e=.returned (.bool (CE ⟨p,s⟩))/\Below w.heap.size w w':=by
 cases a1:Al p 0 9
 . have E:=hid (show CE ⟨p,s⟩=false by simp only[CE,Al] at a1 ⊢; rw[a1]; rfl);replace a1:=hid a1;go_enter Try.func106,Try.ntmps106;go_wp2_with fail;refine(Bu p 9 _).mono ?_;rintro e w1 ⟨rfl,rfl⟩;rw[a1.out];go_wp2;go_ret;exact⟨Ad E.out.symm,Ab (Ac w) _⟩
 . have E:=hid (show CE ⟨p,s⟩=Al s 0 60 by simp only[CE,Al] at a1 ⊢; rw[a1]; rfl);replace a1:=hid a1;go_enter Try.func106,Try.ntmps106;go_wp2_with fail;refine(Bu p 9 _).mono ?_;rintro e w1 ⟨rfl,rfl⟩;rw[a1.out];go_wp2_with fail;refine(Bu s 60 _).mono ?_;rintro e w1 ⟨rfl,rfl⟩;go_wp2;go_ret;exact⟨Ad E.out.symm,Ab (Ac w) _⟩
def CZ(w:World)(n:Nat)(xs:List En)(pl:Int)(iv:Value)(W:World):Prop:=∃ k:Nat,k<=n/\iv=.int .i64 k/\(∀ j,j<k->(xs.getD j ez).p≠pl)/\Below w.heap.size w W
theorem Ba(A:Option Addr)(n cap:Nat)(xs:List En)(pl:Int)(w:World)(Y:Ents w A n xs)(hn:n<=281474976710656) :
 Calls Try.prog 105 #[.slice A n cap,.int .i64 pl] w fun e w'=>e=.returned (.int .i64 (Gg xs pl))/\Below w.heap.size w w':=by
 have hl:=hid Y.1;have Y:=hid Y;go_enter Try.func105,Try.ntmps105;go_wp2
 go_loopw [9] (CZ w n xs pl) (fun i _=>n-(RowKit.intOf i).toNat)
 case atStart=>exact⟨0,Nat.zero_le _,rfl,fun j hj=>absurd hj (by omega),Ac w⟩
 case round =>
  obtain⟨k,hk,rfl,ha,B⟩:=hrel;by_cases hlt:k<n
  . obtain⟨b,off,rfl,hb,hc⟩:=(Y.out.step B).2 (by omega);obtain⟨c0,c1⟩:=hc k hlt;have hkl:k<xs.length:=by have:=hl.out; omega
    clear hc;have B:=hid B;by_cases hp:(xs.getD k ez).p=pl
    . have E:=hid (E6 hkl hp ha);clear ha;rw[hp] at c0;have hpb:(pl==pl)=true:=by simp
      clear hp;generalize (xs.getD k ez).s=zs at *;go_wp2;go_ret;exact⟨AC E.out.symm,Ab B.out _⟩
    . have ha:=hid (show ∀ j,j<k+1->(xs.getD j ez).p≠pl from fun j hj=>by
       rcases Nat.lt_or_ge j k with h1 | h1
       . exact ha j h1
       . have:j=k:=by omega
         subst this; exact hp)
      have hpb:((xs.getD k ez).p==pl)=false:=beq_eq_false_iff_ne.2 hp;clear hp;generalize (xs.getD k ez).s=zs at *;generalize (xs.getD k ez).p=zp at *;go_wp2
      go_roundw
      case rel=>exact⟨k+1,by omega,by go_num,ha.out,Ab B.out _⟩
      case measure=>simp[RowKit.intOf]; omega
  . obtain rfl:k=n:=by omega
    have E:=hid (Dh (xs:=xs) (pl:=pl) (fun j hj=>ha j (by have:=hl.out; omega)));have B:=hid B;clear ha;go_wp2;go_ret;exact⟨AC E.out.symm,B.out⟩
end Go.Proofs.Ytbeohbhhmcjokaa
