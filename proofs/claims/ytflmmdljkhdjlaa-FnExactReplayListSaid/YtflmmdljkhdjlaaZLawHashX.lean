import Derived.Test.YtflmmdljkhdjlaaZHashImpl
set_option linter.all false
set_option maxRecDepth 100000
set_option maxHeartbeats 8000000
open Go.Lib
namespace Go.Proofs.Ytflmmdljkhdjlaa
open Go.RowKit
open M
theorem C1(w:World)(m k:Nat):(w.drewN m).drewN k=w.drewN (m+k):=by simp[World.drewN,Nat.add_assoc]
def part(xs:List Int)(n k:Nat):List Int:=xs.take k++List.replicate (n-k) 0
theorem D4(xs:List Int)(n:Nat):part xs n 0=List.replicate n 0:=by simp[part]
theorem EA{xs:List Int}{n:Nat}(h:xs.length=n):part xs n n=xs:=by simp[part,<- h]
theorem ED{xs:List Int}{n k:Nat}(h:xs.length=n)(hk:k<=n):(part xs n k).length=n:=by simp[part]; omega
theorem D6{xs:List Int}{n k:Nat}(h:xs.length=n)(hk:k<n):(part xs n k).set k (xs.getD k 0)=part xs n (k+1):=by
 unfold part;rw[Hd (by omega),List.set_append_right _ _ (by simp; omega)];have e:k-(xs.take k).length=0:=by simp; omega
 rw[e,show n-k=(n-(k+1))+1 by omega,List.replicate_succ,List.set_cons_zero,List.append_assoc];rfl
def E6(w:World)(n:Nat)(xs:List Int)(i:Value)(W:World):Prop :=
 ∃ k:Nat,k<=n/\i=.int .i64 k/\W.ownsRow w.heap.size 3 1 (.slice (some ⟨w.heap.size,0,none⟩) n n) n ((part xs n k).map (Value.int .i64))/\Below w.heap.size w W
theorem Ao(A D:Option Addr)(n c d:Nat)(xs:List Int)(w:World)(I:Ints w A n xs)(J:Ints w D n xs)(hn:n<=1048576) :
 Calls Try.prog 45 #[.slice A n c,.slice D n d] w fun e w'=>e=.returned (.bool true)/\Below w.heap.size w w':=by
 have I:=hid I;have J:=hid J;go_enter Try.func45,Try.ntmps45;go_wp2
 go_loopw [5] (fun i W=>∃ k m:Nat,k<=n/\i=.int .i64 k/\w.drewN m=W) (fun i _=>n-(intOf i).toNat)
 case atStart=>exact⟨0,0,Nat.zero_le _,rfl,rfl⟩
 case round =>
  obtain⟨k,m,hk,rfl,rfl⟩:=hrel;by_cases hlt:k<n
  . obtain⟨b,off,hA,_,hc⟩:=I.out.2 (by omega);obtain⟨b2,off2,hD,_,hc2⟩:=J.out.2 (by omega);have ck:(w.drewN m).cell? ⟨b,off+k,none⟩=some (.int .i64 (xs.getD k 0)):=hc k hlt;have ck2:(w.drewN m).cell? ⟨b2,off2+k,none⟩=some (.int .i64 (xs.getD k 0)):=hc2 k hlt;clear hc hc2;subst hA hD;generalize xs.getD k 0=z at *;obtain⟨W,hW⟩:∃ W,w.drewN m=W:=⟨_,rfl⟩;rw[hW] at ck ck2 ⊢;have hW:=hid hW;go_wp2_with fail
    go_quiet (fail)
    go_wp2
    go_roundw
    case rel=>exact⟨k+1,m+_,by omega,by go_num,by rw[<- hW.out]; exact(C1 w m _).symm⟩
    case measure=>simp[intOf]; omega
  . go_wp2;go_ret;exact⟨rfl,AM (Ac w) m⟩
end Go.Proofs.Ytflmmdljkhdjlaa
