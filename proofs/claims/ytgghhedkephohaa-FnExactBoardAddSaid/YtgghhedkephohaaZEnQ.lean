import Derived.Test.YtgghhedkephohaaZEnB
import Derived.Test.YtgghhedkephohaaZEnBuild
set_option linter.all false
set_option maxRecDepth 100000
set_option maxHeartbeats 8000000
open Go.Lib
namespace Go.Proofs.Ytgghhedkephohaa
open Go.RowKit
open M
def Made(w:World)(u:Value)(ys:List En)(e:Ending)(w':World):Prop :=
 ∃ v,e=.returned (.tuple #[v,u])/\w'.ownsRow w.heap.size 25 2 v ys.length (AM ys)/\Below w.heap.size w w'
theorem DI(A:Option Addr)(n c:Nat)(w:World):(binOp .eql 23 (.slice A n c) (.slice none 0 0)).run Try.prog w=.ok (.bool A.isNone) w:=by
 have u:=Try.underlying23;have m:Op.maxDepth=9999+1:=rfl;cases A
 all_goals
  simp only[binOp,Op.equal,m,Sem.run_bind];rw[Op.equalIn];simp[run_underlying u]
theorem CC(A:Option Addr)(n cap:Nat)(xs:List En)(w:World)(Y:Ents w A n xs)(hn:n<=2000000) :
 Calls Try.prog 48 #[.slice A n cap] w fun e w'=>∃ v,e=.returned v/\w'.ownsRow w.heap.size 25 2 v xs.length (AM xs)/\Below w.heap.size w w':=by
 have hl:=hid Y.1;have Y:=hid Y;cases A with
 | none =>
  have h0:n=0:=by
   rcases Nat.eq_zero_or_pos n with h | h
   . exact h
   . obtain⟨_,_,e,_⟩:=Y.out.2 h;cases e
  subst h0;obtain rfl:xs=[]:=List.eq_nil_of_length_eq_zero hl.out;go_enter Try.func48,Try.ntmps48;have q:=DI none 0 cap w;go_wp2;go_ret;exact⟨_,rfl,⟨rfl,.inl ⟨rfl,rfl⟩⟩,Ac w⟩
 | some ad =>
  have q:=DI (some ad) n cap w;go_enter Try.func48,Try.ntmps48;go_wp2_with (at_builtin; refine Al _ rfl (.tmp 5) (.tmp 6) rfl w.heap.size (.slice (some ⟨w.heap.size,0,none⟩) 0 0) 0 [] rfl (Ah w _ _ rfl (Nat.le_refl _)) (some ad) n cap xs rfl (Y.out.alloc _) (by omega) (by simp) ?_);intro v' w9 O9 G9 _;have O9:=hid (show w9.ownsRow w.heap.size 25 2 v' xs.length (AM xs) from(by rw[hl.out]; simpa using O9));have H9:=hid ((Ad (Ac w) _).grown G9 (by simp) (fun g e=>by cases e; exact Nat.le_refl _));clear G9;go_wp2;go_ret;exact⟨_,rfl,O9.out,H9.out⟩
end Go.Proofs.Ytgghhedkephohaa
