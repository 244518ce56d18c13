import Derived.Test.YtgghhedkephohaaZEnRow
import Derived.Test.YtgghhedkephohaaZInBuild
set_option linter.all false
set_option maxRecDepth 100000
set_option maxHeartbeats 8000000
namespace Go.Proofs.Ytgghhedkephohaa
open Go.RowKit
open M
theorem Ak{W W':World}{base:Nat}{e:TypeId}{sz:Nat}{v:Value}{n:Nat}{xs:List Value}(h:W.ownsRow base e sz v n xs)(B:Below W.heap.size W W'):W'.ownsRow base e sz v n xs:=h.kept (show W.grownBy W' none from⟨B.os,B.tape,B.output,B.size,fun k hk _=>B.block k hk⟩) (by
 cases h':v.ownBlock with
 | none=>exact .inl rfl
 | some g=>exact .inr (by simp))
end Go.Proofs.Ytgghhedkephohaa
