import Derived.Test.YtflmmdljkhdjlaaZDrB
import Derived.OneCell
import Derived.Deep.AppendLies
import Derived.Deep.RegionLaw
import Derived.Test.YtflmmdljkhdjlaaZDrawIn
import Derived.Test.YtflmmdljkhdjlaaZInBuild
import Derived.Test.YtflmmdljkhdjlaaZInLegal
import Derived.Test.YtflmmdljkhdjlaaZEng
import Derived.Deep.CutRange
set_option linter.all false
set_option maxRecDepth 100000
set_option maxHeartbeats 8000000
namespace Go.Proofs.Ytflmmdljkhdjlaa
open Go.RowKit
open M
theorem Bc{W:World}{base:Nat}{e:TypeId}{sz:Nat}{A:Option Addr}{n c m:Nat}{xs:List Value}(h:W.ownsRow base e sz (.slice A n c) m xs):m<=c:=by
 rcases h.2 with⟨e1,rfl⟩ | ⟨g,cap,cur,e1,_,_,hnc,_⟩
 . omega
 . cases e1
   exact hnc
open Go.RowKit
open M
theorem below_grown{W W':World}(B:Below W.heap.size W W'):W.grownBy W' none:=⟨B.os,B.tape,B.output,B.size,fun k hk _=>B.block k hk⟩
theorem As{W W':World}{base:Nat}{e:TypeId}{sz:Nat}{v:Value}{n:Nat}{xs:List Value}(h:W.ownsRow base e sz v n xs)(B:Below W.heap.size W W'):W'.ownsRow base e sz v n xs:=h.kept (below_grown B) (by
 cases h':v.ownBlock with
 | none=>exact .inl rfl
 | some g=>exact .inr (by simp))
end Go.Proofs.Ytflmmdljkhdjlaa
