import Derived.Test.YtgghhedkephohaaZBdR
set_option linter.all false
set_option maxRecDepth 100000
set_option maxHeartbeats 8000000
namespace Go.Proofs.Ytgghhedkephohaa
open Go.RowKit
open M
theorem M.brem_len{xs:List En}{p:Int}{ys:List En}{b:Bool}(h:brem xs p=(ys,b)):ys.length<=xs.length:=by
 unfold brem at h;split at h
 . obtain⟨rfl,_⟩:=Prod.mk.inj h; simp
 . obtain⟨rfl,_⟩:=Prod.mk.inj h; exact List.length_filter_le _ _
end Go.Proofs.Ytgghhedkephohaa
