import Derived.Test.YtgghhedkephohaaZBdR
set_option linter.all false
set_option maxRecDepth 100000
set_option maxHeartbeats 8000000
namespace Go.Proofs.Ytgghhedkephohaa
open Go.RowKit
open M
theorem M.badd_max{xs:List En}{e:En}{ys:List En}{cd:Int}(h:Am xs e=(ys,cd)):ys.length<=max 4 xs.length:=by
 unfold Am at h;split at h
 . obtain⟨rfl,_⟩:=Prod.mk.inj h; simp
 . split at h
   . obtain⟨rfl,_⟩:=Prod.mk.inj h; omega
   . split at h
     . obtain⟨rfl,_⟩:=Prod.mk.inj h; omega
     . obtain⟨rfl,_⟩:=Prod.mk.inj h; rw[BF]; omega
end Go.Proofs.Ytgghhedkephohaa
