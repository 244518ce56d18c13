import Derived.Test.YtgghhedkephohaaZEnQ
import Derived.Deep.CutRange
set_option linter.all false
set_option maxRecDepth 100000
set_option maxHeartbeats 8000000
namespace Go.Proofs.Ytgghhedkephohaa
open Go.RowKit
open M
theorem Ents.cut{w:World}{g n c k:Nat}{xs:List En}(h:Ents w (some ⟨g,0,none⟩) n xs)(hc:n<=c)(hk:k<=n):Ents w (if c=k then some ⟨g,0,none⟩ else some ⟨g,k*2,none⟩) (n-k) (xs.drop k) :=
 ⟨by rw[List.length_drop,h.1],fun h0=>by
  obtain⟨b,off,e,hb,hcell⟩:=h.2 (by omega);cases e
  rw[if_neg (by omega)];refine⟨g,k*2,rfl,hb,fun j hj=>?_⟩;have t:=hcell (k+j) (by omega);have e2:(xs.drop k).getD j ez=xs.getD (k+j) ez:=by simp[List.getD_eq_getElem?_getD,List.getElem?_drop]
  rw[e2,show k*2+j*2=0+(k+j)*2 by omega];exact t⟩
end Go.Proofs.Ytgghhedkephohaa
