import Derived.Test.YtgghhedkephohaaZLevS
import Derived.Deep.MidRow
set_option linter.all false
set_option maxRecDepth 100000
set_option maxHeartbeats 8000000
namespace Go.Proofs.Ytgghhedkephohaa
open Go.RowKit
theorem CellsAt.range{W:World}{b:Nat}{vs:List Value}(h:CellsAt W b vs):W.rangeAt b 0 vs:=fun j v hj=>by rw[Nat.zero_add]; exact h.cell j v hj
theorem CellsAt.there{W:World}{b:Nat}{vs:List Value}(h:CellsAt W b vs){n:Nat}(hn:n<=vs.length):W.there b 0 n:=fun j hj=>by
 rw[Nat.zero_add];exact⟨by rw[h.cell j _ (List.getElem?_eq_getElem (by omega))]; rfl,h.fr j⟩
theorem Cm{b:Nat}{W A:World}(h:Kept b W A)(o:Nat)(v:Value):Kept b W (A.setCell ⟨b,o,none⟩ v):=h.trans (Kept.step A b v o 0)
theorem DC{b:Nat}{W:World}:∀(vs:List Value) (o:Nat) {A:World},Kept b W A->Kept b W (A.setCells b o vs)
 | [],_,_,h=>h
 | v::vs,o,_,h=>DC vs (o+1) (Cm h o v)
theorem CellsAt.all{W:World}{b:Nat}{us:List Value}(h:CellsAt W b us)(vs:List Value)(hl:vs.length<=us.length):CellsAt (W.setCells b 0 vs) b vs :=
 ⟨fun j v hj=>by have:=World.rangeAt_setCells_same W b 0 vs (h.there hl) j v hj; rwa [Nat.zero_add] at this,fun j=>by rw[World.frozen?_setCells]; exact h.fr j,Nat.lt_of_lt_of_le h.lt (DC vs 0 (Kept.refl b W)).size⟩
open Go.RowKit
end Go.Proofs.Ytgghhedkephohaa
