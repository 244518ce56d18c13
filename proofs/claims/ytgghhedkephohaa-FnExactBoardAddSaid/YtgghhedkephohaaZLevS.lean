import Derived.Test.YtgghhedkephohaaZHashS
import Derived.Test.YtgghhedkephohaaZRdS
set_option linter.all false
set_option maxRecDepth 100000
set_option maxHeartbeats 8000000
namespace Go.Proofs.Ytgghhedkephohaa
namespace M
structure Bx where
 a:Int
 b:Int
 c:Int
 d:Int
def Bx.ok(q:Bx):Bool:=FM q.a q.b q.c q.d
end M
end Go.Proofs.Ytgghhedkephohaa
namespace Go.Proofs.Ytgghhedkephohaa
open Go.RowKit
open M
structure CellsAt(W:World)(b:Nat)(vs:List Value):Prop where
 cell:∀ j v,vs[j]?=some v->W.cell? ⟨b,j,none⟩=some v
 fr:∀ j,W.frozen? ⟨b,j,none⟩=false
 lt:b<W.heap.size
theorem CellsAt.of{W w':World}{b:Nat}{vs:List Value}(h:CellsAt W b vs)(e:w'.heap[b]?=W.heap[b]?)(hs:W.heap.size<=w'.heap.size):CellsAt w' b vs :=
 ⟨fun j v hj=>(World.cell?_of_block (a:=⟨b,j,none⟩) e).trans (h.cell j v hj),fun j=>(World.frozen?_of_block (a:=⟨b,j,none⟩) e).trans (h.fr j),Nat.lt_of_lt_of_le h.lt hs⟩
theorem CellsAt.step{W w':World}{b:Nat}{vs:List Value}(h:CellsAt W b vs)(B:Below W.heap.size W w'):CellsAt w' b vs:=h.of (B.block b h.lt) B.size
theorem CellsAt.kept{r:Nat}{W w':World}{b:Nat}{vs:List Value}(h:CellsAt W b vs)(K:Kept r W w')(hne:b≠r):CellsAt w' b vs:=h.of (K.block b h.lt hne) K.size
theorem CellsAt.alloc{W:World}{b:Nat}{vs:List Value}(h:CellsAt W b vs)(o:Obj):CellsAt (W.alloc o) b vs:=h.step (Ad (Ac W) o)
theorem CellsAt.drew{W:World}{b:Nat}{vs:List Value}(h:CellsAt W b vs):CellsAt W.drew b vs:=h.step (Ac W).drew
theorem CellsAt.new(W:World)(b:Nat)(vs:List Value)(ty:TypeId)(hb:b=W.heap.size):CellsAt (W.alloc (.cells vs.toArray ty)) b vs:=by
 subst hb;exact⟨fun j v hj=>by simp[hj],fun j=>by simp,by simp⟩
theorem CellsAt.set{W:World}{b:Nat}{vs:List Value}(h:CellsAt W b vs)(o:Nat)(ho:o<vs.length)(v:Value):CellsAt (W.setCell ⟨b,o,none⟩ v) b (vs.set o v) :=
 ⟨fun j u hj=>by
  by_cases e:j=o
  . subst e;rw[List.getElem?_set_self ho] at hj;cases hj
    exact World.cell?_setCell_same' _ _ _ (by rw[h.cell j _ (List.getElem?_eq_getElem ho)]; rfl)
  . rw[List.getElem?_set_ne (by omega)] at hj;rw[World.cell?_setCell_other _ _ _ _ (by first | (simp; done) | (simp; omega))];exact h.cell j u hj,fun j=>by rw[World.frozen?_setCell]; exact h.fr j,by rw[World.size_setCell]; exact h.lt⟩
end Go.Proofs.Ytgghhedkephohaa
namespace Go.Proofs.Ytgghhedkephohaa
namespace M
end M
theorem FO{W:World}{b:Nat}{v0 v1 v2:Value}(h:CellsAt W b [v0,v1,v2]):W.cell? ⟨b,0,none⟩=some v0/\W.cell? ⟨b,1,none⟩=some v1/\W.cell? ⟨b,2,none⟩=some v2 :=
 ⟨h.cell 0 _ rfl,h.cell 1 _ rfl,h.cell 2 _ rfl⟩
theorem FP{W:World}{b:Nat}{v0 v1 v2 v3 v4 v5 v6 v7 v8:Value}(h:CellsAt W b [v0,v1,v2,v3,v4,v5,v6,v7,v8]):W.cell? ⟨b,0,none⟩=some v0/\W.cell? ⟨b,1,none⟩=some v1/\W.cell? ⟨b,2,none⟩=some v2/\W.cell? ⟨b,3,none⟩=some v3/\W.cell? ⟨b,4,none⟩=some v4/\W.cell? ⟨b,5,none⟩=some v5/\W.cell? ⟨b,6,none⟩=some v6/\W.cell? ⟨b,7,none⟩=some v7/\W.cell? ⟨b,8,none⟩=some v8 :=
 ⟨h.cell 0 _ rfl,h.cell 1 _ rfl,h.cell 2 _ rfl,h.cell 3 _ rfl,h.cell 4 _ rfl,h.cell 5 _ rfl,h.cell 6 _ rfl,h.cell 7 _ rfl,h.cell 8 _ rfl⟩
theorem FN{W:World}{b:Nat}{v0 v1 v2 v3 v4 v5 v6 v7 v8 v9 v10:Value}(h:CellsAt W b [v0,v1,v2,v3,v4,v5,v6,v7,v8,v9,v10]):W.cell? ⟨b,0,none⟩=some v0/\W.cell? ⟨b,1,none⟩=some v1/\W.cell? ⟨b,2,none⟩=some v2/\W.cell? ⟨b,3,none⟩=some v3/\W.cell? ⟨b,4,none⟩=some v4/\W.cell? ⟨b,5,none⟩=some v5/\W.cell? ⟨b,6,none⟩=some v6/\W.cell? ⟨b,7,none⟩=some v7/\W.cell? ⟨b,8,none⟩=some v8/\W.cell? ⟨b,9,none⟩=some v9/\W.cell? ⟨b,10,none⟩=some v10 :=
 ⟨h.cell 0 _ rfl,h.cell 1 _ rfl,h.cell 2 _ rfl,h.cell 3 _ rfl,h.cell 4 _ rfl,h.cell 5 _ rfl,h.cell 6 _ rfl,h.cell 7 _ rfl,h.cell 8 _ rfl,h.cell 9 _ rfl,h.cell 10 _ rfl⟩
end Go.Proofs.Ytgghhedkephohaa
