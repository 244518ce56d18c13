import Derived.Test.YtgbiagonfbnooaaDoorZRepA
import Derived.Test.YtgbiagonfbnooaaDoorZLevLink
set_option linter.all false
set_option maxRecDepth 100000
set_option maxHeartbeats 8000000
namespace Go.Proofs.YtgbiagonfbnooaaDoor
open Go.RowKit
open M
def Mk(lo:Nat)(W:World)(A:Option Addr)(n:Nat):Prop:=0<n->∃ g,A=some ⟨g,0,none⟩/\lo<=g/\g<W.heap.size/\W.there g 0 n
theorem Mk.step{lo n:Nat}{W W':World}{A:Option Addr}(h:Mk lo W A n)(B:Below W.heap.size W W'):Mk lo W' A n:=fun hn=>by
 obtain⟨g,e,h1,h2,T⟩:=h hn;exact⟨g,e,h1,Nat.lt_of_lt_of_le h2 B.size,DD T B h2⟩
theorem Mk.of_own{W:World}{base:Nat}{e:TypeId}{sz:Nat}{A:Option Addr}{n c:Nat}{vs:List Value}(O:W.ownsRow base e sz (.slice A n c) n vs)(h1:0<sz):Mk base W A (n*sz):=fun hn=>by
 have h0:0<n:=Nat.pos_of_ne_zero (fun e=>by subst e; simp at hn);obtain⟨g,cap,e1,hb,hg⟩:=FB O h0;cases e1
 refine⟨g,rfl,hb,hg,fun j hj=>?_⟩;rw[Nat.zero_add];refine⟨?_,O.frozenAt j⟩;rw[O.cellAt j hj,List.getElem?_eq_getElem (by rw[O.1]; exact hj)];rfl
theorem PtAt.other{W:World}{g o:Nat}{q:Pt}(h:PtAt W g o q){p:Nat}(hp:p<o\/o+1<p)(v:Value):PtAt (W.setCell ⟨g,p,none⟩ v) g o q :=
 ⟨(World.cell?_setCell_other _ _ _ _ (by first | (simp; done) | (simp; omega))).trans h.c0,(World.cell?_setCell_other _ _ _ _ (by first | (simp; done) | (simp; omega))).trans h.c1⟩
def Fr(n:Nat)(A:Option Addr)(w w':World):Prop:=w.heap.size<=w'.heap.size/\∀ b,b<w.heap.size->(0<n->A≠some ⟨b,0,none⟩)->w'.heap[b]?=w.heap[b]?
theorem Parts.fr{m:Nat}{D:Option Addr}{w w':World}{A:Option Addr}{n:Nat}{xs:List Pt}(h:Parts w A n xs)(B:Fr m D w w')(hA:0<n->0<m->∀ k off,A=some ⟨k,off,none⟩->D≠some ⟨k,0,none⟩):Parts w' A n xs :=
 ⟨h.1,fun hn=>by
  obtain⟨b,off,e,hb,hc⟩:=h.2 hn;exact⟨b,off,e,Nat.lt_of_lt_of_le hb B.1,fun k hk=>(hc k hk).of (B.2 b hb (fun hm=>hA hn hm b off e))⟩⟩
theorem Inputs.fr{m:Nat}{D:Option Addr}{w w':World}{A:Option Addr}{n:Nat}{xs:List In}(h:Inputs w A n xs)(B:Fr m D w w')(hA:0<n->0<m->∀ k off,A=some ⟨k,off,none⟩->D≠some ⟨k,0,none⟩):Inputs w' A n xs :=
 ⟨h.1,fun hn=>by
  obtain⟨b,off,e,hb,hc⟩:=h.2 hn;exact⟨b,off,e,Nat.lt_of_lt_of_le hb B.1,fun k hk=>(hc k hk).of (B.2 b hb (fun hm=>hA hn hm b off e))⟩⟩
theorem Ints.fr{m:Nat}{D:Option Addr}{w w':World}{A:Option Addr}{n:Nat}{xs:List Int}(h:Ints w A n xs)(B:Fr m D w w')(hA:0<n->0<m->∀ k off,A=some ⟨k,off,none⟩->D≠some ⟨k,0,none⟩):Ints w' A n xs :=
 ⟨h.1,fun hn=>by
  obtain⟨b,off,e,hb,hc⟩:=h.2 hn;exact⟨b,off,e,Nat.lt_of_lt_of_le hb B.1,fun k hk=>(World.cell?_of_block (a:=⟨b,off+k,none⟩) (B.2 b hb (fun hm=>hA hn hm b off e))).trans (hc k hk)⟩⟩
theorem Mk.fr{m sz:Nat}{D:Option Addr}{w w':World}{A:Option Addr}{lo:Nat}(h:Mk lo w A sz)(B:Fr m D w w')(hA:0<sz->0<m->D≠A):Mk lo w' A sz:=fun hn=>by
 obtain⟨g,e,h1,h2,T⟩:=h hn;have eb:=B.2 g h2 (fun hm=>by rw[<- e]; exact hA hn hm);exact⟨g,e,h1,Nat.lt_of_lt_of_le h2 B.1,fun j hj=>by
  obtain⟨a,b⟩:=T j hj;exact⟨by rw[World.cell?_of_block (a:=⟨g,0+j,none⟩) eb]; exact a,by rw[World.frozen?_of_block (a:=⟨g,0+j,none⟩) eb]; exact b⟩⟩
end Go.Proofs.YtgbiagonfbnooaaDoor
