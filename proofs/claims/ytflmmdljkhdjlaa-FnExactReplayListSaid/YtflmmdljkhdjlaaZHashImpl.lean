import Derived.Test.YtflmmdljkhdjlaaZRowS
set_option linter.all false
set_option maxRecDepth 100000
set_option maxHeartbeats 8000000
namespace Go.Proofs.Ytflmmdljkhdjlaa
open Go.RowKit
open M
theorem Kept.mine{r:Nat}{w a:World}(h:Kept r w a)(o:Nat)(v:Value):Kept r w (a.setCell ⟨r,o,none⟩ v) :=
 ⟨h.os,h.tape,h.output,by simpa[World.setCell] using h.size,fun k hk hr=>(Below.heap_setCell a ⟨r,o,none⟩ v k hr).trans (h.block k hk hr)⟩
def Off(A:Option Addr)(n b:Nat):Prop:=0<n->∀ k off,A=some ⟨k,off,none⟩->k≠b
theorem Ints.kept{w w':World}{A:Option Addr}{n r:Nat}{xs:List Int}(h:Ints w A n xs)(K:Kept r w w')(hA:Off A n r):Ints w' A n xs :=
 ⟨h.1,fun hn=>by
  obtain⟨b,off,e,hb,hc⟩:=h.2 hn;exact⟨b,off,e,Nat.lt_of_lt_of_le hb K.size,fun k hk=>(K.cell (p:=⟨b,off+k,none⟩) hb (hA hn b off e)).trans (hc k hk)⟩⟩
theorem Ints.off{w:World}{A:Option Addr}{n:Nat}{xs:List Int}(h:Ints w A n xs){b:Nat}(hb:w.heap.size<=b):Off A n b:=fun hn k off e=>by
 obtain⟨b',off',e',hb',_⟩:=h.2 hn;rw[e'] at e;cases e
 omega
end Go.Proofs.Ytflmmdljkhdjlaa
