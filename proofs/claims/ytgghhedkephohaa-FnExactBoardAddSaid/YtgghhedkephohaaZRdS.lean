import Derived.Laws.BitsAllLaws
import Derived.Deep.RegionHeld
import Derived.OpenShut
import Derived.Test.YtgghhedkephohaaZBoxS
import Derived.Deep.RegionHeld3
set_option linter.all false
set_option maxRecDepth 100000
set_option maxHeartbeats 8000000
namespace Go.Proofs.Ytgghhedkephohaa
open Go.RowKit
structure Kept(r:Nat)(w w':World):Prop where
 os:w'.os=w.os
 tape:w'.tape=w.tape
 output:w'.output=w.output
 size:w.heap.size<=w'.heap.size
 block:∀ k,k<w.heap.size->k≠r->w'.heap[k]?=w.heap[k]?
theorem Kept.refl(r:Nat)(w:World):Kept r w w:=⟨rfl,rfl,rfl,Nat.le_refl _,fun _ _ _=>rfl⟩
theorem Kept.trans{r:Nat}{a b c:World}(h:Kept r a b)(k:Kept r b c):Kept r a c :=
 ⟨k.os.trans h.os,k.tape.trans h.tape,k.output.trans h.output,Nat.le_trans h.size k.size,fun i hi hr=>(k.block i (Nat.lt_of_lt_of_le hi h.size) hr).trans (h.block i hi hr)⟩
theorem Kept.of_below{r:Nat}{w w':World}(h:Below w.heap.size w w'):Kept r w w':=⟨h.os,h.tape,h.output,h.size,fun k hk _=>h.block k hk⟩
theorem Kept.below{r B:Nat}{w w':World}(h:Kept r w w')(hB:B<=w.heap.size)(hr:B<=r):Below B w w' :=
 ⟨h.os,h.tape,h.output,h.size,fun k hk=>h.block k (by omega) (by omega)⟩
theorem Kept.cell{r:Nat}{w w':World}(h:Kept r w w'){p:Addr}(hp:p.block<w.heap.size)(hr:p.block≠r):w'.cell? p=w.cell? p :=
 World.cell?_of_block (w:=w) (h.block p.block hp hr)
theorem Kept.alloc{r:Nat}{w a:World}(h:Kept r w a)(o:Obj):Kept r w (a.alloc o):=h.trans (Kept.of_below ((Below.refl _ _).alloc (Nat.le_refl _) o))
theorem Kept.set{r:Nat}{w a:World}(h:Kept r w a)(b o:Nat)(v:Value)(hb:w.heap.size<=b):Kept r w (a.setCell ⟨b,o,none⟩ v) :=
 ⟨h.os,h.tape,h.output,by simpa[World.setCell] using h.size,fun k hk hr=>(Below.heap_setCell a ⟨b,o,none⟩ v k (by show k≠b; omega)).trans (h.block k hk hr)⟩
theorem Kept.drewN{r:Nat}{w a:World}(h:Kept r w a)(n:Nat):Kept r w (a.drewN n):=⟨h.os,h.tape,h.output,h.size,h.block⟩
theorem Kept.step(w:World)(r:Nat)(v:Value)(o n:Nat):Kept r w ((w.setCell ⟨r,o,none⟩ v).drewN n) :=
 ⟨rfl,rfl,rfl,by simp[World.drewN,World.setCell],fun k _ hr=>Below.heap_setCell w ⟨r,o,none⟩ v k hr⟩
open Go.RowKit
open Go.RowKit
theorem Cv{w a:World}(h:Below w.heap.size w a):Below w.heap.size w a.drew:=h.drew
open Go.RowKit
theorem Kept.drew1{r:Nat}{w a:World}(h:Kept r w a):Kept r w a.drew:=⟨h.os,h.tape,h.output,h.size,h.block⟩
end Go.Proofs.Ytgghhedkephohaa
