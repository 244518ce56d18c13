import Derived.Test.YtgghhedkephohaaZNum
import Derived.Below
import Derived.Deep.RegionWith
import Derived.RegionTactic
import Derived.BigQuiet
import Derived.Deep.QuietTactic
set_option linter.all false
set_option maxRecDepth 100000
set_option maxHeartbeats 8000000
namespace Go.Proofs.Ytgghhedkephohaa
namespace M
def FI(x y:Int):Bool:=Di x (-1000000) 1000000&&Di y (-1000000) 1000000
end M
end Go.Proofs.Ytgghhedkephohaa
namespace Go.Proofs.Ytgghhedkephohaa
open Go.RowKit
open M
theorem Ad{w a:World}(h:Below w.heap.size w a)(o:Obj):Below w.heap.size w (a.alloc o):=h.alloc h.size o
theorem EV{w a:World}(h:Below w.heap.size w a)(b o:Nat)(v:Value)(hp:w.heap.size<=b):Below w.heap.size w (a.setCell ⟨b,o,none⟩ v):=h.setCell (p:=⟨b,o,none⟩) hp v
theorem Aa{w a b:World}(h:Below w.heap.size w a)(k:Below a.heap.size a b):Below w.heap.size w b:=h.trans (k.mono h.size)
theorem Ai{w a:World}(h:Below w.heap.size w a)(n:Nat):Below w.heap.size w (a.drewN n):=h.trans ⟨rfl,rfl,rfl,Nat.le_refl _,fun _ _=>rfl⟩
theorem Ac(w:World):Below w.heap.size w w:=Below.refl _ _
end Go.Proofs.Ytgghhedkephohaa
namespace Go.Proofs.Ytgghhedkephohaa
namespace M
end M
end Go.Proofs.Ytgghhedkephohaa
namespace Go.Proofs.Ytgghhedkephohaa
open Go.RowKit
open M
open Go.RowKit
open M
end Go.Proofs.Ytgghhedkephohaa
