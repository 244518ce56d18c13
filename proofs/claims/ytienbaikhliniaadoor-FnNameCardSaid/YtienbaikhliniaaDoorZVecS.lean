import Derived.Test.YtienbaikhliniaaDoorZNum
import Derived.Below
import Derived.Deep.RegionWith
import Derived.RegionTactic
import Derived.BigQuiet
import Derived.Deep.QuietTactic
set_option linter.all false
set_option maxRecDepth 100000
set_option maxHeartbeats 8000000
namespace Go.Proofs.YtienbaikhliniaaDoor
namespace M
end M
end Go.Proofs.YtienbaikhliniaaDoor
namespace Go.Proofs.YtienbaikhliniaaDoor
open Go.RowKit
open M
theorem AL{w a:World}(h:Below w.heap.size w a)(o:Obj):Below w.heap.size w (a.alloc o):=h.alloc h.size o
theorem Ag{w a b:World}(h:Below w.heap.size w a)(k:Below a.heap.size a b):Below w.heap.size w b:=h.trans (k.mono h.size)
theorem An(w:World):Below w.heap.size w w:=Below.refl _ _
end Go.Proofs.YtienbaikhliniaaDoor
namespace Go.Proofs.YtienbaikhliniaaDoor
namespace M
end M
end Go.Proofs.YtienbaikhliniaaDoor
namespace Go.Proofs.YtienbaikhliniaaDoor
open Go.RowKit
open M
open Go.RowKit
open M
end Go.Proofs.YtienbaikhliniaaDoor
