import Derived.Test.YtflmmdljkhdjlaaZNum
import Derived.Below
import Derived.Deep.RegionWith
import Derived.RegionTactic
import Derived.BigQuiet
import Derived.Deep.QuietTactic
set_option linter.all false
set_option maxRecDepth 100000
set_option maxHeartbeats 8000000
namespace Go.Proofs.Ytflmmdljkhdjlaa
namespace M
def AG(x y:Int):Bool:=Aw x (-1000000) 1000000&&Aw y (-1000000) 1000000
def mu(a b:Int):Int:=(a*b).tdiv 1000
def vl(x y:Int):Int:=sq (x*x+y*y)
def dirs:List Int:=[1000,924,707,383,0,-383,-707,-924,-1000,-924,-707,-383,0,383,707,924]
def Dh(d:Int):Int:=if Aw d 0 15 then dirs.getD d.toNat 0 else 0
def Di(d:Int):Int:=if Aw d 0 15 then dirs.getD ((d.toNat+12) % 16) 0 else 0
def HG(x y m:Int):Bool:=AG x y&&Aw m 0 1000000
def Jh(x y m:Int):Int:=if HG x y m then (if vl x y<=m then x else (x*m).tdiv (vl x y)) else 0
def Ji(x y m:Int):Int:=if HG x y m then (if vl x y<=m then y else (y*m).tdiv (vl x y)) else 0
end M
end Go.Proofs.Ytflmmdljkhdjlaa
namespace Go.Proofs.Ytflmmdljkhdjlaa
open Go.RowKit
open M
theorem Ab{w a:World}(h:Below w.heap.size w a)(o:Obj):Below w.heap.size w (a.alloc o):=h.alloc h.size o
theorem Ar{w a:World}(h:Below w.heap.size w a)(b o:Nat)(v:Value)(hp:w.heap.size<=b):Below w.heap.size w (a.setCell ⟨b,o,none⟩ v):=h.setCell (p:=⟨b,o,none⟩) hp v
theorem Aa{w a b:World}(h:Below w.heap.size w a)(k:Below a.heap.size a b):Below w.heap.size w b:=h.trans (k.mono h.size)
theorem AM{w a:World}(h:Below w.heap.size w a)(n:Nat):Below w.heap.size w (a.drewN n):=h.trans ⟨rfl,rfl,rfl,Nat.le_refl _,fun _ _=>rfl⟩
theorem Ac(w:World):Below w.heap.size w w:=Below.refl _ _
end Go.Proofs.Ytflmmdljkhdjlaa
namespace Go.Proofs.Ytflmmdljkhdjlaa
namespace M
end M
end Go.Proofs.Ytflmmdljkhdjlaa
namespace Go.Proofs.Ytflmmdljkhdjlaa
open Go.RowKit
open M
open Go.RowKit
open M
end Go.Proofs.Ytflmmdljkhdjlaa
namespace Go.Proofs.Ytflmmdljkhdjlaa
namespace M
def Ex(a b c d:Int):Bool:=AG a b&&AG c d&&decide (a<=c)&&decide (b<=d)
def FB(a b c d x y:Int):Bool:=Aw x a c&&Aw y b d
def HI(a b c d x y r:Int):Bool:=decide ((x-max a (min x c))*(x-max a (min x c))+(y-max b (min y d))*(y-max b (min y d))<=r*r)
end M
end Go.Proofs.Ytflmmdljkhdjlaa
namespace Go.Proofs.Ytflmmdljkhdjlaa
open Go.RowKit
open M
end Go.Proofs.Ytflmmdljkhdjlaa
namespace Go.Proofs.Ytflmmdljkhdjlaa
namespace M
end M
end Go.Proofs.Ytflmmdljkhdjlaa
