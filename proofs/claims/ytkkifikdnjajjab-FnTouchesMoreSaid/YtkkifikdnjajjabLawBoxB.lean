/-
  The walks of the laws of common parts and circles: each returns true at every code.
-/
import Derived.Test.YtkkifikdnjajjabBoxImpl
import Derived.Test.YtkkifikdnjajjabDrawBoxC
import Derived.Test.YtkkifikdnjajjabBoxLaws
namespace Go.Proofs.Ytkkifikdnjajjab
open Go.RowKit
open M

theorem qc_all {W : World} {b : Nat} {x0 x1 x2 x3 x4 x5 x6 x7 : Int} (h : QCell W b x0 x1 x2 x3 x4 x5 x6 x7) : W.cell? ⟨b, 0, none⟩ = some (.int .i64 x0) ∧ W.cell? ⟨b, 1, none⟩ = some (.int .i64 x1) ∧ W.cell? ⟨b, 2, none⟩ = some (.int .i64 x2) ∧ W.cell? ⟨b, 3, none⟩ = some (.int .i64 x3) ∧ W.cell? ⟨b, 4, none⟩ = some (.int .i64 x4) ∧ W.cell? ⟨b, 5, none⟩ = some (.int .i64 x5) ∧ W.cell? ⟨b, 6, none⟩ = some (.int .i64 x6) ∧ W.cell? ⟨b, 7, none⟩ = some (.int .i64 x7) := ⟨h.c0, h.c1, h.c2, h.c3, h.c4, h.c5, h.c6, h.c7⟩

end Go.Proofs.Ytkkifikdnjajjab
