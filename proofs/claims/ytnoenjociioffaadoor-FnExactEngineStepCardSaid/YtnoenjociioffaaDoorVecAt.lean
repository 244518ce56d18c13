/-
  A vector in memory, and how it stands while nothing below is written.
-/
import Derived.Test.YtnoenjociioffaaDoorRdS
import Derived.Test.YtnoenjociioffaaDoorVecP
import Derived.Test.YtnoenjociioffaaDoorVecS
namespace Go.Proofs.YtnoenjociioffaaDoor
open Go.RowKit
open M

/-- A vector in memory. -/
structure VecAt (w : World) (b : Nat) (x y : Int) : Prop where
  c0 : w.cell? ⟨b, 0, none⟩ = some (.int .i64 x)
  c1 : w.cell? ⟨b, 1, none⟩ = some (.int .i64 y)
  lt : b < w.heap.size
theorem VecAt.step {W w' : World} {b : Nat} {x y : Int} (h : VecAt W b x y) (B : Below W.heap.size W w') : VecAt w' b x y :=
  ⟨(B.cell (p := ⟨b, 0, none⟩) h.lt).trans h.c0, (B.cell (p := ⟨b, 1, none⟩) h.lt).trans h.c1, Nat.lt_of_lt_of_le h.lt B.size⟩
theorem VecAt.alloc {W : World} {b : Nat} {x y : Int} (h : VecAt W b x y) (o : Obj) : VecAt (W.alloc o) b x y := h.step (bl_alloc (bl_refl W) o)
theorem VecAt.new (W : World) (b : Nat) (x y : Int) (t : TypeId) (hb : b = W.heap.size) : VecAt (W.alloc (.cells #[.int .i64 x, .int .i64 y] t)) b x y := by
  subst hb
  exact ⟨by simp, by simp, by simp⟩

end Go.Proofs.YtnoenjociioffaaDoor
