/-
  What the program's own LevelHash returns, at every argument; slices.Concat of two slices of boxes.
-/
import Derived.Test.YtnoenjociioffaaDoorLevImpl
import Derived.Test.YtnoenjociioffaaDoorLevH
import Derived.Test.YtnoenjociioffaaDoorHashImpl
import Derived.Lib.AppendZerosOnto
import Derived.Lib.SliceRun
namespace Go.Proofs.YtnoenjociioffaaDoor
open Go.RowKit
open M

theorem Ints.sevens (w : World) (B : Nat) (a0 a1 a2 a3 a4 a5 a6 : Int) (t : TypeId) (hB : B = w.heap.size) : Ints (w.alloc (.cells #[.int .i64 a0, .int .i64 a1, .int .i64 a2, .int .i64 a3, .int .i64 a4, .int .i64 a5, .int .i64 a6] t)) (some ⟨B, 0, none⟩) 7 [a0, a1, a2, a3, a4, a5, a6] :=
  hB ▸ ⟨rfl, fun _ => ⟨w.heap.size, 0, rfl, by simp, fun k hk => by
    match k, hk with
    | 0, _ => simp
    | 1, _ => simp
    | 2, _ => simp
    | 3, _ => simp
    | 4, _ => simp
    | 5, _ => simp
    | 6, _ => simp⟩⟩

/-- At a round's head of the second loop. -/
def CatRel (w : World) (n m : Nat) (ws gs : List Bx) (v _s i : Value) (W : World) : Prop :=
  ((i = .int .i64 0 ∧ W.ownsRow w.heap.size 27 4 v 0 (vcl [])) ∨ (i = .int .i64 1 ∧ W.ownsRow w.heap.size 27 4 v n (vcl ws)) ∨ (i = .int .i64 2 ∧ W.ownsRow w.heap.size 27 4 v (n + m) (vcl (ws ++ gs)))) ∧ Below w.heap.size w W

end Go.Proofs.YtnoenjociioffaaDoor
