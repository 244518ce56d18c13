/-
  What the program's own LevelHash returns, at every argument.
-/
import Derived.Test.YtnoenjociioffaaDoorLevHashImpl
namespace Go.Proofs.YtnoenjociioffaaDoor
open Go.RowKit
open M

/-- At a round's head: the hash of the boxes so far. -/
def LhRel (w : World) (hb N : Nat) (h : Int) (vs : List Value) (D : Option Addr) (bs : List Bx) (_b i : Value) (W : World) : Prop :=
  ∃ j : Nat, j ≤ N ∧ i = .int .i64 j ∧ ICell W hb (hsh h (flat (bs.take j))) ∧ CellsAt W w.heap.size vs ∧ Boxes W D N bs ∧ Below w.heap.size w W
theorem lh_parts {i t x y : Int} {ws gs : List Bx} {p q r s b : Int} {n m : Nat} (h : lvB i t x y ws gs p q r s b = true) (hn : ws.length = n) (hm : gs.length = m) :
    lhI i t x y ws gs p q r s b = hsh (hsh (hsh 17 [i, t, x, y, (n : Int), (m : Int), b]) (flat (ws ++ gs))) [p, q, r, s] := by
  rw [lh_yes h, lvL, hsh_append, List.append_assoc, hsh_append, flat_append, hn, hm]

end Go.Proofs.YtnoenjociioffaaDoor
