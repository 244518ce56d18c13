/-
  What is forbidden, as a map that a call has made: two keys, each with its word.
-/
import Derived.Test.YtnoenjociioffaaDoorInS
import Derived.Maps.OwnSet
namespace Go.Proofs.YtnoenjociioffaaDoor
open Go.RowKit
open Go.Maps
open M

theorem bool_inv {P : Program} {e : TypeId} (he : P.underlying e = some .bool) {v : Value} {z : DataW Unit × List MemPlace} (h : plainElem P e v = some z) : ∃ x, v = .bool x ∧ z = (.lit (.bool x), []) := by
  unfold plainElem at h
  rw [he] at h
  cases v <;> simp at h
  exact ⟨_, rfl, h.symm⟩
/-- What such a map reads as. -/
abbrev bnD (x y : Bool) : DataW Unit := .map [(.int .i64 1, .lit (.bool x)), (.int .i64 2, .lit (.bool y))]
/-- Block b is the map of what is forbidden. -/
def Bans (w : World) (b : Nat) (x y : Bool) : Prop := w.ownsMap (H := Unit) Tryd.prog 3 (plainElem Tryd.prog 4) b 2 (bnD x y)
theorem Bans.step {w w' : World} {b : Nat} {x y : Bool} (h : Bans w b x y) (B : Below w.heap.size w w') : Bans w' b x y := by
  have hl := World.ownsMap.lt h
  obtain ⟨es, clock, hb, F, hs, hD⟩ := h
  exact ⟨es, clock, (B.block b hl).trans hb, F, hs, hD⟩
theorem Bans.alloc {w : World} {b : Nat} {x y : Bool} (h : Bans w b x y) (o : Obj) : Bans (w.alloc o) b x y := World.ownsMap.alloc h o
theorem Bans.drew {w : World} {b : Nat} {x y : Bool} (h : Bans w b x y) : Bans w.drew b x y := h
theorem Bans.kept {w w' : World} {b r : Nat} {x y : Bool} (h : Bans w b x y) (K : Kept r w w') (hne : b ≠ r) : Bans w' b x y := by
  have hl := World.ownsMap.lt h
  obtain ⟨es, clock, hb, F, hs, hD⟩ := h
  exact ⟨es, clock, (K.block b hl hne).trans hb, F, hs, hD⟩
theorem key_law : Keyed Tryd.prog 3 := int_keyed Tryd.underlying3
theorem bool_zero (w : World) : (zeroValue 4).run Tryd.prog w = .ok (.bool false) w := by kernel_rfl

end Go.Proofs.YtnoenjociioffaaDoor
