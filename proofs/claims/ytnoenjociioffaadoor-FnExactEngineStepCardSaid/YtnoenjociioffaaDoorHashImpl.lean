/-
  What the program's own functions of chapter 4 return, at every argument: the contracts.
-/
import Derived.Test.YtnoenjociioffaaDoorHashS
import Derived.Test.YtnoenjociioffaaDoorRdS
import Derived.Test.YtnoenjociioffaaDoorRowS
import Derived.Deep.RegionHeld3
namespace Go.Proofs.YtnoenjociioffaaDoor
open Go.RowKit
open M

/-- An integer in memory that may be written. -/
structure ICell (w : World) (b : Nat) (x : Int) : Prop where
  c0 : w.cell? ⟨b, 0, none⟩ = some (.int .i64 x)
  f0 : w.frozen? ⟨b, 0, none⟩ = false
  lt : b < w.heap.size
theorem ICell.of {W w' : World} {b : Nat} {x : Int} (h : ICell W b x) (e : w'.heap[b]? = W.heap[b]?) (hs : W.heap.size ≤ w'.heap.size) : ICell w' b x :=
  ⟨(World.cell?_of_block (a := ⟨b, 0, none⟩) e).trans h.c0, (World.frozen?_of_block (a := ⟨b, 0, none⟩) e).trans h.f0, Nat.lt_of_lt_of_le h.lt hs⟩
theorem ICell.step {W w' : World} {b : Nat} {x : Int} (h : ICell W b x) (B : Below W.heap.size W w') : ICell w' b x := h.of (B.block b h.lt) B.size
theorem ICell.alloc {W : World} {b : Nat} {x : Int} (h : ICell W b x) (o : Obj) : ICell (W.alloc o) b x := h.step (bl_alloc (bl_refl W) o)
theorem ICell.drew {W : World} {b : Nat} {x : Int} (h : ICell W b x) : ICell W.drew b x := ⟨h.c0, h.f0, h.lt⟩
theorem ICell.new (W : World) (b : Nat) (x : Int) (ty : TypeId) (hb : b = W.heap.size) : ICell (W.alloc (.cells #[.int .i64 x] ty)) b x := by
  subst hb
  exact ⟨by simp, by simp, by simp⟩
theorem ICell.set {W : World} {b : Nat} {x : Int} (h : ICell W b x) (z : Int) : ICell (W.setCell ⟨b, 0, none⟩ (.int .i64 z)) b z :=
  ⟨World.cell?_setCell_same' _ _ _ (by rw [h.c0]; rfl), (by rw [World.frozen?_setCell]; exact h.f0), (by rw [World.size_setCell]; exact h.lt)⟩
theorem Kept.mine {r : Nat} {w a : World} (h : Kept r w a) (o : Nat) (v : Value) : Kept r w (a.setCell ⟨r, o, none⟩ v) :=
  ⟨h.os, h.tape, h.output, by simpa [World.setCell] using h.size, fun k hk hr => (Below.heap_setCell a ⟨r, o, none⟩ v k hr).trans (h.block k hk hr)⟩
theorem Kept.drewd {r : Nat} {w a : World} (h : Kept r w a) : Kept r w a.drew := ⟨h.os, h.tape, h.output, h.size, h.block⟩
/-- The list lies elsewhere than block b. -/
def Off (A : Option Addr) (n b : Nat) : Prop := 0 < n → ∀ k off, A = some ⟨k, off, none⟩ → k ≠ b
theorem Ints.kept {w w' : World} {A : Option Addr} {n r : Nat} {xs : List Int} (h : Ints w A n xs) (K : Kept r w w') (hA : Off A n r) : Ints w' A n xs :=
  ⟨h.1, fun hn => by
    obtain ⟨b, off, e, hb, hc⟩ := h.2 hn
    exact ⟨b, off, e, Nat.lt_of_lt_of_le hb K.size, fun k hk => (K.cell (p := ⟨b, off + k, none⟩) hb (hA hn b off e)).trans (hc k hk)⟩⟩
theorem Ints.off {w : World} {A : Option Addr} {n : Nat} {xs : List Int} (h : Ints w A n xs) {b : Nat} (hb : w.heap.size ≤ b) : Off A n b := fun hn k off e => by
  obtain ⟨b', off', e', hb', _⟩ := h.2 hn
  rw [e'] at e
  cases e
  omega
theorem off_new {a b n : Nat} (h : b < a) : Off (some ⟨a, 0, none⟩) n b := fun _ k off e => by
  cases e
  omega

theorem implOk' (n : Int) (b : Bool) (w : World) (h : okB n = b) : Calls Tryd.prog 57 #[.int .i64 n] w fun e w' => e = .returned (.bool b) ∧ w = w' := by
  subst h
  exact implOk n w

theorem rem_low {n : Int} (h : n.tmod 1000003 < 0) : n % 1000003 = n.tmod 1000003 + 1000003 := by
  have e := @Int.tmod_eq_emod n 1000003
  by_cases c : 0 ≤ n ∨ (1000003 : Int) ∣ n
  · rw [if_pos c] at e
    omega
  · rw [if_neg c] at e
    omega
theorem rem_high {n : Int} (h : 0 ≤ n.tmod 1000003) : n % 1000003 = n.tmod 1000003 := by
  have e := @Int.tmod_eq_emod n 1000003
  by_cases c : 0 ≤ n ∨ (1000003 : Int) ∣ n
  · rw [if_pos c] at e
    omega
  · rw [if_neg c] at e
    omega

/-- At a round's head: the hash of the numbers so far. -/
def ContRel (w : World) (b n : Nat) (h : Int) (xs : List Int) (i : Value) (W : World) : Prop :=
  ∃ k : Nat, k ≤ n ∧ i = .int .i64 k ∧ ICell W b (hsh h (xs.take k)) ∧ Kept b w W
/-- What the closure leaves: its hash is continued by the numbers. -/
def Cont (w : World) (b : Nat) (v : Int) (e : Ending) (w' : World) : Prop := e = .returned (.int .i64 v) ∧ ICell w' b v ∧ Kept b w w'

theorem beq_turn (t x : Int) : (t == x) = decide (x = t) := by
  by_cases q : x = t
  · subst q; simp
  · have q' : ¬ t = x := fun e => q e.symm
    simp [q, q']

end Go.Proofs.YtnoenjociioffaaDoor
