/-
  A vector and a box in memory, and how they stand.
-/
import Derived.Test.YtmhmlmoohimfmaaDrawVec
import Derived.Test.YtmhmlmoohimfmaaBox
import Derived.Deep.RegionHeld3
namespace Go.Proofs.Ytmhmlmoohimfmaa
open Go.RowKit

/-- A vector in memory that may be written. -/
structure PCell (w : World) (b : Nat) (x y : Int) : Prop where
  c0 : w.cell? ⟨b, 0, none⟩ = some (.int .i64 x)
  c1 : w.cell? ⟨b, 1, none⟩ = some (.int .i64 y)
  f0 : w.frozen? ⟨b, 0, none⟩ = false
  f1 : w.frozen? ⟨b, 1, none⟩ = false
  lt : b < w.heap.size
theorem PCell.of {W w' : World} {b : Nat} {x y : Int} (h : PCell W b x y) (e : w'.heap[b]? = W.heap[b]?) (hs : W.heap.size ≤ w'.heap.size) : PCell w' b x y :=
  ⟨(World.cell?_of_block (a := ⟨b, 0, none⟩) e).trans h.c0, (World.cell?_of_block (a := ⟨b, 1, none⟩) e).trans h.c1, (World.frozen?_of_block (a := ⟨b, 0, none⟩) e).trans h.f0, (World.frozen?_of_block (a := ⟨b, 1, none⟩) e).trans h.f1, Nat.lt_of_lt_of_le h.lt hs⟩
theorem PCell.kept {r : Nat} {W w' : World} {b : Nat} {x y : Int} (h : PCell W b x y) (K : Kept r W w') (hne : b ≠ r) : PCell w' b x y := h.of (K.block b h.lt hne) K.size
theorem PCell.step {W w' : World} {b : Nat} {x y : Int} (h : PCell W b x y) (B : Below W.heap.size W w') : PCell w' b x y := h.of (B.block b h.lt) B.size
theorem PCell.alloc {W : World} {b : Nat} {x y : Int} (h : PCell W b x y) (o : Obj) : PCell (W.alloc o) b x y := h.step (bl_alloc (bl_refl W) o)
theorem PCell.drew {W : World} {b : Nat} {x y : Int} (h : PCell W b x y) : PCell W.drew b x y := ⟨h.c0, h.c1, h.f0, h.f1, h.lt⟩
theorem PCell.new (W : World) (b : Nat) (x y : Int) (ty : TypeId) (hb : b = W.heap.size) : PCell (W.alloc (.cells #[.int .i64 x, .int .i64 y] ty)) b x y := by
  subst hb
  exact ⟨by simp, by simp, by simp, by simp, by simp⟩
theorem PCell.far {W : World} {b : Nat} {x y : Int} (h : PCell W b x y) {b' : Nat} (hne : b' ≠ b) (o : Nat) (v : Value) : PCell (W.setCell ⟨b', o, none⟩ v) b x y :=
  ⟨(World.cell?_setCell_far _ _ _ _ hne).trans h.c0, (World.cell?_setCell_far _ _ _ _ hne).trans h.c1, (by rw [World.frozen?_setCell]; exact h.f0), (by rw [World.frozen?_setCell]; exact h.f1), (by rw [World.size_setCell]; exact h.lt)⟩
theorem PCell.set0 {W : World} {b : Nat} {x y : Int} (h : PCell W b x y) (z : Int) : PCell (W.setCell ⟨b, 0, none⟩ (.int .i64 z)) b z y :=
  ⟨World.cell?_setCell_same' _ _ _ (by rw [h.c0]; rfl), (World.cell?_setCell_other _ _ _ _ (by simp)).trans h.c1, (by rw [World.frozen?_setCell]; exact h.f0), (by rw [World.frozen?_setCell]; exact h.f1), (by rw [World.size_setCell]; exact h.lt)⟩
theorem PCell.set1 {W : World} {b : Nat} {x y : Int} (h : PCell W b x y) (z : Int) : PCell (W.setCell ⟨b, 1, none⟩ (.int .i64 z)) b x z :=
  ⟨(World.cell?_setCell_other _ _ _ _ (by simp)).trans h.c0, World.cell?_setCell_same' _ _ _ (by rw [h.c1]; rfl), (by rw [World.frozen?_setCell]; exact h.f0), (by rw [World.frozen?_setCell]; exact h.f1), (by rw [World.size_setCell]; exact h.lt)⟩

/-- A box in memory that may be written. -/
structure BCell (w : World) (b : Nat) (p q s t : Int) : Prop where
  c0 : w.cell? ⟨b, 0, none⟩ = some (.int .i64 p)
  c1 : w.cell? ⟨b, 1, none⟩ = some (.int .i64 q)
  c2 : w.cell? ⟨b, 2, none⟩ = some (.int .i64 s)
  c3 : w.cell? ⟨b, 3, none⟩ = some (.int .i64 t)
  f0 : w.frozen? ⟨b, 0, none⟩ = false
  f1 : w.frozen? ⟨b, 1, none⟩ = false
  f2 : w.frozen? ⟨b, 2, none⟩ = false
  f3 : w.frozen? ⟨b, 3, none⟩ = false
  lt : b < w.heap.size
theorem BCell.of {W w' : World} {b : Nat} {p q s t : Int} (h : BCell W b p q s t) (e : w'.heap[b]? = W.heap[b]?) (hs : W.heap.size ≤ w'.heap.size) : BCell w' b p q s t :=
  ⟨(World.cell?_of_block (a := ⟨b, 0, none⟩) e).trans h.c0, (World.cell?_of_block (a := ⟨b, 1, none⟩) e).trans h.c1, (World.cell?_of_block (a := ⟨b, 2, none⟩) e).trans h.c2, (World.cell?_of_block (a := ⟨b, 3, none⟩) e).trans h.c3, (World.frozen?_of_block (a := ⟨b, 0, none⟩) e).trans h.f0, (World.frozen?_of_block (a := ⟨b, 1, none⟩) e).trans h.f1, (World.frozen?_of_block (a := ⟨b, 2, none⟩) e).trans h.f2, (World.frozen?_of_block (a := ⟨b, 3, none⟩) e).trans h.f3, Nat.lt_of_lt_of_le h.lt hs⟩
theorem BCell.kept {r : Nat} {W w' : World} {b : Nat} {p q s t : Int} (h : BCell W b p q s t) (K : Kept r W w') (hne : b ≠ r) : BCell w' b p q s t := h.of (K.block b h.lt hne) K.size
theorem BCell.step {W w' : World} {b : Nat} {p q s t : Int} (h : BCell W b p q s t) (B : Below W.heap.size W w') : BCell w' b p q s t := h.of (B.block b h.lt) B.size
theorem BCell.alloc {W : World} {b : Nat} {p q s t : Int} (h : BCell W b p q s t) (o : Obj) : BCell (W.alloc o) b p q s t := h.step (bl_alloc (bl_refl W) o)
theorem BCell.drew {W : World} {b : Nat} {p q s t : Int} (h : BCell W b p q s t) : BCell W.drew b p q s t := ⟨h.c0, h.c1, h.c2, h.c3, h.f0, h.f1, h.f2, h.f3, h.lt⟩
theorem BCell.new (W : World) (b : Nat) (p q s t : Int) (ty : TypeId) (hb : b = W.heap.size) : BCell (W.alloc (.cells #[.int .i64 p, .int .i64 q, .int .i64 s, .int .i64 t] ty)) b p q s t := by
  subst hb
  exact ⟨by simp, by simp, by simp, by simp, by simp, by simp, by simp, by simp, by simp⟩
theorem BCell.far {W : World} {b : Nat} {p q s t : Int} (h : BCell W b p q s t) {b' : Nat} (hne : b' ≠ b) (o : Nat) (v : Value) : BCell (W.setCell ⟨b', o, none⟩ v) b p q s t :=
  ⟨(World.cell?_setCell_far _ _ _ _ hne).trans h.c0, (World.cell?_setCell_far _ _ _ _ hne).trans h.c1, (World.cell?_setCell_far _ _ _ _ hne).trans h.c2, (World.cell?_setCell_far _ _ _ _ hne).trans h.c3, (by rw [World.frozen?_setCell]; exact h.f0), (by rw [World.frozen?_setCell]; exact h.f1), (by rw [World.frozen?_setCell]; exact h.f2), (by rw [World.frozen?_setCell]; exact h.f3), (by rw [World.size_setCell]; exact h.lt)⟩
theorem BCell.set0 {W : World} {b : Nat} {p q s t : Int} (h : BCell W b p q s t) (z : Int) : BCell (W.setCell ⟨b, 0, none⟩ (.int .i64 z)) b z q s t :=
  ⟨World.cell?_setCell_same' _ _ _ (by rw [h.c0]; rfl), (World.cell?_setCell_other _ _ _ _ (by simp)).trans h.c1, (World.cell?_setCell_other _ _ _ _ (by simp)).trans h.c2, (World.cell?_setCell_other _ _ _ _ (by simp)).trans h.c3, (by rw [World.frozen?_setCell]; exact h.f0), (by rw [World.frozen?_setCell]; exact h.f1), (by rw [World.frozen?_setCell]; exact h.f2), (by rw [World.frozen?_setCell]; exact h.f3), (by rw [World.size_setCell]; exact h.lt)⟩
theorem BCell.set1 {W : World} {b : Nat} {p q s t : Int} (h : BCell W b p q s t) (z : Int) : BCell (W.setCell ⟨b, 1, none⟩ (.int .i64 z)) b p z s t :=
  ⟨(World.cell?_setCell_other _ _ _ _ (by simp)).trans h.c0, World.cell?_setCell_same' _ _ _ (by rw [h.c1]; rfl), (World.cell?_setCell_other _ _ _ _ (by simp)).trans h.c2, (World.cell?_setCell_other _ _ _ _ (by simp)).trans h.c3, (by rw [World.frozen?_setCell]; exact h.f0), (by rw [World.frozen?_setCell]; exact h.f1), (by rw [World.frozen?_setCell]; exact h.f2), (by rw [World.frozen?_setCell]; exact h.f3), (by rw [World.size_setCell]; exact h.lt)⟩
theorem BCell.set2 {W : World} {b : Nat} {p q s t : Int} (h : BCell W b p q s t) (z : Int) : BCell (W.setCell ⟨b, 2, none⟩ (.int .i64 z)) b p q z t :=
  ⟨(World.cell?_setCell_other _ _ _ _ (by simp)).trans h.c0, (World.cell?_setCell_other _ _ _ _ (by simp)).trans h.c1, World.cell?_setCell_same' _ _ _ (by rw [h.c2]; rfl), (World.cell?_setCell_other _ _ _ _ (by simp)).trans h.c3, (by rw [World.frozen?_setCell]; exact h.f0), (by rw [World.frozen?_setCell]; exact h.f1), (by rw [World.frozen?_setCell]; exact h.f2), (by rw [World.frozen?_setCell]; exact h.f3), (by rw [World.size_setCell]; exact h.lt)⟩
theorem BCell.set3 {W : World} {b : Nat} {p q s t : Int} (h : BCell W b p q s t) (z : Int) : BCell (W.setCell ⟨b, 3, none⟩ (.int .i64 z)) b p q s z :=
  ⟨(World.cell?_setCell_other _ _ _ _ (by simp)).trans h.c0, (World.cell?_setCell_other _ _ _ _ (by simp)).trans h.c1, (World.cell?_setCell_other _ _ _ _ (by simp)).trans h.c2, World.cell?_setCell_same' _ _ _ (by rw [h.c3]; rfl), (by rw [World.frozen?_setCell]; exact h.f0), (by rw [World.frozen?_setCell]; exact h.f1), (by rw [World.frozen?_setCell]; exact h.f2), (by rw [World.frozen?_setCell]; exact h.f3), (by rw [World.size_setCell]; exact h.lt)⟩
/-- Four vectors in memory. -/
structure QCell (w : World) (b : Nat) (x0 x1 x2 x3 x4 x5 x6 x7 : Int) : Prop where
  c0 : w.cell? ⟨b, 0, none⟩ = some (.int .i64 x0)
  c1 : w.cell? ⟨b, 1, none⟩ = some (.int .i64 x1)
  c2 : w.cell? ⟨b, 2, none⟩ = some (.int .i64 x2)
  c3 : w.cell? ⟨b, 3, none⟩ = some (.int .i64 x3)
  c4 : w.cell? ⟨b, 4, none⟩ = some (.int .i64 x4)
  c5 : w.cell? ⟨b, 5, none⟩ = some (.int .i64 x5)
  c6 : w.cell? ⟨b, 6, none⟩ = some (.int .i64 x6)
  c7 : w.cell? ⟨b, 7, none⟩ = some (.int .i64 x7)
  f0 : w.frozen? ⟨b, 0, none⟩ = false
  f1 : w.frozen? ⟨b, 1, none⟩ = false
  f2 : w.frozen? ⟨b, 2, none⟩ = false
  f3 : w.frozen? ⟨b, 3, none⟩ = false
  f4 : w.frozen? ⟨b, 4, none⟩ = false
  f5 : w.frozen? ⟨b, 5, none⟩ = false
  f6 : w.frozen? ⟨b, 6, none⟩ = false
  f7 : w.frozen? ⟨b, 7, none⟩ = false
  lt : b < w.heap.size
theorem QCell.of {W w' : World} {b : Nat} {x0 x1 x2 x3 x4 x5 x6 x7 : Int} (h : QCell W b x0 x1 x2 x3 x4 x5 x6 x7) (e : w'.heap[b]? = W.heap[b]?) (hs : W.heap.size ≤ w'.heap.size) : QCell w' b x0 x1 x2 x3 x4 x5 x6 x7 :=
  ⟨(World.cell?_of_block (a := ⟨b, 0, none⟩) e).trans h.c0, (World.cell?_of_block (a := ⟨b, 1, none⟩) e).trans h.c1, (World.cell?_of_block (a := ⟨b, 2, none⟩) e).trans h.c2, (World.cell?_of_block (a := ⟨b, 3, none⟩) e).trans h.c3, (World.cell?_of_block (a := ⟨b, 4, none⟩) e).trans h.c4, (World.cell?_of_block (a := ⟨b, 5, none⟩) e).trans h.c5, (World.cell?_of_block (a := ⟨b, 6, none⟩) e).trans h.c6, (World.cell?_of_block (a := ⟨b, 7, none⟩) e).trans h.c7, (World.frozen?_of_block (a := ⟨b, 0, none⟩) e).trans h.f0, (World.frozen?_of_block (a := ⟨b, 1, none⟩) e).trans h.f1, (World.frozen?_of_block (a := ⟨b, 2, none⟩) e).trans h.f2, (World.frozen?_of_block (a := ⟨b, 3, none⟩) e).trans h.f3, (World.frozen?_of_block (a := ⟨b, 4, none⟩) e).trans h.f4, (World.frozen?_of_block (a := ⟨b, 5, none⟩) e).trans h.f5, (World.frozen?_of_block (a := ⟨b, 6, none⟩) e).trans h.f6, (World.frozen?_of_block (a := ⟨b, 7, none⟩) e).trans h.f7, Nat.lt_of_lt_of_le h.lt hs⟩
theorem QCell.kept {r : Nat} {W w' : World} {b : Nat} {x0 x1 x2 x3 x4 x5 x6 x7 : Int} (h : QCell W b x0 x1 x2 x3 x4 x5 x6 x7) (K : Kept r W w') (hne : b ≠ r) : QCell w' b x0 x1 x2 x3 x4 x5 x6 x7 := h.of (K.block b h.lt hne) K.size
theorem QCell.step {W w' : World} {b : Nat} {x0 x1 x2 x3 x4 x5 x6 x7 : Int} (h : QCell W b x0 x1 x2 x3 x4 x5 x6 x7) (B : Below W.heap.size W w') : QCell w' b x0 x1 x2 x3 x4 x5 x6 x7 := h.of (B.block b h.lt) B.size
theorem QCell.alloc {W : World} {b : Nat} {x0 x1 x2 x3 x4 x5 x6 x7 : Int} (h : QCell W b x0 x1 x2 x3 x4 x5 x6 x7) (o : Obj) : QCell (W.alloc o) b x0 x1 x2 x3 x4 x5 x6 x7 := h.step (bl_alloc (bl_refl W) o)
theorem QCell.drew {W : World} {b : Nat} {x0 x1 x2 x3 x4 x5 x6 x7 : Int} (h : QCell W b x0 x1 x2 x3 x4 x5 x6 x7) : QCell W.drew b x0 x1 x2 x3 x4 x5 x6 x7 := ⟨h.c0, h.c1, h.c2, h.c3, h.c4, h.c5, h.c6, h.c7, h.f0, h.f1, h.f2, h.f3, h.f4, h.f5, h.f6, h.f7, h.lt⟩
theorem QCell.new (W : World) (b : Nat) (x0 x1 x2 x3 x4 x5 x6 x7 : Int) (ty : TypeId) (hb : b = W.heap.size) : QCell (W.alloc (.cells #[.int .i64 x0, .int .i64 x1, .int .i64 x2, .int .i64 x3, .int .i64 x4, .int .i64 x5, .int .i64 x6, .int .i64 x7] ty)) b x0 x1 x2 x3 x4 x5 x6 x7 := by
  subst hb
  exact ⟨by simp, by simp, by simp, by simp, by simp, by simp, by simp, by simp, by simp, by simp, by simp, by simp, by simp, by simp, by simp, by simp, by simp⟩
theorem QCell.far {W : World} {b : Nat} {x0 x1 x2 x3 x4 x5 x6 x7 : Int} (h : QCell W b x0 x1 x2 x3 x4 x5 x6 x7) {b' : Nat} (hne : b' ≠ b) (o : Nat) (v : Value) : QCell (W.setCell ⟨b', o, none⟩ v) b x0 x1 x2 x3 x4 x5 x6 x7 :=
  ⟨(World.cell?_setCell_far _ _ _ _ hne).trans h.c0, (World.cell?_setCell_far _ _ _ _ hne).trans h.c1, (World.cell?_setCell_far _ _ _ _ hne).trans h.c2, (World.cell?_setCell_far _ _ _ _ hne).trans h.c3, (World.cell?_setCell_far _ _ _ _ hne).trans h.c4, (World.cell?_setCell_far _ _ _ _ hne).trans h.c5, (World.cell?_setCell_far _ _ _ _ hne).trans h.c6, (World.cell?_setCell_far _ _ _ _ hne).trans h.c7, (by rw [World.frozen?_setCell]; exact h.f0), (by rw [World.frozen?_setCell]; exact h.f1), (by rw [World.frozen?_setCell]; exact h.f2), (by rw [World.frozen?_setCell]; exact h.f3), (by rw [World.frozen?_setCell]; exact h.f4), (by rw [World.frozen?_setCell]; exact h.f5), (by rw [World.frozen?_setCell]; exact h.f6), (by rw [World.frozen?_setCell]; exact h.f7), (by rw [World.size_setCell]; exact h.lt)⟩

theorem Kept.drew1 {r : Nat} {w a : World} (h : Kept r w a) : Kept r w a.drew := ⟨h.os, h.tape, h.output, h.size, h.block⟩

end Go.Proofs.Ytmhmlmoohimfmaa
