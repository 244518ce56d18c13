/-
  The boxes, points and radii that the model draws from a code: each number fits; nothing that was there before the call is written.
-/
import Derived.Test.YtnoenjociioffaaDoorDrB
namespace Go.Proofs.YtnoenjociioffaaDoor
open Go.RowKit

/-- A drawn box, behind a draw of its own. -/
def DrawnB (w : World) (e : Ending) (w' : World) : Prop := ∃ p q s t : Int, ((-1200000 ≤ p ∧ p ≤ 1200000) ∧ (-1200000 ≤ q ∧ q ≤ 1200000) ∧ (-1200000 ≤ s ∧ s ≤ 1200000) ∧ (-1200000 ≤ t ∧ t ≤ 1200000)) ∧ e = .returned (box p q s t) ∧ Below w.heap.size w w'
/-- A drawn box and a point. -/
def DrawnBV (w : World) (e : Ending) (w' : World) : Prop := ∃ p q s t x y : Int, ((-1200000 ≤ p ∧ p ≤ 1200000) ∧ (-1200000 ≤ q ∧ q ≤ 1200000) ∧ (-1200000 ≤ s ∧ s ≤ 1200000) ∧ (-1200000 ≤ t ∧ t ≤ 1200000)) ∧ ((-1200000 ≤ x ∧ x ≤ 1200000) ∧ (-1200000 ≤ y ∧ y ≤ 1200000)) ∧ e = .returned (.tuple #[box p q s t, vec x y]) ∧ Below w.heap.size w w'
/-- Two drawn boxes. -/
def DrawnBB (w : World) (e : Ending) (w' : World) : Prop := ∃ p q s t x y u v : Int, ((-1200000 ≤ p ∧ p ≤ 1200000) ∧ (-1200000 ≤ q ∧ q ≤ 1200000) ∧ (-1200000 ≤ s ∧ s ≤ 1200000) ∧ (-1200000 ≤ t ∧ t ≤ 1200000)) ∧ ((-1200000 ≤ x ∧ x ≤ 1200000) ∧ (-1200000 ≤ y ∧ y ≤ 1200000) ∧ (-1200000 ≤ u ∧ u ≤ 1200000) ∧ (-1200000 ≤ v ∧ v ≤ 1200000)) ∧ e = .returned (.tuple #[box p q s t, box x y u v]) ∧ Below w.heap.size w w'
/-- A drawn box, a point and a radius. -/
def DrawnBVI (w : World) (e : Ending) (w' : World) : Prop := ∃ p q s t x y r : Int, ((-1200000 ≤ p ∧ p ≤ 1200000) ∧ (-1200000 ≤ q ∧ q ≤ 1200000) ∧ (-1200000 ≤ s ∧ s ≤ 1200000) ∧ (-1200000 ≤ t ∧ t ≤ 1200000)) ∧ ((-1200000 ≤ x ∧ x ≤ 1200000) ∧ (-1200000 ≤ y ∧ y ≤ 1200000)) ∧ (-1200000 ≤ r ∧ r ≤ 1200000) ∧ e = .returned (.tuple #[box p q s t, vec x y, .int .i64 r]) ∧ Below w.heap.size w w'
theorem bc_all {W : World} {b : Nat} {p q s t : Int} (h : BCell W b p q s t) : W.cell? ⟨b, 0, none⟩ = some (.int .i64 p) ∧ W.cell? ⟨b, 1, none⟩ = some (.int .i64 q) ∧ W.cell? ⟨b, 2, none⟩ = some (.int .i64 s) ∧ W.cell? ⟨b, 3, none⟩ = some (.int .i64 t) := ⟨h.c0, h.c1, h.c2, h.c3⟩
theorem bl_set4 {w a : World} (h : Below w.heap.size w a) {b : Nat} (hb : w.heap.size ≤ b) (v0 v1 v2 v3 : Value) : Below w.heap.size w ((((a.setCell ⟨b, 0, none⟩ v0).setCell ⟨b, 1, none⟩ v1).setCell ⟨b, 2, none⟩ v2).setCell ⟨b, 3, none⟩ v3) := bl_set (bl_set (bl_set (bl_set h _ _ _ hb) _ _ _ hb) _ _ _ hb) _ _ _ hb
theorem bl_set2 {w a : World} (h : Below w.heap.size w a) {b : Nat} (hb : w.heap.size ≤ b) (v0 v1 : Value) : Below w.heap.size w ((a.setCell ⟨b, 0, none⟩ v0).setCell ⟨b, 1, none⟩ v1) := bl_set (bl_set h _ _ _ hb) _ _ _ hb
theorem PCell.far2 {W : World} {b : Nat} {x y : Int} (h : PCell W b x y) {c : Nat} (hne : c ≠ b) (v0 v1 : Value) : PCell ((W.setCell ⟨c, 0, none⟩ v0).setCell ⟨c, 1, none⟩ v1) b x y := (h.far hne _ _).far hne _ _
theorem BCell.far2 {W : World} {b : Nat} {p q s t : Int} (h : BCell W b p q s t) {c : Nat} (hne : c ≠ b) (v0 v1 : Value) : BCell ((W.setCell ⟨c, 0, none⟩ v0).setCell ⟨c, 1, none⟩ v1) b p q s t := (h.far hne _ _).far hne _ _

/-- A drawn radius, as the walk spells it. -/
def rad1 (x y : Int) : Int := IntKind.i64.wrap (IntKind.i64.wrap (x * 50) - IntKind.i64.wrap (IntKind.i64.wrap (y.tdiv 19) * 5000))
theorem rad1_bd {x y : Int} (x0 : 0 ≤ x) (x1 : x < 30) (y0 : 0 ≤ y) (y1 : y < 20) : -1200000 ≤ rad1 x y ∧ rad1 x y ≤ 1200000 := by
  unfold rad1
  have e : y.tdiv 19 = y / 19 := Int.tdiv_eq_ediv_of_nonneg y0
  rw [e, IntWalk.i64_in (y / 19) (by omega), IntWalk.i64_in (x * 50) (by omega), IntWalk.i64_in (y / 19 * 5000) (by omega), IntWalk.i64_in (x * 50 - y / 19 * 5000) (by omega)]
  omega

theorem far2_bd {a p : Int} (a1 : -1100000 ≤ a) (a2 : a ≤ 1100000) (p0 : 0 ≤ p) (p1 : p < 40) : -1200000 ≤ far1 a p ∧ far1 a p ≤ 1200000 := by
  unfold far1
  rw [IntWalk.i64_in (p * 100) (by omega), IntWalk.i64_in (a + p * 100) (by omega)]
  omega

end Go.Proofs.YtnoenjociioffaaDoor
