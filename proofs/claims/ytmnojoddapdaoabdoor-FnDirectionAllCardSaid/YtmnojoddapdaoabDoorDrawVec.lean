/-
  The vectors that the model draws from a code: each coordinate fits; nothing that was there before the call is written, but the reader.
-/
import Derived.Test.YtmnojoddapdaoabDoorDrawFix
import Derived.Test.YtmnojoddapdaoabDoorVec
import Derived.Deep.RegionWith
namespace Go.Proofs.YtmnojoddapdaoabDoor
open Go.RowKit

/-- A drawn vector. -/
def VecDrawn (B : Nat) (r : Nat) (k : Int) (w : World) (e : Ending) (w' : World) : Prop :=
  ∃ x y : Int, (-1000001 ≤ x ∧ x ≤ 1000001) ∧ (-1000001 ≤ y ∧ y ≤ 1000001) ∧ e = .returned (vec x y) ∧ RdU B w' r (k + 8) ∧ Kept r w w'
theorem sign_bd {a b c : Int} (a0 : 0 ≤ a) (a1 : a < 100) (b0 : 0 ≤ b) (b1 : b < 100) (c0 : 0 ≤ c) (c1 : c < 2) : -9999 ≤ (a * 100 + b) * (1 - 2 * c) ∧ (a * 100 + b) * (1 - 2 * c) ≤ 9999 := by
  rcases bit_two c0 c1 with rfl | rfl <;> omega
def edgesX : Array Value := #[.int .i64 1000000, .int .i64 (-1000000), .int .i64 1000001, .int .i64 999999]
def edgesY : Array Value := #[.int .i64 1000000, .int .i64 (-1000000), .int .i64 (-1000001), .int .i64 999999]
theorem edgeX_at (i : Nat) (h : i < 4) : ∃ z : Int, edgesX[i]? = some (.int .i64 z) ∧ -1000001 ≤ z ∧ z ≤ 1000001 := by
  have : i = 0 ∨ i = 1 ∨ i = 2 ∨ i = 3 := by omega
  rcases this with rfl | rfl | rfl | rfl
  all_goals exact ⟨_, rfl, by omega, by omega⟩
theorem edgeY_at (i : Nat) (h : i < 4) : ∃ z : Int, edgesY[i]? = some (.int .i64 z) ∧ -1000001 ≤ z ∧ z ≤ 1000001 := by
  have : i = 0 ∨ i = 1 ∨ i = 2 ∨ i = 3 := by omega
  rcases this with rfl | rfl | rfl | rfl
  all_goals exact ⟨_, rfl, by omega, by omega⟩

/-- A row that came in stands while nothing below is written. -/
theorem IsRow.below {k : IntKind} {w w' : World} {a : Option Addr} {len cap : Nat} {zs : List Int} (h : IsRow k w a len cap zs) (b : Below w.heap.size w w') : IsRow k w' a len cap zs := by
  rcases h with h | ⟨x, rfl, hl, hm, hz, hcell, hwz⟩
  · exact .inl h
  · refine .inr ⟨x, rfl, hl, hm, hz, fun i hi => ?_, hwz⟩
    have hc := hcell i hi
    exact (b.cell (cell_lt hc)).trans hc
theorem block_same {w w' : World} {b : Nat} (h : w'.heap[b]? = w.heap[b]?) : (∀ o, w'.cell? ⟨b, o, none⟩ = w.cell? ⟨b, o, none⟩) ∧ (∀ o, w'.frozen? ⟨b, o, none⟩ = w.frozen? ⟨b, o, none⟩) :=
  ⟨fun o => World.cell?_of_block (a := ⟨b, o, none⟩) h, fun o => World.frozen?_of_block (a := ⟨b, o, none⟩) h⟩
theorem RdU.drew {B : Nat} {w : World} {r : Nat} {k : Int} (R : RdU B w r k) : RdU B w.drew r k := R.below ⟨rfl, rfl, rfl, Nat.le_refl _, fun _ _ => rfl⟩
theorem bl_drew1 {w a : World} (h : Below w.heap.size w a) : Below w.heap.size w a.drew := h.drew
theorem kp_below {r : Nat} {w a b : World} (h : Below w.heap.size w a) (k : Kept r a b) (hr : w.heap.size ≤ r) : Below w.heap.size w b := h.trans (k.below h.size hr)

/-- A drawn vector, behind a draw of its own. -/
def DrawnV (w : World) (e : Ending) (w' : World) : Prop :=
  ∃ x y : Int, (-1000001 ≤ x ∧ x ≤ 1000001) ∧ (-1000001 ≤ y ∧ y ≤ 1000001) ∧ e = .returned (vec x y) ∧ Below w.heap.size w w'
/-- Two drawn vectors. -/
def DrawnVV (w : World) (e : Ending) (w' : World) : Prop :=
  ∃ x y u v : Int, ((-1000001 ≤ x ∧ x ≤ 1000001) ∧ (-1000001 ≤ y ∧ y ≤ 1000001)) ∧ ((-1000001 ≤ u ∧ u ≤ 1000001) ∧ (-1000001 ≤ v ∧ v ≤ 1000001)) ∧ e = .returned (.tuple #[vec x y, vec u v]) ∧ Below w.heap.size w w'
/-- A drawn vector and a number. -/
def DrawnVI (w : World) (e : Ending) (w' : World) : Prop :=
  ∃ x y k : Int, ((-1000001 ≤ x ∧ x ≤ 1000001) ∧ (-1000001 ≤ y ∧ y ≤ 1000001)) ∧ (-2000000001 ≤ k ∧ k ≤ 2000000001) ∧ e = .returned (.tuple #[vec x y, .int .i64 k]) ∧ Below w.heap.size w w'

/-- A drawn direction. -/
def DrawnD (w : World) (e : Ending) (w' : World) : Prop := ∃ d : Int, (-1 ≤ d ∧ d ≤ 16) ∧ e = .returned (.int .i64 d) ∧ Below w.heap.size w w'
theorem draw_vdir (a : Option Addr) (len cap : Nat) (zs : List Int) (w : World) (h : IsRow .u8 w a len cap zs) : Calls Tryd.prog 5 #[.slice a len cap] w (DrawnD w) := by
  go_enter Tryd.func5, Tryd.ntmps5
  go_wp2_with fail
  refine (open_any a len cap zs w h).mono ?_
  rintro e w1 ⟨rfl, R1, B1⟩
  go_wp2_with fail
  refine (pick_any _ 18 0 w1 R1 (by omega) (by omega) (by omega)).mono ?_
  rintro e w2 ⟨x, ⟨x1, x2⟩, rfl, _, K2⟩
  have hB := Lib.hid (kp_below B1 K2 (Nat.le_refl _))
  clear R1 B1 K2
  go_wp2
  go_ret
  exact ⟨x - 1, ⟨by omega, by omega⟩, rfl, hB.out⟩

/-- The drawn limit, as the walk spells it. -/
def climit (a b c : Int) : Int := IntKind.i64.wrap (IntKind.i64.wrap (IntKind.i64.wrap (a * 100) + IntKind.i64.wrap (IntKind.i64.wrap (b.tdiv 19) * 1000000)) - IntKind.i64.wrap (IntKind.i64.wrap (c.tdiv 19) * 10000))
theorem climit_bd {a b c : Int} (a0 : 0 ≤ a) (a1 : a < 100) (b0 : 0 ≤ b) (b1 : b < 20) (c0 : 0 ≤ c) (c1 : c < 20) : -2000000001 ≤ climit a b c ∧ climit a b c ≤ 2000000001 := by
  unfold climit
  rw [Int.tdiv_eq_ediv_of_nonneg b0, Int.tdiv_eq_ediv_of_nonneg c0, IntWalk.i64_in (a * 100) (by omega), IntWalk.i64_in (b / 19) (by omega), IntWalk.i64_in (c / 19) (by omega), IntWalk.i64_in (b / 19 * 1000000) (by omega), IntWalk.i64_in (c / 19 * 10000) (by omega), IntWalk.i64_in (a * 100 + b / 19 * 1000000) (by omega), IntWalk.i64_in (a * 100 + b / 19 * 1000000 - c / 19 * 10000) (by omega)]
  omega

end Go.Proofs.YtmnojoddapdaoabDoor
