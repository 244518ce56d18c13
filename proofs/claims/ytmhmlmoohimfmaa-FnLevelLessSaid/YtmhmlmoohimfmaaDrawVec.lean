/-
  The vectors that the model draws from a code: each coordinate fits; nothing that was there before the call is written, but the reader.
-/
import Derived.Test.YtmhmlmoohimfmaaDrawFix
import Derived.Test.YtmhmlmoohimfmaaVec
import Derived.Deep.RegionWith
namespace Go.Proofs.Ytmhmlmoohimfmaa
open Go.RowKit

/-- A drawn vector. -/
def VecDrawn (B : Nat) (r : Nat) (k : Int) (w : World) (e : Ending) (w' : World) : Prop :=
  ∃ x y : Int, (-1000001 ≤ x ∧ x ≤ 1000001) ∧ (-1000001 ≤ y ∧ y ≤ 1000001) ∧ e = .returned (vec x y) ∧ RdU B w' r (k + 8) ∧ Kept r w w'
theorem sign_bd {a b c : Int} (a0 : 0 ≤ a) (a1 : a < 100) (b0 : 0 ≤ b) (b1 : b < 100) (c0 : 0 ≤ c) (c1 : c < 2) : -9999 ≤ (a * 100 + b) * (1 - 2 * c) ∧ (a * 100 + b) * (1 - 2 * c) ≤ 9999 := by
  rcases bit_two c0 c1 with rfl | rfl <;> omega
def edgesX : Array Value := #[.int .i64 1000000, .int .i64 (-1000000), .int .i64 1000001, .int .i64 999999]
def edgesY : Array Value := #[.int .i64 1000000, .int .i64 (-1000000), .int .i64 (-1000001), .int .i64 999999]
theorem edgeX_at (i : Nat) (h : i < 4) : ∃ z : Int, edgesX[i]? = some (.int .i64 z) ∧ -1000001 ≤ z ∧ z ≤ 1000001 := by
  have : i = 0 ∨ i = 1 ∨ i = 2 ∨ i = 3 := by omega
  rcases this with rfl | rfl | rfl | rfl
  all_goals exact ⟨_, rfl, by omega, by omega⟩
theorem edgeY_at (i : Nat) (h : i < 4) : ∃ z : Int, edgesY[i]? = some (.int .i64 z) ∧ -1000001 ≤ z ∧ z ≤ 1000001 := by
  have : i = 0 ∨ i = 1 ∨ i = 2 ∨ i = 3 := by omega
  rcases this with rfl | rfl | rfl | rfl
  all_goals exact ⟨_, rfl, by omega, by omega⟩

set_option maxHeartbeats 2000000 in
theorem vec_drawn {B : Nat} (r : Nat) (k : Int) (w : World) (R : RdU B w r k) (hk : k ≤ 90000) :
    Calls Try.prog 47 #[.pointer (some ⟨r, 0, none⟩)] w (VecDrawn B r k w) := by
  have hr := R.here
  have hB := R.base
  go_enter Try.func47, Try.ntmps47
  go_wp2_with fail
  refine (pick_any r 100 (k) _ (R.alloc _) (by omega) (by omega) (by omega)).mono ?_
  rintro e w1 ⟨x1, ⟨a1, b1⟩, rfl, R1, K1⟩
  go_wp2_with fail
  refine (pick_any r 100 (k + 1) _ R1 (by omega) (by omega) (by omega)).mono ?_
  rintro e w2 ⟨x2, ⟨a2, b2⟩, rfl, R2, K2⟩
  go_wp2_with fail
  refine (pick_any r 2 (k + 1 + 1) _ R2 (by omega) (by omega) (by omega)).mono ?_
  rintro e w3 ⟨x3, ⟨a3, b3⟩, rfl, R3, K3⟩
  have X := sign_bd a1 b1 a2 b2 a3 b3
  go_wp2_with fail
  refine (pick_any r 100 (k + 1 + 1 + 1) _ R3 (by omega) (by omega) (by omega)).mono ?_
  rintro e w4 ⟨x4, ⟨a4, b4⟩, rfl, R4, K4⟩
  go_wp2_with fail
  refine (pick_any r 100 (k + 1 + 1 + 1 + 1) _ R4 (by omega) (by omega) (by omega)).mono ?_
  rintro e w5 ⟨x5, ⟨a5, b5⟩, rfl, R5, K5⟩
  go_wp2_with fail
  refine (pick_any r 2 (k + 1 + 1 + 1 + 1 + 1) _ R5 (by omega) (by omega) (by omega)).mono ?_
  rintro e w6 ⟨x6, ⟨a6, b6⟩, rfl, R6, K6⟩
  have Y := sign_bd a4 b4 a5 b5 a6 b6
  have KK := K1.trans (K2.trans (K3.trans (K4.trans (K5.trans K6))))
  obtain ⟨hc6, hf6⟩ := kcell KK (B := w.heap.size) (by omega)
  have z1 : w.heap.size < w6.heap.size := by have := KK.size; simp at this; omega
  have z2 : w.heap.size ≤ w6.heap.size := by omega
  have z6 : w.heap.size < w6.heap.size + 1 := by omega
  have n1 : w6.heap.size ≠ w.heap.size := by omega
  have n2 : w.heap.size ≠ w6.heap.size := by omega
  have K06 := Lib.hid ((Kept.refl r w).alloc (.cells #[.int .i64 0, .int .i64 0] 24) |>.trans KK)
  clear K1 K2 K3 K4 K5 K6 KK R1 R2 R3 R4 R5
  go_wp2_with fail
  refine (pick_any r 20 (k + 1 + 1 + 1 + 1 + 1 + 1) _ (R6.alloc _) (by omega) (by omega) (by omega)).mono ?_
  rintro e w7 ⟨x7, ⟨a7, b7⟩, rfl, R7, K7⟩
  obtain ⟨hc7, hf7⟩ := kcell K7 (B := w.heap.size) (by omega)
  have z3 : w6.heap.size < w7.heap.size := by have := K7.size; simp at this; omega
  have z4 : w.heap.size < w7.heap.size := by omega
  have z5 : w.heap.size ≤ w7.heap.size := by omega
  have K07 := Lib.hid ((K06.out.alloc _).trans K7)
  clear K06 K7 R6
  generalize (x1 * 100 + x2) * (1 - 2 * x3) = xx at *
  generalize (x4 * 100 + x5) * (1 - 2 * x6) = yy at *
  clear a1 a2 a3 a4 a5 a6 b1 b2 b3 b4 b5 b6
  obtain ⟨X1, X2⟩ := X
  obtain ⟨Y1, Y2⟩ := Y
  have R7' := Lib.hid R7
  clear R
  by_cases c0 : x7 = 0
  · subst c0
    go_wp2_with fail
    refine (pick_any r 4 (k + 1 + 1 + 1 + 1 + 1 + 1 + 1) (w7.alloc (.cells edgesX 3)) (R7.alloc _) (by omega) (by omega) (by omega)).mono ?_
    rintro e w8 ⟨x8, ⟨a8, b8⟩, rfl, R8, K8⟩
    obtain ⟨i, rfl⟩ := Int.eq_ofNat_of_zero_le a8
    obtain ⟨z, hz, zl, zh⟩ := edgeX_at i (by omega)
    obtain ⟨hc8, hf8⟩ := kcell K8 (B := w.heap.size) (by omega)
    have hcell : w8.cell? ⟨w7.heap.size, i, none⟩ = some (.int .i64 z) := by
      rw [hc8 _ _ (by omega) (by simp), World.cell?_alloc_new]; exact hz
    have hi : (i : Int) < 4 := by omega
    have z7 : w6.heap.size < w7.heap.size + 1 := by omega
    have z8 : w.heap.size < w7.heap.size + 1 := by omega
    have R8' := Lib.hid R8
    have K08 := Lib.hid ((K07.out.alloc _).trans K8)
    clear K8 R8 R7 R7' K07
    go_wp2
    exact bodyPost_ret (v := vec z yy) (by simp [results, Try.results47, go_sem, hc8, hc7, hc6, z1, z4, z6, z8]) rfl ⟨z, yy, ⟨by omega, by omega⟩, ⟨by omega, by omega⟩, rfl, ((((R8'.out).set _ _ _ (by omega)).set _ _ _ (by omega)).set _ _ _ (by omega)).mono (by omega), (((K08.out).set _ _ _ (by omega)).set _ _ _ (by omega)).set _ _ _ (by omega)⟩
  by_cases c1 : x7 = 1
  · subst c1
    go_wp2_with fail
    refine (pick_any r 4 (k + 1 + 1 + 1 + 1 + 1 + 1 + 1) (w7.alloc (.cells edgesY 3)) (R7.alloc _) (by omega) (by omega) (by omega)).mono ?_
    rintro e w8 ⟨x8, ⟨a8, b8⟩, rfl, R8, K8⟩
    obtain ⟨i, rfl⟩ := Int.eq_ofNat_of_zero_le a8
    obtain ⟨z, hz, zl, zh⟩ := edgeY_at i (by omega)
    obtain ⟨hc8, hf8⟩ := kcell K8 (B := w.heap.size) (by omega)
    have hcell : w8.cell? ⟨w7.heap.size, i, none⟩ = some (.int .i64 z) := by
      rw [hc8 _ _ (by omega) (by simp), World.cell?_alloc_new]; exact hz
    have hi : (i : Int) < 4 := by omega
    have z7 : w6.heap.size < w7.heap.size + 1 := by omega
    have z8 : w.heap.size < w7.heap.size + 1 := by omega
    have R8' := Lib.hid R8
    have K08 := Lib.hid ((K07.out.alloc _).trans K8)
    clear K8 R8 R7 R7' K07
    go_wp2
    exact bodyPost_ret (v := vec xx z) (by simp [results, Try.results47, go_sem, hc8, hc7, hc6, z1, z4, z6, z8]) rfl ⟨xx, z, ⟨by omega, by omega⟩, ⟨by omega, by omega⟩, rfl, ((((R8'.out).set _ _ _ (by omega)).set _ _ _ (by omega)).set _ _ _ (by omega)).mono (by omega), (((K08.out).set _ _ _ (by omega)).set _ _ _ (by omega)).set _ _ _ (by omega)⟩
  by_cases c2 : x7 = 2
  · subst c2
    go_wp2
    exact bodyPost_ret (v := vec 0 0) (by simp [results, Try.results47, go_sem, hc7, hc6, z1, z6]) rfl ⟨0, 0, ⟨by omega, by omega⟩, ⟨by omega, by omega⟩, rfl, (((((R7'.out).set _ _ _ (by omega)).set _ _ _ (by omega)).set _ _ _ (by omega)).set _ _ _ (by omega)).mono (by omega), ((((K07.out).set _ _ _ (by omega)).set _ _ _ (by omega)).set _ _ _ (by omega)).set _ _ _ (by omega)⟩
  · have d0 : (x7 == 0) = false := beq_eq_false_iff_ne.2 c0
    have d1 : (x7 == 1) = false := beq_eq_false_iff_ne.2 c1
    have d2 : (x7 == 2) = false := beq_eq_false_iff_ne.2 c2
    clear c0 c1 c2
    go_wp2
    exact bodyPost_ret (v := vec xx yy) (by simp [results, Try.results47, go_sem, hc7, hc6, z1, z6]) rfl ⟨xx, yy, ⟨by omega, by omega⟩, ⟨by omega, by omega⟩, rfl, ((((R7'.out).set _ _ _ (by omega)).set _ _ _ (by omega))).mono (by omega), (((K07.out).set _ _ _ (by omega)).set _ _ _ (by omega))⟩

/-- A row that came in stands while nothing below is written. -/
theorem IsRow.below {k : IntKind} {w w' : World} {a : Option Addr} {len cap : Nat} {zs : List Int} (h : IsRow k w a len cap zs) (b : Below w.heap.size w w') : IsRow k w' a len cap zs := by
  rcases h with h | ⟨x, rfl, hl, hm, hz, hcell, hwz⟩
  · exact .inl h
  · refine .inr ⟨x, rfl, hl, hm, hz, fun i hi => ?_, hwz⟩
    have hc := hcell i hi
    exact (b.cell (cell_lt hc)).trans hc
theorem block_same {w w' : World} {b : Nat} (h : w'.heap[b]? = w.heap[b]?) : (∀ o, w'.cell? ⟨b, o, none⟩ = w.cell? ⟨b, o, none⟩) ∧ (∀ o, w'.frozen? ⟨b, o, none⟩ = w.frozen? ⟨b, o, none⟩) :=
  ⟨fun o => World.cell?_of_block (a := ⟨b, o, none⟩) h, fun o => World.frozen?_of_block (a := ⟨b, o, none⟩) h⟩
theorem RdU.drew {B : Nat} {w : World} {r : Nat} {k : Int} (R : RdU B w r k) : RdU B w.drew r k := R.below ⟨rfl, rfl, rfl, Nat.le_refl _, fun _ _ => rfl⟩
theorem bl_drew1 {w a : World} (h : Below w.heap.size w a) : Below w.heap.size w a.drew := h.drew
theorem kp_below {r : Nat} {w a b : World} (h : Below w.heap.size w a) (k : Kept r a b) (hr : w.heap.size ≤ r) : Below w.heap.size w b := h.trans (k.below h.size hr)

/-- A drawn vector, behind a draw of its own. -/
def DrawnV (w : World) (e : Ending) (w' : World) : Prop :=
  ∃ x y : Int, (-1000001 ≤ x ∧ x ≤ 1000001) ∧ (-1000001 ≤ y ∧ y ≤ 1000001) ∧ e = .returned (vec x y) ∧ Below w.heap.size w w'
/-- Two drawn vectors. -/
def DrawnVV (w : World) (e : Ending) (w' : World) : Prop :=
  ∃ x y u v : Int, ((-1000001 ≤ x ∧ x ≤ 1000001) ∧ (-1000001 ≤ y ∧ y ≤ 1000001)) ∧ ((-1000001 ≤ u ∧ u ≤ 1000001) ∧ (-1000001 ≤ v ∧ v ≤ 1000001)) ∧ e = .returned (.tuple #[vec x y, vec u v]) ∧ Below w.heap.size w w'
/-- A drawn vector and a number. -/
def DrawnVI (w : World) (e : Ending) (w' : World) : Prop :=
  ∃ x y k : Int, ((-1000001 ≤ x ∧ x ≤ 1000001) ∧ (-1000001 ≤ y ∧ y ≤ 1000001)) ∧ (-2000000001 ≤ k ∧ k ≤ 2000000001) ∧ e = .returned (.tuple #[vec x y, .int .i64 k]) ∧ Below w.heap.size w w'

/-- A drawn direction. -/
def DrawnD (w : World) (e : Ending) (w' : World) : Prop := ∃ d : Int, (-1 ≤ d ∧ d ≤ 16) ∧ e = .returned (.int .i64 d) ∧ Below w.heap.size w w'

/-- The drawn limit, as the walk spells it. -/
def climit (a b c : Int) : Int := IntKind.i64.wrap (IntKind.i64.wrap (IntKind.i64.wrap (a * 100) + IntKind.i64.wrap (IntKind.i64.wrap (b.tdiv 19) * 1000000)) - IntKind.i64.wrap (IntKind.i64.wrap (c.tdiv 19) * 10000))
theorem climit_bd {a b c : Int} (a0 : 0 ≤ a) (a1 : a < 100) (b0 : 0 ≤ b) (b1 : b < 20) (c0 : 0 ≤ c) (c1 : c < 20) : -2000000001 ≤ climit a b c ∧ climit a b c ≤ 2000000001 := by
  unfold climit
  rw [Int.tdiv_eq_ediv_of_nonneg b0, Int.tdiv_eq_ediv_of_nonneg c0, IntWalk.i64_in (a * 100) (by omega), IntWalk.i64_in (b / 19) (by omega), IntWalk.i64_in (c / 19) (by omega), IntWalk.i64_in (b / 19 * 1000000) (by omega), IntWalk.i64_in (c / 19 * 10000) (by omega), IntWalk.i64_in (a * 100 + b / 19 * 1000000) (by omega), IntWalk.i64_in (a * 100 + b / 19 * 1000000 - c / 19 * 10000) (by omega)]
  omega

end Go.Proofs.Ytmhmlmoohimfmaa
