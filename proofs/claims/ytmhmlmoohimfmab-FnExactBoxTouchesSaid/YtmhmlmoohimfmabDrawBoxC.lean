/-
  The boxes, points and radii that the model draws from a code: each number fits; nothing that was there before the call is written.
-/
import Derived.Test.YtmhmlmoohimfmabDrawBoxB
namespace Go.Proofs.Ytmhmlmoohimfmab
open Go.RowKit

/-- A drawn box, behind a draw of its own. -/
def DrawnB (w : World) (e : Ending) (w' : World) : Prop := ∃ p q s t : Int, ((-1200000 ≤ p ∧ p ≤ 1200000) ∧ (-1200000 ≤ q ∧ q ≤ 1200000) ∧ (-1200000 ≤ s ∧ s ≤ 1200000) ∧ (-1200000 ≤ t ∧ t ≤ 1200000)) ∧ e = .returned (box p q s t) ∧ Below w.heap.size w w'
/-- A drawn box and a point. -/
def DrawnBV (w : World) (e : Ending) (w' : World) : Prop := ∃ p q s t x y : Int, ((-1200000 ≤ p ∧ p ≤ 1200000) ∧ (-1200000 ≤ q ∧ q ≤ 1200000) ∧ (-1200000 ≤ s ∧ s ≤ 1200000) ∧ (-1200000 ≤ t ∧ t ≤ 1200000)) ∧ ((-1200000 ≤ x ∧ x ≤ 1200000) ∧ (-1200000 ≤ y ∧ y ≤ 1200000)) ∧ e = .returned (.tuple #[box p q s t, vec x y]) ∧ Below w.heap.size w w'
/-- Two drawn boxes. -/
def DrawnBB (w : World) (e : Ending) (w' : World) : Prop := ∃ p q s t x y u v : Int, ((-1200000 ≤ p ∧ p ≤ 1200000) ∧ (-1200000 ≤ q ∧ q ≤ 1200000) ∧ (-1200000 ≤ s ∧ s ≤ 1200000) ∧ (-1200000 ≤ t ∧ t ≤ 1200000)) ∧ ((-1200000 ≤ x ∧ x ≤ 1200000) ∧ (-1200000 ≤ y ∧ y ≤ 1200000) ∧ (-1200000 ≤ u ∧ u ≤ 1200000) ∧ (-1200000 ≤ v ∧ v ≤ 1200000)) ∧ e = .returned (.tuple #[box p q s t, box x y u v]) ∧ Below w.heap.size w w'
/-- A drawn box, a point and a radius. -/
def DrawnBVI (w : World) (e : Ending) (w' : World) : Prop := ∃ p q s t x y r : Int, ((-1200000 ≤ p ∧ p ≤ 1200000) ∧ (-1200000 ≤ q ∧ q ≤ 1200000) ∧ (-1200000 ≤ s ∧ s ≤ 1200000) ∧ (-1200000 ≤ t ∧ t ≤ 1200000)) ∧ ((-1200000 ≤ x ∧ x ≤ 1200000) ∧ (-1200000 ≤ y ∧ y ≤ 1200000)) ∧ (-1200000 ≤ r ∧ r ≤ 1200000) ∧ e = .returned (.tuple #[box p q s t, vec x y, .int .i64 r]) ∧ Below w.heap.size w w'
theorem bc_all {W : World} {b : Nat} {p q s t : Int} (h : BCell W b p q s t) : W.cell? ⟨b, 0, none⟩ = some (.int .i64 p) ∧ W.cell? ⟨b, 1, none⟩ = some (.int .i64 q) ∧ W.cell? ⟨b, 2, none⟩ = some (.int .i64 s) ∧ W.cell? ⟨b, 3, none⟩ = some (.int .i64 t) := ⟨h.c0, h.c1, h.c2, h.c3⟩
theorem bl_set4 {w a : World} (h : Below w.heap.size w a) {b : Nat} (hb : w.heap.size ≤ b) (v0 v1 v2 v3 : Value) : Below w.heap.size w ((((a.setCell ⟨b, 0, none⟩ v0).setCell ⟨b, 1, none⟩ v1).setCell ⟨b, 2, none⟩ v2).setCell ⟨b, 3, none⟩ v3) := bl_set (bl_set (bl_set (bl_set h _ _ _ hb) _ _ _ hb) _ _ _ hb) _ _ _ hb
theorem bl_set2 {w a : World} (h : Below w.heap.size w a) {b : Nat} (hb : w.heap.size ≤ b) (v0 v1 : Value) : Below w.heap.size w ((a.setCell ⟨b, 0, none⟩ v0).setCell ⟨b, 1, none⟩ v1) := bl_set (bl_set h _ _ _ hb) _ _ _ hb
theorem PCell.far2 {W : World} {b : Nat} {x y : Int} (h : PCell W b x y) {c : Nat} (hne : c ≠ b) (v0 v1 : Value) : PCell ((W.setCell ⟨c, 0, none⟩ v0).setCell ⟨c, 1, none⟩ v1) b x y := (h.far hne _ _).far hne _ _
theorem BCell.far2 {W : World} {b : Nat} {p q s t : Int} (h : BCell W b p q s t) {c : Nat} (hne : c ≠ b) (v0 v1 : Value) : BCell ((W.setCell ⟨c, 0, none⟩ v0).setCell ⟨c, 1, none⟩ v1) b p q s t := (h.far hne _ _).far hne _ _

set_option maxHeartbeats 2000000 in
theorem draw_bhas (a : Option Addr) (len cap : Nat) (zs : List Int) (w : World) (h : IsRow .u8 w a len cap zs) : Calls Try.prog 15 #[.slice a len cap] w (DrawnBV w) := by
  have h1 := h.below (w' := ((w.alloc (.cells #[.int .i64 0, .int .i64 0, .int .i64 0, .int .i64 0] 26)).alloc (.cells #[.int .i64 0, .int .i64 0] 24))) (bl_alloc (bl_alloc (bl_refl w) _) _)
  go_enter Try.func15, Try.ntmps15
  go_wp2_with fail
  refine (open_any a len cap zs ((w.alloc (.cells #[.int .i64 0, .int .i64 0, .int .i64 0, .int .i64 0] 26)).alloc (.cells #[.int .i64 0, .int .i64 0] 24)) h1).mono ?_
  rintro e w1 ⟨rfl, R1, B1⟩
  simp at R1
  have z1 := R1.base
  have D1 : BCell w1 (w.heap.size) 0 0 0 0 := ((BCell.new w (w.heap.size) 0 0 0 0 _ (by first | rfl | simp)).alloc _).step B1
  have E1 : PCell w1 (w.heap.size + 1) 0 0 := (PCell.new (w.alloc (.cells #[.int .i64 0, .int .i64 0, .int .i64 0, .int .i64 0] 26)) (w.heap.size + 1) 0 0 _ (by first | rfl | simp)).step B1
  have dn : w.heap.size ≠ w.heap.size + 1 + 1 := by omega
  have en : w.heap.size + 1 ≠ w.heap.size + 1 + 1 := by omega
  have H1 := Lib.hid (bl_trans (bl_alloc (bl_alloc (bl_refl w) _) _) B1)
  clear B1 h1 h
  go_wp2_with fail
  refine (box_drawn _ 0 _ R1 (by omega)).mono ?_
  rintro e w2 ⟨p2, q2, m2, n2, ⟨⟨pa2, pb2⟩, qa2, qb2⟩, ⟨⟨ma2, mb2⟩, na2, nb2⟩, rfl, R2, K2⟩
  have D2 := D1.kept K2 dn
  have E2 := E1.kept K2 en
  have H2 := Lib.hid (kp_below H1.out K2 (by omega))
  have z2 : w1.heap.size ≤ w2.heap.size := K2.size
  have A2 : BCell (w2.alloc (.cells #[.int .i64 p2, .int .i64 q2, .int .i64 m2, .int .i64 n2] 26)) w2.heap.size p2 q2 m2 n2 := BCell.new _ _ _ _ _ _ _ rfl
  have an : w2.heap.size ≠ w.heap.size + 1 + 1 := by omega
  clear K2 R1 H1 D1 E1
  go_wp2_with fail
  have R3 := R2.alloc (.cells #[.int .i64 p2, .int .i64 q2, .int .i64 m2, .int .i64 n2] 26)
  have D3 := D2.alloc (.cells #[.int .i64 p2, .int .i64 q2, .int .i64 m2, .int .i64 n2] 26)
  have E3 := E2.alloc (.cells #[.int .i64 p2, .int .i64 q2, .int .i64 m2, .int .i64 n2] 26)
  have H3 := Lib.hid (bl_alloc H2.out (.cells #[.int .i64 p2, .int .i64 q2, .int .i64 m2, .int .i64 n2] 26))
  clear R2 D2 E2 H2
  have ac0 := A2.c0
  have ac1 := A2.c1
  have ac2 := A2.c2
  have ac3 := A2.c3
  have af0 := A2.f0
  have af1 := A2.f1
  have af2 := A2.f2
  have af3 := A2.f3
  have al := A2.lt
  go_region_held3 (fun w' => w'.cell? ⟨w2.heap.size, 0, none⟩ = some (.int .i64 p2) ∧ w'.cell? ⟨w2.heap.size, 1, none⟩ = some (.int .i64 q2) ∧ w'.cell? ⟨w2.heap.size, 2, none⟩ = some (.int .i64 m2) ∧ w'.cell? ⟨w2.heap.size, 3, none⟩ = some (.int .i64 n2))
    (exact bc_all (by repeat (first | with_reducible exact A4 | with_reducible exact A2 | with_reducible refine BCell.far ?_ (by omega) _ _ | with_reducible refine BCell.alloc ?_ _ | with_reducible refine BCell.drew ?_)))
    (first | (go_at_call 21; refine (near_drawn _ _ _ _ _ _ _ (RdU.drew R3) (by omega) (by omega) (by omega) (by omega) (by omega)).mono ?_; rintro e w4 ⟨x, y, ⟨xa, xb⟩, ⟨ya, yb⟩, rfl, R4, K4⟩; have A4 := A2.drew.kept K4 an; have D4 := D3.drew.kept K4 dn; have E4 := E3.drew.kept K4 en; have H4 := Lib.hid (kp_below (bl_drew1 H3.out) K4 (by omega)); clear K4; have dc0 := D4.c0; have dc1 := D4.c1; have dc2 := D4.c2; have dc3 := D4.c3; have df0 := D4.f0; have df1 := D4.f1; have df2 := D4.f2; have df3 := D4.f3; have dl := D4.lt; have ec0 := E4.c0; have ec1 := E4.c1; have ef0 := E4.f0; have ef1 := E4.f1; have el := E4.lt))
  all_goals
    clear R3 R4 H3
    go_wp2
    exact bodyPost_ret (v := .tuple #[box p2 q2 m2 n2, vec x y]) (by simp [results, Try.results15, go_sem, dc0, dc1, dc2, dc3, ec0, ec1]) rfl ⟨p2, q2, m2, n2, x, y, ⟨⟨by omega, by omega⟩, ⟨by omega, by omega⟩, ⟨by omega, by omega⟩, ⟨by omega, by omega⟩⟩, ⟨⟨by omega, by omega⟩, ⟨by omega, by omega⟩⟩, rfl, bl_set2 (bl_set4 H4.out (by omega) _ _ _ _) (by omega) _ _⟩

/-- A drawn radius, as the walk spells it. -/
def rad1 (x y : Int) : Int := IntKind.i64.wrap (IntKind.i64.wrap (x * 50) - IntKind.i64.wrap (IntKind.i64.wrap (y.tdiv 19) * 5000))
theorem rad1_bd {x y : Int} (x0 : 0 ≤ x) (x1 : x < 30) (y0 : 0 ≤ y) (y1 : y < 20) : -1200000 ≤ rad1 x y ∧ rad1 x y ≤ 1200000 := by
  unfold rad1
  have e : y.tdiv 19 = y / 19 := Int.tdiv_eq_ediv_of_nonneg y0
  rw [e, IntWalk.i64_in (y / 19) (by omega), IntWalk.i64_in (x * 50) (by omega), IntWalk.i64_in (y / 19 * 5000) (by omega), IntWalk.i64_in (x * 50 - y / 19 * 5000) (by omega)]
  omega

set_option maxHeartbeats 2000000 in
theorem draw_btouch (a : Option Addr) (len cap : Nat) (zs : List Int) (w : World) (h : IsRow .u8 w a len cap zs) : Calls Try.prog 7 #[.slice a len cap] w (DrawnBVI w) := by
  have h1 := h.below (w' := ((w.alloc (.cells #[.int .i64 0, .int .i64 0, .int .i64 0, .int .i64 0] 26)).alloc (.cells #[.int .i64 0, .int .i64 0] 24))) (bl_alloc (bl_alloc (bl_refl w) _) _)
  go_enter Try.func7, Try.ntmps7
  go_wp2_with fail
  refine (open_any a len cap zs ((w.alloc (.cells #[.int .i64 0, .int .i64 0, .int .i64 0, .int .i64 0] 26)).alloc (.cells #[.int .i64 0, .int .i64 0] 24)) h1).mono ?_
  rintro e w1 ⟨rfl, R1, B1⟩
  simp at R1
  have z1 := R1.base
  have D1 : BCell w1 (w.heap.size) 0 0 0 0 := ((BCell.new w (w.heap.size) 0 0 0 0 _ (by first | rfl | simp)).alloc _).step B1
  have E1 : PCell w1 (w.heap.size + 1) 0 0 := (PCell.new (w.alloc (.cells #[.int .i64 0, .int .i64 0, .int .i64 0, .int .i64 0] 26)) (w.heap.size + 1) 0 0 _ (by first | rfl | simp)).step B1
  have dn : w.heap.size ≠ w.heap.size + 1 + 1 := by omega
  have en : w.heap.size + 1 ≠ w.heap.size + 1 + 1 := by omega
  have H1 := Lib.hid (bl_trans (bl_alloc (bl_alloc (bl_refl w) _) _) B1)
  clear B1 h1 h
  go_wp2_with fail
  refine (box_drawn _ 0 _ R1 (by omega)).mono ?_
  rintro e w2 ⟨p2, q2, m2, n2, ⟨⟨pa2, pb2⟩, qa2, qb2⟩, ⟨⟨ma2, mb2⟩, na2, nb2⟩, rfl, R2, K2⟩
  have D2 := D1.kept K2 dn
  have E2 := E1.kept K2 en
  have H2 := Lib.hid (kp_below H1.out K2 (by omega))
  have z2 : w1.heap.size ≤ w2.heap.size := K2.size
  have A2 : BCell (w2.alloc (.cells #[.int .i64 p2, .int .i64 q2, .int .i64 m2, .int .i64 n2] 26)) w2.heap.size p2 q2 m2 n2 := BCell.new _ _ _ _ _ _ _ rfl
  have an : w2.heap.size ≠ w.heap.size + 1 + 1 := by omega
  clear K2 R1 H1 D1 E1
  have ac0 := A2.c0
  have ac1 := A2.c1
  have ac2 := A2.c2
  have ac3 := A2.c3
  go_wp2_with fail
  refine (near_drawn _ _ _ _ _ _ _ (R2.alloc _) (by omega) (by omega) (by omega) (by omega) (by omega)).mono ?_
  rintro e w3 ⟨x, y, ⟨xa, xb⟩, ⟨ya, yb⟩, rfl, R3, K3⟩
  have z3 : w2.heap.size < w3.heap.size := by have := K3.size; simp at this; omega
  have A3 := (A2.kept K3 an).alloc (.cells #[.int .i64 x, .int .i64 y] 24)
  have D3 := ((D2.alloc _).kept K3 dn).alloc (.cells #[.int .i64 x, .int .i64 y] 24)
  have E3 := ((E2.alloc _).kept K3 en).alloc (.cells #[.int .i64 x, .int .i64 y] 24)
  have V3 : PCell (w3.alloc (.cells #[.int .i64 x, .int .i64 y] 24)) w3.heap.size x y := PCell.new _ _ _ _ _ rfl
  have vn : w3.heap.size ≠ w.heap.size + 1 + 1 := by omega
  have R3 := R3.alloc (.cells #[.int .i64 x, .int .i64 y] 24)
  have H3 := Lib.hid (bl_alloc (kp_below (bl_alloc H2.out _) K3 (by omega)) (.cells #[.int .i64 x, .int .i64 y] 24))
  clear K3 R2 H2 D2 E2 A2 ac0 ac1 ac2 ac3
  go_wp2_with fail
  have ac0 := A3.c0
  have ac1 := A3.c1
  have ac2 := A3.c2
  have ac3 := A3.c3
  have af0 := A3.f0
  have af1 := A3.f1
  have af2 := A3.f2
  have af3 := A3.f3
  have al := A3.lt
  have vc0 := V3.c0
  have vc1 := V3.c1
  have vf0 := V3.f0
  have vf1 := V3.f1
  have vl := V3.lt
  have nz : ((19 : Int) == 0) = false := by decide
  go_region_held3 (fun w' => (w'.cell? ⟨w2.heap.size, 0, none⟩ = some (.int .i64 p2) ∧ w'.cell? ⟨w2.heap.size, 1, none⟩ = some (.int .i64 q2) ∧ w'.cell? ⟨w2.heap.size, 2, none⟩ = some (.int .i64 m2) ∧ w'.cell? ⟨w2.heap.size, 3, none⟩ = some (.int .i64 n2)) ∧ w'.cell? ⟨w3.heap.size, 0, none⟩ = some (.int .i64 x) ∧ w'.cell? ⟨w3.heap.size, 1, none⟩ = some (.int .i64 y))
    (exact ⟨bc_all (by repeat (first | with_reducible exact A5 | with_reducible exact A4 | with_reducible exact A3 | with_reducible refine BCell.far ?_ (by omega) _ _ | with_reducible refine BCell.alloc ?_ _ | with_reducible refine BCell.drew ?_)), pc_both (by repeat (first | with_reducible exact V5 | with_reducible exact V4 | with_reducible exact V3 | with_reducible refine PCell.far ?_ (by omega) _ _ | with_reducible refine PCell.alloc ?_ _ | with_reducible refine PCell.drew ?_))⟩)
    (first | (have _q := R4; go_at_call 22; refine (pick_any _ 20 _ _ (by first | with_reducible exact R4) (by omega) (by omega) (by omega)).mono ?_; rintro e w5 ⟨x5, ⟨s5, t5⟩, rfl, R5, K5⟩; have A5 := BCell.kept (by first | with_reducible exact A4 | with_reducible exact A4.drew | with_reducible exact A4.alloc _ | with_reducible exact A4.drew.alloc _ | with_reducible exact (A4.alloc _).drew) K5 an; have V5 := PCell.kept (by first | with_reducible exact V4 | with_reducible exact V4.drew | with_reducible exact V4.alloc _ | with_reducible exact V4.drew.alloc _ | with_reducible exact (V4.alloc _).drew) K5 vn; have D5 := BCell.kept (by first | with_reducible exact D4 | with_reducible exact D4.drew | with_reducible exact D4.alloc _ | with_reducible exact D4.drew.alloc _ | with_reducible exact (D4.alloc _).drew) K5 dn; have E5 := PCell.kept (by first | with_reducible exact E4 | with_reducible exact E4.drew | with_reducible exact E4.alloc _ | with_reducible exact E4.drew.alloc _ | with_reducible exact (E4.alloc _).drew) K5 en; have H5 := Lib.hid (kp_below (by first | with_reducible exact H4.out | with_reducible exact bl_drew1 H4.out) K5 (by omega)); clear K5; have dc0 := D5.c0; have dc1 := D5.c1; have dc2 := D5.c2; have dc3 := D5.c3; have df0 := D5.f0; have df1 := D5.f1; have df2 := D5.f2; have df3 := D5.f3; have dl := D5.lt; have ec0 := E5.c0; have ec1 := E5.c1; have ef0 := E5.f0; have ef1 := E5.f1; have el := E5.lt) | (go_at_call 22; refine (pick_any _ 30 _ _ (by first | with_reducible exact RdU.drew R3) (by omega) (by omega) (by omega)).mono ?_; rintro e w4 ⟨x4, ⟨s4, t4⟩, rfl, R4, K4⟩; have A4 := BCell.kept (by first | with_reducible exact A3 | with_reducible exact A3.drew | with_reducible exact A3.alloc _ | with_reducible exact A3.drew.alloc _ | with_reducible exact (A3.alloc _).drew) K4 an; have V4 := PCell.kept (by first | with_reducible exact V3 | with_reducible exact V3.drew | with_reducible exact V3.alloc _ | with_reducible exact V3.drew.alloc _ | with_reducible exact (V3.alloc _).drew) K4 vn; have D4 := BCell.kept (by first | with_reducible exact D3 | with_reducible exact D3.drew | with_reducible exact D3.alloc _ | with_reducible exact D3.drew.alloc _ | with_reducible exact (D3.alloc _).drew) K4 dn; have E4 := PCell.kept (by first | with_reducible exact E3 | with_reducible exact E3.drew | with_reducible exact E3.alloc _ | with_reducible exact E3.drew.alloc _ | with_reducible exact (E3.alloc _).drew) K4 en; have H4 := Lib.hid (kp_below (by first | with_reducible exact H3.out | with_reducible exact bl_drew1 H3.out) K4 (by omega)); clear K4))
  all_goals
    clear R3 R4 R5 H3 H4
    go_wp2
    exact bodyPost_ret (v := .tuple #[box p2 q2 m2 n2, vec x y, .int .i64 (rad1 x4 x5)]) (by simp [results, Try.results7, go_sem, rad1, dc0, dc1, dc2, dc3, ec0, ec1]) rfl ⟨p2, q2, m2, n2, x, y, _, ⟨⟨by omega, by omega⟩, ⟨by omega, by omega⟩, ⟨by omega, by omega⟩, ⟨by omega, by omega⟩⟩, ⟨⟨by omega, by omega⟩, ⟨by omega, by omega⟩⟩, rad1_bd s4 t4 s5 t5, rfl, bl_set2 (bl_set4 H5.out (by omega) _ _ _ _) (by omega) _ _⟩

theorem far2_bd {a p : Int} (a1 : -1100000 ≤ a) (a2 : a ≤ 1100000) (p0 : 0 ≤ p) (p1 : p < 40) : -1200000 ≤ far1 a p ∧ far1 a p ≤ 1200000 := by
  unfold far1
  rw [IntWalk.i64_in (p * 100) (by omega), IntWalk.i64_in (a + p * 100) (by omega)]
  omega

end Go.Proofs.Ytmhmlmoohimfmab
