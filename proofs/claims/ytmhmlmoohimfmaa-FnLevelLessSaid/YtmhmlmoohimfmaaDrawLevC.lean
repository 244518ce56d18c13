/-
  The levels that the model draws out of a code: whatever they are, their walls and gates can be read; nothing that was there before the call is written.
-/
import Derived.Test.YtmhmlmoohimfmaaDrawLevB
import Derived.Test.YtmhmlmoohimfmaaCellsB
import Derived.Test.YtmhmlmoohimfmaaDrawBox
namespace Go.Proofs.Ytmhmlmoohimfmaa
open Go.RowKit
open M

def DrawnL (w : World) (e : Ending) (w' : World) : Prop :=
  ∃ (i t x y : Int) (A : Option Addr) (n c : Nat) (G : Option Addr) (m kk : Nat) (p q s z b : Int) (ws gs : List Bx), e = .returned (lev i t x y A n c G m kk p q s z b) ∧ (n ≤ 20 ∧ n ≤ c) ∧ (m ≤ 20 ∧ m ≤ kk) ∧ Boxes w' A n ws ∧ Boxes w' G m gs ∧ Mine w.heap.size A ∧ Mine w.heap.size G ∧ Below w.heap.size w w'
def DrawnLV (w : World) (e : Ending) (w' : World) : Prop :=
  ∃ (i t x y : Int) (A : Option Addr) (n c : Nat) (G : Option Addr) (m kk : Nat) (p q s z b : Int) (ws gs : List Bx) (u v : Int), e = .returned (.tuple #[lev i t x y A n c G m kk p q s z b, vec u v]) ∧ (n ≤ 20 ∧ n ≤ c) ∧ (m ≤ 20 ∧ m ≤ kk) ∧ Boxes w' A n ws ∧ Boxes w' G m gs ∧ Mine w.heap.size A ∧ Mine w.heap.size G ∧ Below w.heap.size w w'
def DrawnLI (w : World) (e : Ending) (w' : World) : Prop :=
  ∃ (i t x y : Int) (A : Option Addr) (n c : Nat) (G : Option Addr) (m kk : Nat) (p q s z b : Int) (ws gs : List Bx) (u : Int), (0 ≤ u ∧ u < 4) ∧ e = .returned (.tuple #[lev i t x y A n c G m kk p q s z b, .int .i64 u]) ∧ (n ≤ 20 ∧ n ≤ c) ∧ (m ≤ 20 ∧ m ≤ kk) ∧ Boxes w' A n ws ∧ Boxes w' G m gs ∧ Mine w.heap.size A ∧ Mine w.heap.size G ∧ Below w.heap.size w w'
theorem Boxes.sets {W : World} {A : Option Addr} {n b : Nat} {bs : List Bx} (h : Boxes W A n bs) (hA : 0 < n → ∀ g off, A = some ⟨g, off, none⟩ → g ≠ b) (o : Nat) (vs : List Value) : Boxes (W.setCells b o vs) A n bs := h.kept (ksets vs o (Kept.refl b W)) hA

set_option maxRecDepth 100000 in
set_option maxHeartbeats 4000000 in
theorem draw_lvalid (a : Option Addr) (len cap : Nat) (zs : List Int) (w : World) (h : IsRow .u8 w a len cap zs) : Calls Try.prog 15 #[.slice a len cap] w (DrawnL w) := by
  have h1 := h.below (w' := w.alloc (.cells #[.int .i64 0, .int .i64 0, .int .i64 0, .int .i64 0, .slice none 0 0, .slice none 0 0, .int .i64 0, .int .i64 0, .int .i64 0, .int .i64 0, .int .i64 0] 29)) (bl_alloc (bl_refl w) _)
  have D0 : CellsAt (w.alloc (.cells #[.int .i64 0, .int .i64 0, .int .i64 0, .int .i64 0, .slice none 0 0, .slice none 0 0, .int .i64 0, .int .i64 0, .int .i64 0, .int .i64 0, .int .i64 0] 29)) w.heap.size (lvs 0 0 0 0 none 0 0 none 0 0 0 0 0 0 0) := CellsAt.new w _ _ _ rfl
  go_enter Try.func15, Try.ntmps15
  go_wp2_with fail
  refine (open_any a len cap zs (w.alloc (.cells #[.int .i64 0, .int .i64 0, .int .i64 0, .int .i64 0, .slice none 0 0, .slice none 0 0, .int .i64 0, .int .i64 0, .int .i64 0, .int .i64 0, .int .i64 0] 29)) h1).mono ?_
  rintro e w1 ⟨rfl, R1, B1⟩
  simp at R1
  have z1 := R1.base
  have D1 := Lib.hid (D0.step B1)
  have H1 := Lib.hid (bl_trans (bl_alloc (bl_refl w) _) B1)
  clear B1 h1 h
  go_wp2_with fail
  refine (level_drawn _ 0 _ R1 (by omega)).mono ?_
  rintro e w2 ⟨i', t', x', y', A', n', c', G', m', kk', p', q', s', z', b', ws', gs', rfl, hn', hm', HL', I2, J2, MA', MG', R2, K2⟩
  have z2 := K2.size
  have D2 := Lib.hid (D1.out.kept K2 (by omega))
  have H2 := Lib.hid (kp_below H1.out K2 (by omega))
  clear R1 K2 D1 H1
  go_wp2_with fail
  refine (bent_drawn _ _ i' t' x' y' A' n' c' G' m' kk' p' q' s' z' b' ws' gs' _ R2 (by omega) (by omega) I2 J2 (fun g off e => by have := MA' g off e; omega) (fun g off e => by have := MG' g off e; omega) hn' hm' HL').mono ?_
  clear hn' hm' HL' I2 J2 MA' MG'
  rintro e w3 ⟨i, t, x, y, A, n, c, G, m, kk, p, q, s, z, b, ws, gs, rfl, hn, hm, HL, I3, J3, MA, MG, R3, K3⟩
  have z3 := K3.size
  have D3 := Lib.hid (D2.out.kept K3 (by omega))
  have H3 := Lib.hid (kp_below H2.out K3 (by omega))
  have I3 := Lib.hid I3
  have J3 := Lib.hid J3
  have MA := Lib.hid MA
  have MG := Lib.hid MG
  clear R2 K3 D2 H2
  go_wp2_with (refine store_cells rfl 29 (.tmp 2) (.tmp 9) rfl w.heap.size rfl (lvs i t x y A n c G m kk p q s z b) rfl _ D3.out (by simp) level_size rfl ?_)
  exact bodyPost_ret (v := lev i t x y A n c G m kk p q s z b) (res_cells rfl w.heap.size rfl (lvs i t x y A n c G m kk p q s z b) (D3.out.all _ (by simp)) Try.underlying29 rfl level_size) rfl (⟨i, t, x, y, A, n, c, G, m, kk, p, q, s, z, b, ws, gs, rfl, hn, hm, I3.out.sets (fun _ g off e => by have := MA.out g off e; omega) _ _, J3.out.sets (fun _ g off e => by have := MG.out g off e; omega) _ _, fun g off e => by have := MA.out g off e; omega, fun g off e => by have := MG.out g off e; omega, bl_sets H3.out (Nat.le_refl _) _ _⟩)

set_option maxRecDepth 100000 in
set_option maxHeartbeats 4000000 in
theorem draw_lhash (a : Option Addr) (len cap : Nat) (zs : List Int) (w : World) (h : IsRow .u8 w a len cap zs) : Calls Try.prog 24 #[.slice a len cap] w (DrawnL w) := by
  have h1 := h.below (w' := w.alloc (.cells #[.int .i64 0, .int .i64 0, .int .i64 0, .int .i64 0, .slice none 0 0, .slice none 0 0, .int .i64 0, .int .i64 0, .int .i64 0, .int .i64 0, .int .i64 0] 29)) (bl_alloc (bl_refl w) _)
  have D0 : CellsAt (w.alloc (.cells #[.int .i64 0, .int .i64 0, .int .i64 0, .int .i64 0, .slice none 0 0, .slice none 0 0, .int .i64 0, .int .i64 0, .int .i64 0, .int .i64 0, .int .i64 0] 29)) w.heap.size (lvs 0 0 0 0 none 0 0 none 0 0 0 0 0 0 0) := CellsAt.new w _ _ _ rfl
  go_enter Try.func24, Try.ntmps24
  go_wp2_with fail
  refine (draw_lvalid a len cap zs _ h1).mono ?_
  rintro e w3 ⟨i, t, x, y, A, n, c, G, m, kk, p, q, s, z, b, ws, gs, rfl, hn, hm, I3, J3, MA, MG, B3⟩
  have D3 := Lib.hid (D0.step B3)
  have H3 := Lib.hid (bl_trans (bl_alloc (bl_refl w) _) B3)
  simp at MA MG
  have I3 := Lib.hid I3
  have J3 := Lib.hid J3
  have MA := Lib.hid MA
  have MG := Lib.hid MG
  clear B3 h1 h
  go_wp2_with (refine store_cells rfl 29 (.tmp 2) (.tmp 4) rfl w.heap.size rfl (lvs i t x y A n c G m kk p q s z b) rfl _ D3.out (by simp) level_size rfl ?_)
  exact bodyPost_ret (v := lev i t x y A n c G m kk p q s z b) (res_cells rfl w.heap.size rfl (lvs i t x y A n c G m kk p q s z b) (D3.out.all _ (by simp)) Try.underlying29 rfl level_size) rfl (⟨i, t, x, y, A, n, c, G, m, kk, p, q, s, z, b, ws, gs, rfl, hn, hm, I3.out.sets (fun _ g off e => by have := MA.out g off e; omega) _ _, J3.out.sets (fun _ g off e => by have := MG.out g off e; omega) _ _, fun g off e => by have := MA.out g off e; omega, fun g off e => by have := MG.out g off e; omega, bl_sets H3.out (Nat.le_refl _) _ _⟩)

set_option maxRecDepth 100000 in
set_option maxHeartbeats 4000000 in
theorem draw_lbans (a : Option Addr) (len cap : Nat) (zs : List Int) (w : World) (h : IsRow .u8 w a len cap zs) : Calls Try.prog 27 #[.slice a len cap] w (DrawnLI w) := by
  have h1 := h.below (w' := w.alloc (.cells #[.int .i64 0, .int .i64 0, .int .i64 0, .int .i64 0, .slice none 0 0, .slice none 0 0, .int .i64 0, .int .i64 0, .int .i64 0, .int .i64 0, .int .i64 0] 29)) (bl_alloc (bl_refl w) _)
  have D0 : CellsAt (w.alloc (.cells #[.int .i64 0, .int .i64 0, .int .i64 0, .int .i64 0, .slice none 0 0, .slice none 0 0, .int .i64 0, .int .i64 0, .int .i64 0, .int .i64 0, .int .i64 0] 29)) w.heap.size (lvs 0 0 0 0 none 0 0 none 0 0 0 0 0 0 0) := CellsAt.new w _ _ _ rfl
  go_enter Try.func27, Try.ntmps27
  go_wp2_with fail
  refine (open_any a len cap zs (w.alloc (.cells #[.int .i64 0, .int .i64 0, .int .i64 0, .int .i64 0, .slice none 0 0, .slice none 0 0, .int .i64 0, .int .i64 0, .int .i64 0, .int .i64 0, .int .i64 0] 29)) h1).mono ?_
  rintro e w1 ⟨rfl, R1, B1⟩
  simp at R1
  have z1 := R1.base
  have D1 := Lib.hid (D0.step B1)
  have H1 := Lib.hid (bl_trans (bl_alloc (bl_refl w) _) B1)
  clear B1 h1 h
  go_wp2_with fail
  refine (level_drawn _ 0 _ R1 (by omega)).mono ?_
  rintro e w2 ⟨i', t', x', y', A', n', c', G', m', kk', p', q', s', z', b', ws', gs', rfl, hn', hm', HL', I2, J2, MA', MG', R2, K2⟩
  have z2 := K2.size
  have D2 := Lib.hid (D1.out.kept K2 (by omega))
  have H2 := Lib.hid (kp_below H1.out K2 (by omega))
  clear R1 K2 D1 H1
  go_wp2_with fail
  refine (bent_drawn _ _ i' t' x' y' A' n' c' G' m' kk' p' q' s' z' b' ws' gs' _ R2 (by omega) (by omega) I2 J2 (fun g off e => by have := MA' g off e; omega) (fun g off e => by have := MG' g off e; omega) hn' hm' HL').mono ?_
  clear hn' hm' HL' I2 J2 MA' MG'
  rintro e w3 ⟨i, t, x, y, A, n, c, G, m, kk, p, q, s, z, b, ws, gs, rfl, hn, hm, HL, I3, J3, MA, MG, R3, K3⟩
  have z3 := K3.size
  have D3 := Lib.hid (D2.out.kept K3 (by omega))
  have H3 := Lib.hid (kp_below H2.out K3 (by omega))
  have I3 := Lib.hid I3
  have J3 := Lib.hid J3
  have MA := Lib.hid MA
  have MG := Lib.hid MG
  clear R2 K3 D2 H2
  have L4 : CellsAt (w3.alloc (.cells #[.int .i64 i, .int .i64 t, .int .i64 x, .int .i64 y, .slice A n c, .slice G m kk, .int .i64 p, .int .i64 q, .int .i64 s, .int .i64 z, .int .i64 b] 29)) w3.heap.size (lvs i t x y A n c G m kk p q s z b) := CellsAt.new _ _ _ _ rfl
  have D4 := Lib.hid (D3.out.alloc (.cells #[.int .i64 i, .int .i64 t, .int .i64 x, .int .i64 y, .slice A n c, .slice G m kk, .int .i64 p, .int .i64 q, .int .i64 s, .int .i64 z, .int .i64 b] 29))
  have R4 := Lib.hid (R3.alloc (.cells #[.int .i64 i, .int .i64 t, .int .i64 x, .int .i64 y, .slice A n c, .slice G m kk, .int .i64 p, .int .i64 q, .int .i64 s, .int .i64 z, .int .i64 b] 29))
  have H4 := Lib.hid (bl_alloc H3.out (.cells #[.int .i64 i, .int .i64 t, .int .i64 x, .int .i64 y, .slice A n c, .slice G m kk, .int .i64 p, .int .i64 q, .int .i64 s, .int .i64 z, .int .i64 b] 29))
  have I4 := Lib.hid (I3.out.alloc (.cells #[.int .i64 i, .int .i64 t, .int .i64 x, .int .i64 y, .slice A n c, .slice G m kk, .int .i64 p, .int .i64 q, .int .i64 s, .int .i64 z, .int .i64 b] 29))
  have J4 := Lib.hid (J3.out.alloc (.cells #[.int .i64 i, .int .i64 t, .int .i64 x, .int .i64 y, .slice A n c, .slice G m kk, .int .i64 p, .int .i64 q, .int .i64 s, .int .i64 z, .int .i64 b] 29))
  clear D3 R3 H3 I3 J3
  go_wp2_with fail
  refine wp_region_held_drew (S := fun w' => CellsAt w' w3.heap.size (lvs i t x y A n c G m kk p q s z b)) (by kernel_rfl) (by repeat (first | with_reducible exact L6 | with_reducible exact L5 | with_reducible exact L4 | with_reducible refine CellsAt.farAll ?_ (by omega) _ _ | with_reducible refine CellsAt.alloc ?_ _ | with_reducible refine CellsAt.drew ?_)) (fun hHeld => ?_)
  refine wpAnyH_take (i := 0) (oi := _) (v := .agg (lvs i t x y A n c G m kk p q s z b).toArray) rfl (by kernel_rfl) (by kernel_rfl) (by kernel_rfl) (fun _ _ _ h => h) (yieldsIf_load_mid (by rfl) 29 (.tmp 5) rfl w3.heap.size 0 rfl (lvs i t x y A n c G m kk p q s z b) _ (fun W hS => hS.range) Try.underlying29 rfl level_size) hHeld ?_
  try simp only [Act.put, List.getElem_toArray, List.getElem_cons_zero, List.setIfInBounds_toArray, List.set_cons_zero, List.set_cons_succ]
  refine wpAnyH_take (i := 1) (oi := _) (v := ?_) rfl (by kernel_rfl) (by kernel_rfl) (by kernel_rfl) (fun _ _ _ h => h) (Or.inl ⟨by rfl, ?_⟩) hHeld ?_
  rotate_left
  · intro w hSw
    try dsimp only at hSw
    go_simp
    all_goals with_reducible rfl
  try simp only [Act.put, List.getElem_toArray, List.getElem_cons_succ, List.getElem_cons_zero, List.setIfInBounds_toArray, List.set_cons_zero, List.set_cons_succ]
  refine wpAnyH_ready (rs := [2]) (by kernel_rfl) (by simp) ?_
  apply AllReadyH.cons rfl ?_ AllReadyH.nil
  intro K hK
  go_simp
  go_at_call 45
  refine (pick_any _ 4 _ _ R4.out.drew (by omega) (by omega) (by omega)).mono ?_
  rintro e w5 ⟨u, hu, rfl, R5, K5⟩
  have z5 := K5.size
  simp at z5
  have L5 := L4.drew.kept K5 (by omega)
  have D5 := Lib.hid (D4.out.drew.kept K5 (by omega))
  have H5 := Lib.hid (kp_below (bl_drew1 H4.out) K5 (by omega))
  have I5 := Lib.hid (I4.out.drew.kept K5 (fun _ g off e => by have := MA.out g off e; omega))
  have J5 := Lib.hid (J4.out.drew.kept K5 (fun _ g off e => by have := MG.out g off e; omega))
  clear K5 R5 R4 D4 H4 I4 J4
  clear hHeld
  go_wp2_with fail
  refine hK.out _ _ (by repeat (first | with_reducible exact L6 | with_reducible exact L5 | with_reducible exact L4 | with_reducible refine CellsAt.farAll ?_ (by omega) _ _ | with_reducible refine CellsAt.alloc ?_ _ | with_reducible refine CellsAt.drew ?_)) (fun hHeld => ?_)
  clear hK K
  try simp only [Act.put, List.getElem_toArray, List.getElem_cons_succ, List.getElem_cons_zero, List.setIfInBounds_toArray, List.set_cons_zero, List.set_cons_succ]
  refine wpAnyH_ready (rs := [3]) (by kernel_rfl) (by simp) ?_
  apply AllReadyH.cons rfl ?_ AllReadyH.nil
  intro K hK
  dsimp only [List.getElem_toArray, List.getElem_cons_succ, List.getElem_cons_zero]
  rw [if_pos (by rfl)]
  refine wp_store_new 29 (.tmp 2) (.tmp 12) rfl w.heap.size rfl (lvs i t x y A n c G m kk p q s z b) rfl _ D5.out (by simp) level_size rfl ?_
  intro w6 K6 D6
  have L6 := L5.kept K6 (by omega)
  have D6 := Lib.hid D6
  have H6 := Lib.hid (kp_below H5.out K6 (Nat.le_refl _))
  have I6 := Lib.hid (I5.out.kept K6 (fun _ g off e => by have := MA.out g off e; omega))
  have J6 := Lib.hid (J5.out.kept K6 (fun _ g off e => by have := MG.out g off e; omega))
  clear K6 L5 D5 H5 I5 J5
  refine hK.out _ _ (by repeat (first | with_reducible exact L6 | with_reducible exact L5 | with_reducible exact L4 | with_reducible refine CellsAt.farAll ?_ (by omega) _ _ | with_reducible refine CellsAt.alloc ?_ _ | with_reducible refine CellsAt.drew ?_)) (fun hHeld => ?_)
  clear hK K
  try simp only [Act.put]
  refine wpAnyH_ready (rs := [4]) (by kernel_rfl) (by simp) ?_
  apply AllReadyH.cons rfl ?_ AllReadyH.nil
  intro K hK
  go_simp
  refine hK.out _ _ (by repeat (first | with_reducible exact L6 | with_reducible exact L5 | with_reducible exact L4 | with_reducible refine CellsAt.farAll ?_ (by omega) _ _ | with_reducible refine CellsAt.alloc ?_ _ | with_reducible refine CellsAt.drew ?_)) (fun hHeld => ?_)
  clear hK K
  try simp only [Act.put, List.getElem_toArray, List.getElem_cons_succ, List.getElem_cons_zero, List.setIfInBounds_toArray, List.set_cons_zero, List.set_cons_succ]
  refine wpAnyH_done (by kernel_rfl) ?_ _
  go_wp2
  exact bodyPost_ret (v := .tuple #[lev i t x y A n c G m kk p q s z b, .int .i64 u]) (res_cells_tmp rfl w.heap.size rfl (lvs i t x y A n c G m kk p q s z b) D6.out _ rfl Try.underlying29 rfl level_size) rfl ⟨i, t, x, y, A, n, c, G, m, kk, p, q, s, z, b, ws, gs, u, hu, rfl, hn, hm, I6.out, J6.out, fun g off e => by have := MA.out g off e; omega, fun g off e => by have := MG.out g off e; omega, H6.out⟩

theorem boxes_cells {W : World} {b off n : Nat} {ws : List Bx} (h : Boxes W (some ⟨b, off, none⟩) n ws) {k : Nat} (hk : k < n) : BoxAt W b (off + k * 4) (ws.getD k bz) := by
  obtain ⟨b', off', e, _, hc⟩ := h.2 (by omega)
  cases e
  exact hc k hk
theorem Boxes.drewB {W : World} {A : Option Addr} {n : Nat} {bs : List Bx} (h : Boxes W A n bs) : Boxes W.drew A n bs := h.drew

set_option maxRecDepth 100000 in
set_option maxHeartbeats 4000000 in
theorem draw_lfree (a : Option Addr) (len cap : Nat) (zs : List Int) (w : World) (h : IsRow .u8 w a len cap zs) : Calls Try.prog 19 #[.slice a len cap] w (DrawnLV w) := by
  have h1 := h.below (w' := (w.alloc (.cells #[.int .i64 0, .int .i64 0, .int .i64 0, .int .i64 0, .slice none 0 0, .slice none 0 0, .int .i64 0, .int .i64 0, .int .i64 0, .int .i64 0, .int .i64 0] 29)).alloc (.cells #[.int .i64 0, .int .i64 0] 24)) (bl_alloc (bl_alloc (bl_refl w) _) _)
  have D0 : CellsAt ((w.alloc (.cells #[.int .i64 0, .int .i64 0, .int .i64 0, .int .i64 0, .slice none 0 0, .slice none 0 0, .int .i64 0, .int .i64 0, .int .i64 0, .int .i64 0, .int .i64 0] 29)).alloc (.cells #[.int .i64 0, .int .i64 0] 24)) w.heap.size (lvs 0 0 0 0 none 0 0 none 0 0 0 0 0 0 0) := (CellsAt.new w _ _ _ rfl).alloc _
  go_enter Try.func19, Try.ntmps19
  go_wp2_with fail
  refine (open_any a len cap zs ((w.alloc (.cells #[.int .i64 0, .int .i64 0, .int .i64 0, .int .i64 0, .slice none 0 0, .slice none 0 0, .int .i64 0, .int .i64 0, .int .i64 0, .int .i64 0, .int .i64 0] 29)).alloc (.cells #[.int .i64 0, .int .i64 0] 24)) h1).mono ?_
  rintro e w1 ⟨rfl, R1, B1⟩
  simp at R1
  have z1 := R1.base
  have D1 := Lib.hid (D0.step B1)
  have E1 : CellsAt w1 (w.heap.size + 1) [.int .i64 0, .int .i64 0] := (CellsAt.new (w.alloc (.cells #[.int .i64 0, .int .i64 0, .int .i64 0, .int .i64 0, .slice none 0 0, .slice none 0 0, .int .i64 0, .int .i64 0, .int .i64 0, .int .i64 0, .int .i64 0] 29)) _ _ _ (by simp)).step B1
  have E1 := Lib.hid E1
  have H1 := Lib.hid (bl_trans (bl_alloc (bl_alloc (bl_refl w) _) _) B1)
  clear B1 h1 h
  go_wp2_with fail
  refine (level_drawn _ 0 _ R1 (by omega)).mono ?_
  rintro e w2 ⟨i', t', x', y', A', n', c', G', m', kk', p', q', s', z', b', ws', gs', rfl, hn', hm', HL', I2, J2, MA', MG', R2, K2⟩
  have z2 := K2.size
  have D2 := Lib.hid (D1.out.kept K2 (by omega))
  have H2 := Lib.hid (kp_below H1.out K2 (by omega))
  have E2 := Lib.hid (E1.out.kept K2 (by omega))
  clear R1 K2 D1 H1
  go_wp2_with fail
  refine (bent_drawn _ _ i' t' x' y' A' n' c' G' m' kk' p' q' s' z' b' ws' gs' _ R2 (by omega) (by omega) I2 J2 (fun g off e => by have := MA' g off e; omega) (fun g off e => by have := MG' g off e; omega) hn' hm' HL').mono ?_
  clear hn' hm' HL' I2 J2 MA' MG'
  rintro e w3 ⟨i, t, x, y, A, n, c, G, m, kk, p, q, s, z, b, ws, gs, rfl, hn, hm, HL, I3, J3, MA, MG, R3, K3⟩
  have z3 := K3.size
  have D3 := Lib.hid (D2.out.kept K3 (by omega))
  have H3 := Lib.hid (kp_below H2.out K3 (by omega))
  have I3 := Lib.hid I3
  have J3 := Lib.hid J3
  have MA := Lib.hid MA
  have MG := Lib.hid MG
  have E3 := Lib.hid (E2.out.kept K3 (by omega))
  clear R2 K3 D2 H2
  have L4 : CellsAt (w3.alloc (.cells #[.int .i64 i, .int .i64 t, .int .i64 x, .int .i64 y, .slice A n c, .slice G m kk, .int .i64 p, .int .i64 q, .int .i64 s, .int .i64 z, .int .i64 b] 29)) w3.heap.size (lvs i t x y A n c G m kk p q s z b) := CellsAt.new _ _ _ _ rfl
  have D4 := Lib.hid (D3.out.alloc (.cells #[.int .i64 i, .int .i64 t, .int .i64 x, .int .i64 y, .slice A n c, .slice G m kk, .int .i64 p, .int .i64 q, .int .i64 s, .int .i64 z, .int .i64 b] 29))
  have R4 := Lib.hid (R3.alloc (.cells #[.int .i64 i, .int .i64 t, .int .i64 x, .int .i64 y, .slice A n c, .slice G m kk, .int .i64 p, .int .i64 q, .int .i64 s, .int .i64 z, .int .i64 b] 29))
  have H4 := Lib.hid (bl_alloc H3.out (.cells #[.int .i64 i, .int .i64 t, .int .i64 x, .int .i64 y, .slice A n c, .slice G m kk, .int .i64 p, .int .i64 q, .int .i64 s, .int .i64 z, .int .i64 b] 29))
  have I4 := Lib.hid (I3.out.alloc (.cells #[.int .i64 i, .int .i64 t, .int .i64 x, .int .i64 y, .slice A n c, .slice G m kk, .int .i64 p, .int .i64 q, .int .i64 s, .int .i64 z, .int .i64 b] 29))
  have J4 := Lib.hid (J3.out.alloc (.cells #[.int .i64 i, .int .i64 t, .int .i64 x, .int .i64 y, .slice A n c, .slice G m kk, .int .i64 p, .int .i64 q, .int .i64 s, .int .i64 z, .int .i64 b] 29))
  have E4 := Lib.hid (E3.out.alloc (.cells #[.int .i64 i, .int .i64 t, .int .i64 x, .int .i64 y, .slice A n c, .slice G m kk, .int .i64 p, .int .i64 q, .int .i64 s, .int .i64 z, .int .i64 b] 29))
  clear E3 D3 R3 H3 I3 J3
  have l4 := L4.lt
  have c4 := L4.cell 4 _ rfl
  rcases Nat.eq_zero_or_pos n with rfl | hpos
  · go_wp2_with fail
    refine wp_region_held_drew (S := fun w' => CellsAt w' w3.heap.size (lvs i t x y A 0 c G m kk p q s z b)) (by kernel_rfl) (by repeat (first | with_reducible exact L7 | with_reducible exact L6 | with_reducible exact L5 | with_reducible exact L4 | with_reducible refine CellsAt.alloc ?_ _ | with_reducible refine CellsAt.drew ?_)) (fun hHeld => ?_)
    refine wpAnyH_take (i := 0) (oi := _) (v := .agg (lvs i t x y A 0 c G m kk p q s z b).toArray) rfl (by kernel_rfl) (by kernel_rfl) (by kernel_rfl) (fun _ _ _ h => h) (yieldsIf_load_mid (by rfl) 29 (.tmp 5) rfl w3.heap.size 0 rfl (lvs i t x y A 0 c G m kk p q s z b) _ (fun W hS => hS.range) Try.underlying29 rfl level_size) hHeld ?_
    try simp only [Act.put, List.getElem_toArray, List.getElem_cons_zero, List.setIfInBounds_toArray, List.set_cons_zero, List.set_cons_succ]
    refine wpAnyH_take (i := 1) (oi := _) (v := ?_) rfl (by kernel_rfl) (by kernel_rfl) (by kernel_rfl) (fun _ _ _ h => h) (Or.inl ⟨by rfl, ?_⟩) hHeld ?_
    rotate_left
    · intro w hSw
      try dsimp only at hSw
      go_simp
      all_goals with_reducible rfl
    try simp only [Act.put, List.getElem_toArray, List.getElem_cons_succ, List.getElem_cons_zero, List.setIfInBounds_toArray, List.set_cons_zero, List.set_cons_succ]
    refine wpAnyH_ready (rs := [2]) (by kernel_rfl) (by simp) ?_
    apply AllReadyH.cons rfl ?_ AllReadyH.nil
    intro K hK
    go_simp
    go_at_call 47
    refine (vec_drawn _ _ _ (by first | with_reducible exact R4.out.drew | with_reducible exact R4.out) (by omega)).mono ?_
    rintro e w5 ⟨u, v, hu, hv, rfl, R5, K5⟩
    have z5 := K5.size
    try simp at z5
    have L5 := CellsAt.kept (by first | with_reducible exact L4 | with_reducible exact L4.drew) K5 (by omega)
    have D5 := Lib.hid (CellsAt.kept (by first | with_reducible exact D4.out | with_reducible exact D4.out.drew) K5 (by omega))
    have E5 := Lib.hid (CellsAt.kept (by first | with_reducible exact E4.out | with_reducible exact E4.out.drew) K5 (by omega))
    have H5 := Lib.hid (kp_below (by first | with_reducible exact H4.out | with_reducible exact bl_drew1 H4.out) K5 (by omega))
    have I5 := Lib.hid (Boxes.kept (by first | with_reducible exact I4.out | with_reducible exact I4.out.drew) K5 (fun _ g off e => by have := MA.out g off e; omega))
    have J5 := Lib.hid (Boxes.kept (by first | with_reducible exact J4.out | with_reducible exact J4.out.drew) K5 (fun _ g off e => by have := MG.out g off e; omega))
    have R5 := Lib.hid R5
    clear K5
    clear hHeld
    go_wp2_with fail
    refine hK.out _ _ (by repeat (first | with_reducible exact L7 | with_reducible exact L6 | with_reducible exact L5 | with_reducible exact L4 | with_reducible refine CellsAt.alloc ?_ _ | with_reducible refine CellsAt.drew ?_)) (fun hHeld => ?_)
    clear hK K
    try simp only [Act.put, List.getElem_toArray, List.getElem_cons_succ, List.getElem_cons_zero, List.setIfInBounds_toArray, List.set_cons_zero, List.set_cons_succ]
    refine wpAnyH_ready (rs := [3]) (by kernel_rfl) (by simp) ?_
    apply AllReadyH.cons rfl ?_ AllReadyH.nil
    intro K hK
    dsimp only [List.getElem_toArray, List.getElem_cons_succ, List.getElem_cons_zero]
    rw [if_pos (by rfl)]
    refine wp_store_new 29 (.tmp 2) (.tmp 33) rfl w.heap.size rfl (lvs i t x y A 0 c G m kk p q s z b) rfl _ D5.out (by simp) level_size rfl ?_
    intro w6 K6 D6
    have z6 := K6.size
    try simp at z6
    have L6 := CellsAt.kept (by first | with_reducible exact L5 | with_reducible exact L5.drew) K6 (by omega)
    have D6 := Lib.hid D6
    have E6 := Lib.hid (CellsAt.kept (by first | with_reducible exact E5.out | with_reducible exact E5.out.drew) K6 (by omega))
    have H6 := Lib.hid (kp_below (by first | with_reducible exact H5.out | with_reducible exact bl_drew1 H5.out) K6 (by omega))
    have I6 := Lib.hid (Boxes.kept (by first | with_reducible exact I5.out | with_reducible exact I5.out.drew) K6 (fun _ g off e => by have := MA.out g off e; omega))
    have J6 := Lib.hid (Boxes.kept (by first | with_reducible exact J5.out | with_reducible exact J5.out.drew) K6 (fun _ g off e => by have := MG.out g off e; omega))
    clear K6
    refine hK.out _ _ (by repeat (first | with_reducible exact L7 | with_reducible exact L6 | with_reducible exact L5 | with_reducible exact L4 | with_reducible refine CellsAt.alloc ?_ _ | with_reducible refine CellsAt.drew ?_)) (fun hHeld => ?_)
    clear hK K
    try simp only [Act.put]
    refine wpAnyH_ready (rs := [4]) (by kernel_rfl) (by simp) ?_
    apply AllReadyH.cons rfl ?_ AllReadyH.nil
    intro K hK
    dsimp only [List.getElem_toArray, List.getElem_cons_succ, List.getElem_cons_zero]
    rw [if_pos (by rfl)]
    refine wp_store_new 24 (.tmp 3) (.tmp 35) rfl (w.heap.size + 1) rfl ([.int .i64 u, .int .i64 v]) rfl _ E6.out (by simp) vec_size rfl ?_
    intro w7 K7 E7
    have z7 := K7.size
    try simp at z7
    have L7 := CellsAt.kept (by first | with_reducible exact L6 | with_reducible exact L6.drew) K7 (by omega)
    have D7 := Lib.hid (CellsAt.kept (by first | with_reducible exact D6.out | with_reducible exact D6.out.drew) K7 (by omega))
    have E7 := Lib.hid E7
    have H7 := Lib.hid (kp_below (by first | with_reducible exact H6.out | with_reducible exact bl_drew1 H6.out) K7 (by omega))
    have I7 := Lib.hid (Boxes.kept (by first | with_reducible exact I6.out | with_reducible exact I6.out.drew) K7 (fun _ g off e => by have := MA.out g off e; omega))
    have J7 := Lib.hid (Boxes.kept (by first | with_reducible exact J6.out | with_reducible exact J6.out.drew) K7 (fun _ g off e => by have := MG.out g off e; omega))
    clear K7
    refine hK.out _ _ (by repeat (first | with_reducible exact L7 | with_reducible exact L6 | with_reducible exact L5 | with_reducible exact L4 | with_reducible refine CellsAt.alloc ?_ _ | with_reducible refine CellsAt.drew ?_)) (fun hHeld => ?_)
    clear hK K
    try simp only [Act.put]
    refine wpAnyH_done (by kernel_rfl) ?_ _
    go_wp2
    exact bodyPost_ret (v := .tuple #[lev i t x y A 0 c G m kk p q s z b, vec u v]) (res_cells2 rfl w.heap.size (w.heap.size + 1) rfl rfl (lvs i t x y A 0 c G m kk p q s z b) [.int .i64 u, .int .i64 v] D7.out E7.out Try.underlying29 rfl level_size Try.underlying24 rfl vec_size) rfl ⟨i, t, x, y, A, 0, c, G, m, kk, p, q, s, z, b, ws, gs, u, v, rfl, hn, hm, I7.out, J7.out, fun g off e => by have := MA.out g off e; omega, fun g off e => by have := MG.out g off e; omega, H7.out⟩
  obtain ⟨ab, ao, rfl, hab, _⟩ := I4.out.2 hpos
  have hp : (0 : Int) < (n : Int) := by omega
  go_wp2_with fail
  refine (pick_any _ 3 _ _ R4.out (by omega) (by omega) (by omega)).mono ?_
  rintro e w5 ⟨f, ⟨f0, f1⟩, rfl, R5, K5⟩
  have z5 := K5.size
  try simp at z5
  have L5 := CellsAt.kept (by first | with_reducible exact L4 | with_reducible exact L4.drew) K5 (by omega)
  have D5 := Lib.hid (CellsAt.kept (by first | with_reducible exact D4.out | with_reducible exact D4.out.drew) K5 (by omega))
  have E5 := Lib.hid (CellsAt.kept (by first | with_reducible exact E4.out | with_reducible exact E4.out.drew) K5 (by omega))
  have H5 := Lib.hid (kp_below (by first | with_reducible exact H4.out | with_reducible exact bl_drew1 H4.out) K5 (by omega))
  have I5 := Lib.hid (Boxes.kept (by first | with_reducible exact I4.out | with_reducible exact I4.out.drew) K5 (fun _ g off e => by have := MA.out g off e; omega))
  have J5 := Lib.hid (Boxes.kept (by first | with_reducible exact J4.out | with_reducible exact J4.out.drew) K5 (fun _ g off e => by have := MG.out g off e; omega))
  have R5 := Lib.hid R5
  clear K5
  clear L4 D4 E4 H4 I4 J4 R4 c4 l4
  have l5 := L5.lt
  have c5 := L5.cell 4 _ rfl
  by_cases hf : f = 0
  · subst hf
    go_wp2_with fail
    refine wp_region_held_drew (S := fun w' => CellsAt w' w3.heap.size (lvs i t x y (some ⟨ab, ao, none⟩) n c G m kk p q s z b)) (by kernel_rfl) (by repeat (first | with_reducible exact L8 | with_reducible exact L7 | with_reducible exact L6 | with_reducible exact L5 | with_reducible refine CellsAt.alloc ?_ _ | with_reducible refine CellsAt.drew ?_)) (fun hHeld => ?_)
    refine wpAnyH_take (i := 0) (oi := _) (v := .agg (lvs i t x y (some ⟨ab, ao, none⟩) n c G m kk p q s z b).toArray) rfl (by kernel_rfl) (by kernel_rfl) (by kernel_rfl) (fun _ _ _ h => h) (yieldsIf_load_mid (by rfl) 29 (.tmp 5) rfl w3.heap.size 0 rfl (lvs i t x y (some ⟨ab, ao, none⟩) n c G m kk p q s z b) _ (fun W hS => hS.range) Try.underlying29 rfl level_size) hHeld ?_
    try simp only [Act.put, List.getElem_toArray, List.getElem_cons_zero, List.setIfInBounds_toArray, List.set_cons_zero, List.set_cons_succ]
    refine wpAnyH_take (i := 1) (oi := _) (v := ?_) rfl (by kernel_rfl) (by kernel_rfl) (by kernel_rfl) (fun _ _ _ h => h) (Or.inl ⟨by rfl, ?_⟩) hHeld ?_
    rotate_left
    · intro w hSw
      try dsimp only at hSw
      go_simp
      all_goals with_reducible rfl
    try simp only [Act.put, List.getElem_toArray, List.getElem_cons_succ, List.getElem_cons_zero, List.setIfInBounds_toArray, List.set_cons_zero, List.set_cons_succ]
    refine wpAnyH_ready (rs := [2]) (by kernel_rfl) (by simp) ?_
    apply AllReadyH.cons rfl ?_ AllReadyH.nil
    intro K hK
    go_simp
    go_at_call 47
    refine (vec_drawn _ _ _ (by first | with_reducible exact R5.out.drew | with_reducible exact R5.out) (by omega)).mono ?_
    rintro e w6 ⟨u, v, hu, hv, rfl, R6, K6⟩
    have z6 := K6.size
    try simp at z6
    have L6 := CellsAt.kept (by first | with_reducible exact L5 | with_reducible exact L5.drew) K6 (by omega)
    have D6 := Lib.hid (CellsAt.kept (by first | with_reducible exact D5.out | with_reducible exact D5.out.drew) K6 (by omega))
    have E6 := Lib.hid (CellsAt.kept (by first | with_reducible exact E5.out | with_reducible exact E5.out.drew) K6 (by omega))
    have H6 := Lib.hid (kp_below (by first | with_reducible exact H5.out | with_reducible exact bl_drew1 H5.out) K6 (by omega))
    have I6 := Lib.hid (Boxes.kept (by first | with_reducible exact I5.out | with_reducible exact I5.out.drew) K6 (fun _ g off e => by have := MA.out g off e; omega))
    have J6 := Lib.hid (Boxes.kept (by first | with_reducible exact J5.out | with_reducible exact J5.out.drew) K6 (fun _ g off e => by have := MG.out g off e; omega))
    have R6 := Lib.hid R6
    clear K6
    clear hHeld
    go_wp2_with fail
    refine hK.out _ _ (by repeat (first | with_reducible exact L8 | with_reducible exact L7 | with_reducible exact L6 | with_reducible exact L5 | with_reducible refine CellsAt.alloc ?_ _ | with_reducible refine CellsAt.drew ?_)) (fun hHeld => ?_)
    clear hK K
    try simp only [Act.put, List.getElem_toArray, List.getElem_cons_succ, List.getElem_cons_zero, List.setIfInBounds_toArray, List.set_cons_zero, List.set_cons_succ]
    refine wpAnyH_ready (rs := [3]) (by kernel_rfl) (by simp) ?_
    apply AllReadyH.cons rfl ?_ AllReadyH.nil
    intro K hK
    dsimp only [List.getElem_toArray, List.getElem_cons_succ, List.getElem_cons_zero]
    rw [if_pos (by rfl)]
    refine wp_store_new 29 (.tmp 2) (.tmp 33) rfl w.heap.size rfl (lvs i t x y (some ⟨ab, ao, none⟩) n c G m kk p q s z b) rfl _ D6.out (by simp) level_size rfl ?_
    intro w7 K7 D7
    have z7 := K7.size
    try simp at z7
    have L7 := CellsAt.kept (by first | with_reducible exact L6 | with_reducible exact L6.drew) K7 (by omega)
    have D7 := Lib.hid D7
    have E7 := Lib.hid (CellsAt.kept (by first | with_reducible exact E6.out | with_reducible exact E6.out.drew) K7 (by omega))
    have H7 := Lib.hid (kp_below (by first | with_reducible exact H6.out | with_reducible exact bl_drew1 H6.out) K7 (by omega))
    have I7 := Lib.hid (Boxes.kept (by first | with_reducible exact I6.out | with_reducible exact I6.out.drew) K7 (fun _ g off e => by have := MA.out g off e; omega))
    have J7 := Lib.hid (Boxes.kept (by first | with_reducible exact J6.out | with_reducible exact J6.out.drew) K7 (fun _ g off e => by have := MG.out g off e; omega))
    clear K7
    refine hK.out _ _ (by repeat (first | with_reducible exact L8 | with_reducible exact L7 | with_reducible exact L6 | with_reducible exact L5 | with_reducible refine CellsAt.alloc ?_ _ | with_reducible refine CellsAt.drew ?_)) (fun hHeld => ?_)
    clear hK K
    try simp only [Act.put]
    refine wpAnyH_ready (rs := [4]) (by kernel_rfl) (by simp) ?_
    apply AllReadyH.cons rfl ?_ AllReadyH.nil
    intro K hK
    dsimp only [List.getElem_toArray, List.getElem_cons_succ, List.getElem_cons_zero]
    rw [if_pos (by rfl)]
    refine wp_store_new 24 (.tmp 3) (.tmp 35) rfl (w.heap.size + 1) rfl ([.int .i64 u, .int .i64 v]) rfl _ E7.out (by simp) vec_size rfl ?_
    intro w8 K8 E8
    have z8 := K8.size
    try simp at z8
    have L8 := CellsAt.kept (by first | with_reducible exact L7 | with_reducible exact L7.drew) K8 (by omega)
    have D8 := Lib.hid (CellsAt.kept (by first | with_reducible exact D7.out | with_reducible exact D7.out.drew) K8 (by omega))
    have E8 := Lib.hid E8
    have H8 := Lib.hid (kp_below (by first | with_reducible exact H7.out | with_reducible exact bl_drew1 H7.out) K8 (by omega))
    have I8 := Lib.hid (Boxes.kept (by first | with_reducible exact I7.out | with_reducible exact I7.out.drew) K8 (fun _ g off e => by have := MA.out g off e; omega))
    have J8 := Lib.hid (Boxes.kept (by first | with_reducible exact J7.out | with_reducible exact J7.out.drew) K8 (fun _ g off e => by have := MG.out g off e; omega))
    clear K8
    refine hK.out _ _ (by repeat (first | with_reducible exact L8 | with_reducible exact L7 | with_reducible exact L6 | with_reducible exact L5 | with_reducible refine CellsAt.alloc ?_ _ | with_reducible refine CellsAt.drew ?_)) (fun hHeld => ?_)
    clear hK K
    try simp only [Act.put]
    refine wpAnyH_done (by kernel_rfl) ?_ _
    go_wp2
    exact bodyPost_ret (v := .tuple #[lev i t x y (some ⟨ab, ao, none⟩) n c G m kk p q s z b, vec u v]) (res_cells2 rfl w.heap.size (w.heap.size + 1) rfl rfl (lvs i t x y (some ⟨ab, ao, none⟩) n c G m kk p q s z b) [.int .i64 u, .int .i64 v] D8.out E8.out Try.underlying29 rfl level_size Try.underlying24 rfl vec_size) rfl ⟨i, t, x, y, some ⟨ab, ao, none⟩, n, c, G, m, kk, p, q, s, z, b, ws, gs, u, v, rfl, hn, hm, I8.out, J8.out, fun g off e => by have := MA.out g off e; omega, fun g off e => by have := MG.out g off e; omega, H8.out⟩
  have hf0 : 0 < f := by omega
  go_wp2_with fail
  refine wp_region_held_drew (S := fun w' => CellsAt w' w3.heap.size (lvs i t x y (some ⟨ab, ao, none⟩) n c G m kk p q s z b) ∧ Boxes w' (some ⟨ab, ao, none⟩) n ws) (by kernel_rfl) ⟨(by repeat (first | with_reducible exact L9 | with_reducible exact L8 | with_reducible exact L7 | with_reducible exact L6 | with_reducible exact L5 | with_reducible refine CellsAt.alloc ?_ _ | with_reducible refine CellsAt.drew ?_)), (by repeat (first | with_reducible exact I9.out | with_reducible exact I8.out | with_reducible exact I7.out | with_reducible exact I6.out | with_reducible exact I5.out | with_reducible refine Boxes.drewB ?_))⟩ (fun hHeld => ?_)
  refine wpAnyH_take (i := 0) (oi := _) (v := .agg (lvs i t x y (some ⟨ab, ao, none⟩) n c G m kk p q s z b).toArray) rfl (by kernel_rfl) (by kernel_rfl) (by kernel_rfl) (fun _ _ _ h => h) (yieldsIf_load_mid (by rfl) 29 (.tmp 5) rfl w3.heap.size 0 rfl (lvs i t x y (some ⟨ab, ao, none⟩) n c G m kk p q s z b) _ (fun W hS => hS.1.range) Try.underlying29 rfl level_size) hHeld ?_
  try simp only [Act.put, List.getElem_toArray, List.getElem_cons_zero, List.setIfInBounds_toArray, List.set_cons_zero, List.set_cons_succ]
  refine wpAnyH_take (i := 1) (oi := _) (v := ?_) rfl (by kernel_rfl) (by kernel_rfl) (by kernel_rfl) (fun _ _ _ h => h) (Or.inl ⟨by rfl, ?_⟩) hHeld ?_
  rotate_left
  · intro w hSw
    try dsimp only at hSw
    go_simp
    all_goals with_reducible rfl
  try simp only [Act.put, List.getElem_toArray, List.getElem_cons_succ, List.getElem_cons_zero, List.setIfInBounds_toArray, List.set_cons_zero, List.set_cons_succ]
  refine wpAnyH_take (i := 2) (oi := _) (v := ?_) rfl (by kernel_rfl) (by kernel_rfl) (by kernel_rfl) (fun _ _ _ h => h) (Or.inl ⟨by rfl, ?_⟩) hHeld ?_
  rotate_left
  · intro w hSw
    try dsimp only at hSw
    go_simp
    all_goals with_reducible rfl
  try simp only [Act.put, List.getElem_toArray, List.getElem_cons_succ, List.getElem_cons_zero, List.setIfInBounds_toArray, List.set_cons_zero, List.set_cons_succ]
  refine wpAnyH_take (i := 3) (oi := _) (v := ?_) rfl (by kernel_rfl) (by kernel_rfl) (by kernel_rfl) (fun _ _ _ h => h) (Or.inl ⟨by rfl, ?_⟩) hHeld ?_
  rotate_left
  · intro w hSw
    have c4 := hSw.1.cell 4 _ rfl
    go_simp
    all_goals with_reducible rfl
  try simp only [Act.put, List.getElem_toArray, List.getElem_cons_succ, List.getElem_cons_zero, List.setIfInBounds_toArray, List.set_cons_zero, List.set_cons_succ]
  refine wpAnyH_take (i := 4) (oi := _) (v := ?_) rfl (by kernel_rfl) (by kernel_rfl) (by kernel_rfl) (fun _ _ _ h => h) (Or.inl ⟨by rfl, ?_⟩) hHeld ?_
  rotate_left
  · intro w hSw
    try dsimp only at hSw
    go_simp
    all_goals with_reducible rfl
  try simp only [Act.put, List.getElem_toArray, List.getElem_cons_succ, List.getElem_cons_zero, List.setIfInBounds_toArray, List.set_cons_zero, List.set_cons_succ]
  refine wpAnyH_take (i := 5) (oi := _) (v := ?_) rfl (by kernel_rfl) (by kernel_rfl) (by kernel_rfl) (fun _ _ _ h => h) (Or.inl ⟨by rfl, ?_⟩) hHeld ?_
  rotate_left
  · intro w hSw
    try dsimp only at hSw
    go_simp
    all_goals with_reducible rfl
  try simp only [Act.put, List.getElem_toArray, List.getElem_cons_succ, List.getElem_cons_zero, List.setIfInBounds_toArray, List.set_cons_zero, List.set_cons_succ]
  refine wpAnyH_take (i := 6) (oi := _) (v := ?_) rfl (by kernel_rfl) (by kernel_rfl) (by kernel_rfl) (fun _ _ _ h => h) (Or.inl ⟨by rfl, ?_⟩) hHeld ?_
  rotate_left
  · intro w hSw
    have c4 := hSw.1.cell 4 _ rfl
    go_simp
    all_goals with_reducible rfl
  try simp only [Act.put, List.getElem_toArray, List.getElem_cons_succ, List.getElem_cons_zero, List.setIfInBounds_toArray, List.set_cons_zero, List.set_cons_succ]
  refine wpAnyH_take (i := 7) (oi := _) (v := ?_) rfl (by kernel_rfl) (by kernel_rfl) (by kernel_rfl) (fun _ _ _ h => h) (Or.inl ⟨by rfl, ?_⟩) hHeld ?_
  rotate_left
  · intro w hSw
    try dsimp only at hSw
    go_simp
    all_goals with_reducible rfl
  try simp only [Act.put, List.getElem_toArray, List.getElem_cons_succ, List.getElem_cons_zero, List.setIfInBounds_toArray, List.set_cons_zero, List.set_cons_succ]
  refine wpAnyH_ready (rs := [8]) (by kernel_rfl) (by simp) ?_
  apply AllReadyH.cons rfl ?_ AllReadyH.nil
  intro K hK
  go_simp
  go_at_call 45
  refine (pick_any _ n _ _ (by first | with_reducible exact R5.out.drew | with_reducible exact R5.out) (by omega) (by omega) (by omega)).mono ?_
  rintro e w6 ⟨g, ⟨g0, g1⟩, rfl, R6, K6⟩
  obtain ⟨g, rfl⟩ := Int.eq_ofNat_of_zero_le g0
  have z6 := K6.size
  try simp at z6
  have L6 := CellsAt.kept (by first | with_reducible exact L5 | with_reducible exact L5.drew) K6 (by omega)
  have D6 := Lib.hid (CellsAt.kept (by first | with_reducible exact D5.out | with_reducible exact D5.out.drew) K6 (by omega))
  have E6 := Lib.hid (CellsAt.kept (by first | with_reducible exact E5.out | with_reducible exact E5.out.drew) K6 (by omega))
  have H6 := Lib.hid (kp_below (by first | with_reducible exact H5.out | with_reducible exact bl_drew1 H5.out) K6 (by omega))
  have I6 := Lib.hid (Boxes.kept (by first | with_reducible exact I5.out | with_reducible exact I5.out.drew) K6 (fun _ g off e => by have := MA.out g off e; omega))
  have J6 := Lib.hid (Boxes.kept (by first | with_reducible exact J5.out | with_reducible exact J5.out.drew) K6 (fun _ g off e => by have := MG.out g off e; omega))
  have R6 := Lib.hid R6
  clear K6
  obtain ⟨⟨qa, qb, qc, qd⟩, hQ⟩ : ∃ q, ws.getD g bz = q := ⟨_, rfl⟩
  have hlw := HL _ (mem_getD (k := g) (bs := ws) (by have := I6.out.1; omega))
  rw [hQ] at hlw
  obtain ⟨⟨q1, q2⟩, q3, q4⟩ := hlw
  simp only at q1 q2 q3 q4
  have hQ := Lib.hid hQ
  clear hHeld
  go_wp2_with fail
  refine hK.out _ _ ⟨(by repeat (first | with_reducible exact L9 | with_reducible exact L8 | with_reducible exact L7 | with_reducible exact L6 | with_reducible exact L5 | with_reducible refine CellsAt.alloc ?_ _ | with_reducible refine CellsAt.drew ?_)), (by repeat (first | with_reducible exact I9.out | with_reducible exact I8.out | with_reducible exact I7.out | with_reducible exact I6.out | with_reducible exact I5.out | with_reducible refine Boxes.drewB ?_))⟩ (fun hHeld => ?_)
  clear hK K
  try simp only [Act.put, List.getElem_toArray, List.getElem_cons_succ, List.getElem_cons_zero, List.setIfInBounds_toArray, List.set_cons_zero, List.set_cons_succ]
  refine wpAnyH_take (i := 9) (oi := _) (v := ?_) rfl (by kernel_rfl) (by kernel_rfl) (by kernel_rfl) (fun _ _ _ h => h) (Or.inl ⟨by rfl, ?_⟩) hHeld ?_
  rotate_left
  · intro w hSw
    try dsimp only at hSw
    go_simp
    all_goals with_reducible rfl
  try simp only [Act.put, List.getElem_toArray, List.getElem_cons_succ, List.getElem_cons_zero, List.setIfInBounds_toArray, List.set_cons_zero, List.set_cons_succ]
  refine wpAnyH_take (i := 10) (oi := _) (v := ?_) rfl (by kernel_rfl) (by kernel_rfl) (by kernel_rfl) (fun _ _ _ h => h) (Or.inl ⟨by rfl, ?_⟩) hHeld ?_
  rotate_left
  · intro w hSw
    have hb := boxes_cells hSw.2 (k := g) (by omega)
    rw [hQ.out] at hb
    obtain ⟨b0, b1, b2, b3⟩ := hb
    simp only at b0 b1 b2 b3
    clear hSw
    go_simp
    all_goals with_reducible rfl
  try simp only [Act.put, List.getElem_toArray, List.getElem_cons_succ, List.getElem_cons_zero, List.setIfInBounds_toArray, List.set_cons_zero, List.set_cons_succ]
  refine wpAnyH_ready (rs := [11]) (by kernel_rfl) (by simp) ?_
  apply AllReadyH.cons rfl ?_ AllReadyH.nil
  intro K hK
  go_simp
  go_at_call 46
  refine (near_drawn _ _ qa qb qc qd _ (by first | with_reducible exact R6.out.drew | with_reducible exact R6.out) (by omega) q1 q2 q3 q4).mono ?_
  rintro e w7 ⟨u, v, hu, hv, rfl, R7, K7⟩
  have z7 := K7.size
  try simp at z7
  have L7 := CellsAt.kept (by first | with_reducible exact L6 | with_reducible exact L6.drew) K7 (by omega)
  have D7 := Lib.hid (CellsAt.kept (by first | with_reducible exact D6.out | with_reducible exact D6.out.drew) K7 (by omega))
  have E7 := Lib.hid (CellsAt.kept (by first | with_reducible exact E6.out | with_reducible exact E6.out.drew) K7 (by omega))
  have H7 := Lib.hid (kp_below (by first | with_reducible exact H6.out | with_reducible exact bl_drew1 H6.out) K7 (by omega))
  have I7 := Lib.hid (Boxes.kept (by first | with_reducible exact I6.out | with_reducible exact I6.out.drew) K7 (fun _ g off e => by have := MA.out g off e; omega))
  have J7 := Lib.hid (Boxes.kept (by first | with_reducible exact J6.out | with_reducible exact J6.out.drew) K7 (fun _ g off e => by have := MG.out g off e; omega))
  have R7 := Lib.hid R7
  clear K7
  clear hHeld
  go_wp2_with fail
  refine hK.out _ _ ⟨(by repeat (first | with_reducible exact L9 | with_reducible exact L8 | with_reducible exact L7 | with_reducible exact L6 | with_reducible exact L5 | with_reducible refine CellsAt.alloc ?_ _ | with_reducible refine CellsAt.drew ?_)), (by repeat (first | with_reducible exact I9.out | with_reducible exact I8.out | with_reducible exact I7.out | with_reducible exact I6.out | with_reducible exact I5.out | with_reducible refine Boxes.drewB ?_))⟩ (fun hHeld => ?_)
  clear hK K
  try simp only [Act.put, List.getElem_toArray, List.getElem_cons_succ, List.getElem_cons_zero, List.setIfInBounds_toArray, List.set_cons_zero, List.set_cons_succ]
  refine wpAnyH_ready (rs := [12]) (by kernel_rfl) (by simp) ?_
  apply AllReadyH.cons rfl ?_ AllReadyH.nil
  intro K hK
  dsimp only [List.getElem_toArray, List.getElem_cons_succ, List.getElem_cons_zero]
  rw [if_pos (by rfl)]
  refine wp_store_new 29 (.tmp 2) (.tmp 21) rfl w.heap.size rfl (lvs i t x y (some ⟨ab, ao, none⟩) n c G m kk p q s z b) rfl _ D7.out (by simp) level_size rfl ?_
  intro w8 K8 D8
  have z8 := K8.size
  try simp at z8
  have L8 := CellsAt.kept (by first | with_reducible exact L7 | with_reducible exact L7.drew) K8 (by omega)
  have D8 := Lib.hid D8
  have E8 := Lib.hid (CellsAt.kept (by first | with_reducible exact E7.out | with_reducible exact E7.out.drew) K8 (by omega))
  have H8 := Lib.hid (kp_below (by first | with_reducible exact H7.out | with_reducible exact bl_drew1 H7.out) K8 (by omega))
  have I8 := Lib.hid (Boxes.kept (by first | with_reducible exact I7.out | with_reducible exact I7.out.drew) K8 (fun _ g off e => by have := MA.out g off e; omega))
  have J8 := Lib.hid (Boxes.kept (by first | with_reducible exact J7.out | with_reducible exact J7.out.drew) K8 (fun _ g off e => by have := MG.out g off e; omega))
  clear K8
  refine hK.out _ _ ⟨(by repeat (first | with_reducible exact L9 | with_reducible exact L8 | with_reducible exact L7 | with_reducible exact L6 | with_reducible exact L5 | with_reducible refine CellsAt.alloc ?_ _ | with_reducible refine CellsAt.drew ?_)), (by repeat (first | with_reducible exact I9.out | with_reducible exact I8.out | with_reducible exact I7.out | with_reducible exact I6.out | with_reducible exact I5.out | with_reducible refine Boxes.drewB ?_))⟩ (fun hHeld => ?_)
  clear hK K
  try simp only [Act.put]
  refine wpAnyH_ready (rs := [13]) (by kernel_rfl) (by simp) ?_
  apply AllReadyH.cons rfl ?_ AllReadyH.nil
  intro K hK
  dsimp only [List.getElem_toArray, List.getElem_cons_succ, List.getElem_cons_zero]
  rw [if_pos (by rfl)]
  refine wp_store_new 24 (.tmp 3) (.tmp 32) rfl (w.heap.size + 1) rfl ([.int .i64 u, .int .i64 v]) rfl _ E8.out (by simp) vec_size rfl ?_
  intro w9 K9 E9
  have z9 := K9.size
  try simp at z9
  have L9 := CellsAt.kept (by first | with_reducible exact L8 | with_reducible exact L8.drew) K9 (by omega)
  have D9 := Lib.hid (CellsAt.kept (by first | with_reducible exact D8.out | with_reducible exact D8.out.drew) K9 (by omega))
  have E9 := Lib.hid E9
  have H9 := Lib.hid (kp_below (by first | with_reducible exact H8.out | with_reducible exact bl_drew1 H8.out) K9 (by omega))
  have I9 := Lib.hid (Boxes.kept (by first | with_reducible exact I8.out | with_reducible exact I8.out.drew) K9 (fun _ g off e => by have := MA.out g off e; omega))
  have J9 := Lib.hid (Boxes.kept (by first | with_reducible exact J8.out | with_reducible exact J8.out.drew) K9 (fun _ g off e => by have := MG.out g off e; omega))
  clear K9
  refine hK.out _ _ ⟨(by repeat (first | with_reducible exact L9 | with_reducible exact L8 | with_reducible exact L7 | with_reducible exact L6 | with_reducible exact L5 | with_reducible refine CellsAt.alloc ?_ _ | with_reducible refine CellsAt.drew ?_)), (by repeat (first | with_reducible exact I9.out | with_reducible exact I8.out | with_reducible exact I7.out | with_reducible exact I6.out | with_reducible exact I5.out | with_reducible refine Boxes.drewB ?_))⟩ (fun hHeld => ?_)
  clear hK K
  try simp only [Act.put]
  refine wpAnyH_done (by kernel_rfl) ?_ _
  go_wp2
  exact bodyPost_ret (v := .tuple #[lev i t x y (some ⟨ab, ao, none⟩) n c G m kk p q s z b, vec u v]) (res_cells2 rfl w.heap.size (w.heap.size + 1) rfl rfl (lvs i t x y (some ⟨ab, ao, none⟩) n c G m kk p q s z b) [.int .i64 u, .int .i64 v] D9.out E9.out Try.underlying29 rfl level_size Try.underlying24 rfl vec_size) rfl ⟨i, t, x, y, some ⟨ab, ao, none⟩, n, c, G, m, kk, p, q, s, z, b, ws, gs, u, v, rfl, hn, hm, I9.out, J9.out, fun g off e => by have := MA.out g off e; omega, fun g off e => by have := MG.out g off e; omega, H9.out⟩

end Go.Proofs.Ytmhmlmoohimfmaa
