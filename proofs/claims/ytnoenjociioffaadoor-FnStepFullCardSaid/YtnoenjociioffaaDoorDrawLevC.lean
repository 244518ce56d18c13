/-
  The levels that the model draws out of a code: whatever they are, their walls and gates can be read; nothing that was there before the call is written.
-/
import Derived.Test.YtnoenjociioffaaDoorDrawLevB
import Derived.Test.YtnoenjociioffaaDoorCelS
import Derived.Test.YtnoenjociioffaaDoorDrB
namespace Go.Proofs.YtnoenjociioffaaDoor
open Go.RowKit
open M

def DrawnL (w : World) (e : Ending) (w' : World) : Prop :=
  ∃ (i t x y : Int) (A : Option Addr) (n c : Nat) (G : Option Addr) (m kk : Nat) (p q s z b : Int) (ws gs : List Bx), e = .returned (lev i t x y A n c G m kk p q s z b) ∧ (n ≤ 20 ∧ n ≤ c) ∧ (m ≤ 20 ∧ m ≤ kk) ∧ Boxes w' A n ws ∧ Boxes w' G m gs ∧ Mine w.heap.size A ∧ Mine w.heap.size G ∧ Below w.heap.size w w'
def DrawnLV (w : World) (e : Ending) (w' : World) : Prop :=
  ∃ (i t x y : Int) (A : Option Addr) (n c : Nat) (G : Option Addr) (m kk : Nat) (p q s z b : Int) (ws gs : List Bx) (u v : Int), e = .returned (.tuple #[lev i t x y A n c G m kk p q s z b, vec u v]) ∧ (n ≤ 20 ∧ n ≤ c) ∧ (m ≤ 20 ∧ m ≤ kk) ∧ Boxes w' A n ws ∧ Boxes w' G m gs ∧ Mine w.heap.size A ∧ Mine w.heap.size G ∧ Below w.heap.size w w'
def DrawnLI (w : World) (e : Ending) (w' : World) : Prop :=
  ∃ (i t x y : Int) (A : Option Addr) (n c : Nat) (G : Option Addr) (m kk : Nat) (p q s z b : Int) (ws gs : List Bx) (u : Int), (0 ≤ u ∧ u < 4) ∧ e = .returned (.tuple #[lev i t x y A n c G m kk p q s z b, .int .i64 u]) ∧ (n ≤ 20 ∧ n ≤ c) ∧ (m ≤ 20 ∧ m ≤ kk) ∧ Boxes w' A n ws ∧ Boxes w' G m gs ∧ Mine w.heap.size A ∧ Mine w.heap.size G ∧ Below w.heap.size w w'
theorem Boxes.sets {W : World} {A : Option Addr} {n b : Nat} {bs : List Bx} (h : Boxes W A n bs) (hA : 0 < n → ∀ g off, A = some ⟨g, off, none⟩ → g ≠ b) (o : Nat) (vs : List Value) : Boxes (W.setCells b o vs) A n bs := h.kept (ksets vs o (Kept.refl b W)) hA

set_option maxRecDepth 100000 in
set_option maxHeartbeats 4000000 in
theorem draw_lvalid (a : Option Addr) (len cap : Nat) (zs : List Int) (w : World) (h : IsRow .u8 w a len cap zs) : Calls Tryd.prog 59 #[.slice a len cap] w (DrawnL w) := by
  have h1 := h.below (w' := w.alloc (.cells #[.int .i64 0, .int .i64 0, .int .i64 0, .int .i64 0, .slice none 0 0, .slice none 0 0, .int .i64 0, .int .i64 0, .int .i64 0, .int .i64 0, .int .i64 0] 29)) (bl_alloc (bl_refl w) _)
  have D0 : CellsAt (w.alloc (.cells #[.int .i64 0, .int .i64 0, .int .i64 0, .int .i64 0, .slice none 0 0, .slice none 0 0, .int .i64 0, .int .i64 0, .int .i64 0, .int .i64 0, .int .i64 0] 29)) w.heap.size (lvs 0 0 0 0 none 0 0 none 0 0 0 0 0 0 0) := CellsAt.new w _ _ _ rfl
  go_enter Tryd.func59, Tryd.ntmps59
  go_wp2_with fail
  refine (open_any a len cap zs (w.alloc (.cells #[.int .i64 0, .int .i64 0, .int .i64 0, .int .i64 0, .slice none 0 0, .slice none 0 0, .int .i64 0, .int .i64 0, .int .i64 0, .int .i64 0, .int .i64 0] 29)) h1).mono ?_
  rintro e w1 ⟨rfl, R1, B1⟩
  simp at R1
  have z1 := R1.base
  have D1 := Lib.hid (D0.step B1)
  have H1 := Lib.hid (bl_trans (bl_alloc (bl_refl w) _) B1)
  clear B1 h1 h
  go_wp2_with fail
  refine (level_drawn _ 0 _ R1 (by omega)).mono ?_
  rintro e w2 ⟨i', t', x', y', A', n', c', G', m', kk', p', q', s', z', b', ws', gs', rfl, hn', hm', HL', I2, J2, MA', MG', R2, K2⟩
  have z2 := K2.size
  have D2 := Lib.hid (D1.out.kept K2 (by omega))
  have H2 := Lib.hid (kp_below H1.out K2 (by omega))
  clear R1 K2 D1 H1
  go_wp2_with fail
  refine (bent_drawn _ _ i' t' x' y' A' n' c' G' m' kk' p' q' s' z' b' ws' gs' _ R2 (by omega) (by omega) I2 J2 (fun g off e => by have := MA' g off e; omega) (fun g off e => by have := MG' g off e; omega) hn' hm' HL').mono ?_
  clear hn' hm' HL' I2 J2 MA' MG'
  rintro e w3 ⟨i, t, x, y, A, n, c, G, m, kk, p, q, s, z, b, ws, gs, rfl, hn, hm, HL, I3, J3, MA, MG, R3, K3⟩
  have z3 := K3.size
  have D3 := Lib.hid (D2.out.kept K3 (by omega))
  have H3 := Lib.hid (kp_below H2.out K3 (by omega))
  have I3 := Lib.hid I3
  have J3 := Lib.hid J3
  have MA := Lib.hid MA
  have MG := Lib.hid MG
  clear R2 K3 D2 H2
  go_wp2_with (refine store_cells rfl 29 (.tmp 2) (.tmp 9) rfl w.heap.size rfl (lvs i t x y A n c G m kk p q s z b) rfl _ D3.out (by simp) level_size rfl ?_)
  exact bodyPost_ret (v := lev i t x y A n c G m kk p q s z b) (res_cells rfl w.heap.size rfl (lvs i t x y A n c G m kk p q s z b) (D3.out.all _ (by simp)) Tryd.underlying29 rfl level_size) rfl (⟨i, t, x, y, A, n, c, G, m, kk, p, q, s, z, b, ws, gs, rfl, hn, hm, I3.out.sets (fun _ g off e => by have := MA.out g off e; omega) _ _, J3.out.sets (fun _ g off e => by have := MG.out g off e; omega) _ _, fun g off e => by have := MA.out g off e; omega, fun g off e => by have := MG.out g off e; omega, bl_sets H3.out (Nat.le_refl _) _ _⟩)

theorem boxes_cells {W : World} {b off n : Nat} {ws : List Bx} (h : Boxes W (some ⟨b, off, none⟩) n ws) {k : Nat} (hk : k < n) : BoxAt W b (off + k * 4) (ws.getD k bz) := by
  obtain ⟨b', off', e, _, hc⟩ := h.2 (by omega)
  cases e
  exact hc k hk
theorem Boxes.drewB {W : World} {A : Option Addr} {n : Nat} {bs : List Bx} (h : Boxes W A n bs) : Boxes W.drew A n bs := h.drew

end Go.Proofs.YtnoenjociioffaaDoor
