/-
  The level, state and input that the model draws for the laws of the engine, and the state alone.
-/
import Derived.Test.YtnoenjociioffabState
import Derived.Test.YtnoenjociioffabDrawInB
namespace Go.Proofs.Ytnoenjociioffab
open Go.RowKit
open M

def DrawnES (w : World) (e : Ending) (w' : World) : Prop :=
  ∃ (i t x y : Int) (A : Option Addr) (n c : Nat) (G : Option Addr) (m kk : Nat) (fp fq fs fz b : Int) (ws gs : List Bx) (k ax ay fx fy u g : Int) (d o : Bool) (s p : Int) (z : Bool), e = .returned (.tuple #[lev i t x y A n c G m kk fp fq fs fz b, sta k ax ay fx fy u g d o, inp s p z]) ∧ (n ≤ 20 ∧ n ≤ c) ∧ (m ≤ 20 ∧ m ≤ kk) ∧ Boxes w' A n ws ∧ Boxes w' G m gs ∧ Below w.heap.size w w'

def DrawnS (w : World) (e : Ending) (w' : World) : Prop := ∃ (k ax ay fx fy u g : Int) (d o : Bool), e = .returned (sta k ax ay fx fy u g d o) ∧ Below w.heap.size w w'

set_option maxRecDepth 100000 in
set_option maxHeartbeats 4000000 in
theorem draw_ehash (a : Option Addr) (len cap : Nat) (zs : List Int) (w : World) (h : IsRow .u8 w a len cap zs) : Calls Try.prog 15 #[.slice a len cap] w (DrawnS w) := by
  have h1 := h.below (w' := w.alloc (.cells #[.int .i64 0, .int .i64 0, .int .i64 0, .int .i64 0, .int .i64 0, .int .i64 0, .int .i64 0, .bool false, .bool false] 32)) (bl_alloc (bl_refl w) _)
  have D : CellsAt (w.alloc (.cells #[.int .i64 0, .int .i64 0, .int .i64 0, .int .i64 0, .int .i64 0, .int .i64 0, .int .i64 0, .bool false, .bool false] 32)) w.heap.size (stv 0 0 0 0 0 0 0 false false) := CellsAt.new w _ _ _ rfl
  have H := Lib.hid (bl_alloc (bl_refl w) (.cells #[.int .i64 0, .int .i64 0, .int .i64 0, .int .i64 0, .int .i64 0, .int .i64 0, .int .i64 0, .bool false, .bool false] 32))
  go_enter Try.func15, Try.ntmps15
  go_wp2_with fail
  refine (open_any a len cap zs (w.alloc (.cells #[.int .i64 0, .int .i64 0, .int .i64 0, .int .i64 0, .int .i64 0, .int .i64 0, .int .i64 0, .bool false, .bool false] 32)) h1).mono ?_
  rintro e w1 ⟨rfl, R1, B⟩
  simp at R1
  have z1 := R1.base
  replace D := D.step B
  replace H := Lib.hid (bl_trans H.out B)
  clear B h1 h
  go_wp2_with fail
  refine (level_drawn2 _ 0 _ R1 (by omega)).mono ?_
  rintro e w2 ⟨i', t', x', y', A', n', c', G', m', kk', p', q', s', z', b', ws', gs', rfl, hn', hm', HL', I2, J2, MA', MG', R2, K⟩
  have z2 := K.size
  replace D := D.kept K (by omega)
  replace H := Lib.hid (kp_below H.out K (by omega))
  clear K
  go_wp2_with fail
  refine (state_drawn _ _ i' t' x' y' A' n' c' G' m' kk' p' q' s' z' b' ws' gs' _ R2 (by omega) (by omega) I2 J2 (fun g off e => by have := MA' g off e; omega) (fun g off e => by have := MG' g off e; omega) HL'.1.ok hn'.1 hm'.1 HL'.2).mono ?_
  rintro e w3 ⟨sk, sax, say, sfx, sfy, su, sg, sd, so, rfl, R3, K⟩
  replace D := D.kept K (by omega)
  replace H := Lib.hid (kp_below H.out K (by omega))
  clear K R2 R3 I2 J2 MA' MG' HL'
  go_wp2_with (refine store_new rfl 32 (.tmp 2) (.tmp 9) rfl w.heap.size rfl (stv sk sax say sfx sfy su sg sd so) rfl _ D (by simp) state_size rfl ?_)
  intro w5 K N5
  go_wp2
  exact bodyPost_ret (v := sta sk sax say sfx sfy su sg sd so) (res_cells rfl w.heap.size rfl (stv sk sax say sfx sfy su sg sd so) N5 Try.underlying32 rfl state_size) rfl ⟨sk, sax, say, sfx, sfy, su, sg, sd, so, rfl, kp_below H.out K (by omega)⟩

end Go.Proofs.Ytnoenjociioffab
