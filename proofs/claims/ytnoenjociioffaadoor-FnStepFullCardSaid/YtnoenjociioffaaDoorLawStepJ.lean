/-
  The walk of FnStepFull.
-/
import Derived.Test.YtnoenjociioffaaDoorStepW
import Derived.Test.YtnoenjociioffaaDoorEngOwn
import Derived.Test.YtnoenjociioffaaDoorDrawLevC
import Derived.Test.YtnoenjociioffaaDoorDrawIn
import Derived.Deep.Cut
namespace Go.Proofs.YtnoenjociioffaaDoor
open Go.RowKit
open M

theorem neq_vec0 (x y : Int) (w : World) : (binOp .neq 24 (vec x y) (vec x y)).run Tryd.prog w = .ok (.bool false) w := by
  have u3 := Tryd.underlying3
  have a3 := Tryd.isAgg3
  have z3 := Tryd.sizeOf3
  have hS : Tryd.prog.underlying 24 = some (.struct (Tryd.prog.fieldsOf 24)) := by kernel_rfl
  have hp : Tryd.prog.stoodInHeld 24 = false := by kernel_rfl
  have E : (Op.equalIn 10000 24 (vec x y) (vec x y)).run Tryd.prog w = .ok true w := by
    rw [show (10000 : Nat) = 9999 + 1 from rfl, run_equalIn_agg w 9999 24 _ _ hS hp]
    clear hS
    simp only [Program.fieldsOf, Tryd.underlying24]
    go_simp
  rw [run_neq_struct, E]
  rfl
set_option maxRecDepth 100000 in
set_option maxHeartbeats 1000000 in
theorem implEStartF (i t x y : Int) (A : Option Addr) (n c : Nat) (G : Option Addr) (m kk : Nat) (fp fq fs fz b : Int) (ws gs : List Bx) (w : World) (I : Boxes w A n ws) (J : Boxes w G m gs) (hn : n ≤ 281474976710656) (hm : m ≤ 281474976710656) : Calls Tryd.prog 29 #[lev i t x y A n c G m kk fp fq fs fz b] w fun e w' => e = .returned (.tuple #[(if lvB i t x y ws gs fp fq fs fz b then sta 0 x y 0 0 0 0 false false else sta 0 0 0 0 0 0 0 false false), .bool (lvB i t x y ws gs fp fq fs fz b)]) ∧ Below w.heap.size w w' := by
  have V := fun (W : World) (Z : Boxes W A n ws) (Y : Boxes W G m gs) => implLvValid i t x y A n c G m kk fp fq fs fz b ws gs W Z Y hn hm
  have I := Lib.hid I
  have J := Lib.hid J
  have P : CellsAt ((w.alloc (.cells #[.int .i64 i, .int .i64 t, .int .i64 x, .int .i64 y, .slice A n c, .slice G m kk, .int .i64 fp, .int .i64 fq, .int .i64 fs, .int .i64 fz, .int .i64 b] 29)).alloc (.cells #[.int .i64 0, .int .i64 0, .int .i64 0, .int .i64 0, .int .i64 0, .int .i64 0, .int .i64 0, .bool false, .bool false] 31)) w.heap.size (lvs i t x y A n c G m kk fp fq fs fz b) := (CellsAt.new w _ _ _ rfl).alloc _
  have D : CellsAt ((w.alloc (.cells #[.int .i64 i, .int .i64 t, .int .i64 x, .int .i64 y, .slice A n c, .slice G m kk, .int .i64 fp, .int .i64 fq, .int .i64 fs, .int .i64 fz, .int .i64 b] 29)).alloc (.cells #[.int .i64 0, .int .i64 0, .int .i64 0, .int .i64 0, .int .i64 0, .int .i64 0, .int .i64 0, .bool false, .bool false] 31)) (w.heap.size + 1) (stv 0 0 0 0 0 0 0 false false) := CellsAt.new _ _ _ _ (by simp)
  have H := Lib.hid (bl_alloc (bl_alloc (bl_refl w) (.cells #[.int .i64 i, .int .i64 t, .int .i64 x, .int .i64 y, .slice A n c, .slice G m kk, .int .i64 fp, .int .i64 fq, .int .i64 fs, .int .i64 fz, .int .i64 b] 29)) (.cells #[.int .i64 0, .int .i64 0, .int .i64 0, .int .i64 0, .int .i64 0, .int .i64 0, .int .i64 0, .bool false, .bool false] 31))
  cases hv : lvB i t x y ws gs fp fq fs fz b
  · rw [hv] at V
    have V := Lib.hid V
    clear hv
    go_enter Tryd.func29, Tryd.ntmps29
    go_wp2_with fail
    refine (V.out _ (I.out.step H.out) (J.out.step H.out)).mono ?_
    rintro e w1 ⟨rfl, B⟩
    replace P := P.step B
    replace D := D.step B
    replace H := Lib.hid (bl_trans H.out B)
    clear B
    go_wp2_with (refine store_new rfl 31 (.tmp 2) (.tmp 7) rfl (w.heap.size + 1) rfl (stv 0 0 0 0 0 0 0 false false) rfl _ D (by simp) state_size rfl ?_)
    intro w2 K N
    go_wp2
    exact bodyPost_ret (v := .tuple #[sta 0 0 0 0 0 0 0 false false, .bool false]) (res_cells_tmp rfl (w.heap.size + 1) rfl (stv 0 0 0 0 0 0 0 false false) N (.bool false) rfl Tryd.underlying31 rfl state_size) rfl ⟨rfl, kp_below H.out K (by omega)⟩
  · rw [hv] at V
    have V := Lib.hid V
    clear hv
    go_enter Tryd.func29, Tryd.ntmps29
    go_wp2_with fail
    refine (V.out _ (I.out.step H.out) (J.out.step H.out)).mono ?_
    rintro e w1 ⟨rfl, B⟩
    replace P := P.step B
    replace D := D.step B
    replace H := Lib.hid (bl_trans H.out B)
    clear B
    have Pc0 := P.cell 0 _ rfl
    have Pc1 := P.cell 1 _ rfl
    have Pc2 := P.cell 2 _ rfl
    have Pc3 := P.cell 3 _ rfl
    have Pc4 := P.cell 4 _ rfl
    have Pc5 := P.cell 5 _ rfl
    have Pc6 := P.cell 6 _ rfl
    have Pc7 := P.cell 7 _ rfl
    have Pc8 := P.cell 8 _ rfl
    have Pc9 := P.cell 9 _ rfl
    have Pc10 := P.cell 10 _ rfl
    have Pl := P.lt
    go_wp2_with (refine store_new rfl 31 (.tmp 2) (.tmp 10) rfl (w.heap.size + 1) rfl (stv 0 x y 0 0 0 0 false false) rfl _ D (by simp) state_size rfl ?_)
    intro w2 K N
    go_wp2
    exact bodyPost_ret (v := .tuple #[sta 0 x y 0 0 0 0 false false, .bool true]) (res_cells_tmp rfl (w.heap.size + 1) rfl (stv 0 x y 0 0 0 0 false false) N (.bool true) rfl Tryd.underlying31 rfl state_size) rfl ⟨rfl, kp_below H.out K (by omega)⟩

theorem draw_estartF (a : Option Addr) (len cap : Nat) (zs : List Int) (w : World) (h : IsRow .u8 w a len cap zs) : Calls Tryd.prog 28 #[.slice a len cap] w (DrawnL w) := by
  have D0 : CellsAt (w.alloc (.cells #[.int .i64 0, .int .i64 0, .int .i64 0, .int .i64 0, .slice none 0 0, .slice none 0 0, .int .i64 0, .int .i64 0, .int .i64 0, .int .i64 0, .int .i64 0] 29)) w.heap.size (lvs 0 0 0 0 none 0 0 none 0 0 0 0 0 0 0) := CellsAt.new w _ _ _ rfl
  have H := Lib.hid (bl_alloc (bl_refl w) (.cells #[.int .i64 0, .int .i64 0, .int .i64 0, .int .i64 0, .slice none 0 0, .slice none 0 0, .int .i64 0, .int .i64 0, .int .i64 0, .int .i64 0, .int .i64 0] 29))
  go_enter Tryd.func28, Tryd.ntmps28
  go_wp2_with fail
  refine (draw_lvalid a len cap zs _ (h.below (bl_alloc (bl_refl w) _))).mono ?_
  rintro e w1 ⟨i, t, x, y, A, n, c, G, m, kk, fp, fq, fs, fz, b, ws, gs, rfl, hn, hm, I, J, MA, MG, B⟩
  replace D0 := D0.step B
  replace H := Lib.hid (bl_trans H.out B)
  have MA2 := Lib.hid MA
  have MG2 := Lib.hid MG
  clear B MA MG
  go_wp2_with (refine store_new rfl 29 (.tmp 2) (.tmp 4) rfl w.heap.size rfl (lvs i t x y A n c G m kk fp fq fs fz b) rfl _ D0 (by simp) level_size rfl ?_)
  intro w2 K N
  go_wp2
  exact bodyPost_ret (v := lev i t x y A n c G m kk fp fq fs fz b) (res_cells rfl w.heap.size rfl (lvs i t x y A n c G m kk fp fq fs fz b) N Tryd.underlying29 rfl level_size) rfl ⟨i, t, x, y, A, n, c, G, m, kk, fp, fq, fs, fz, b, ws, gs, rfl, hn, hm, I.kept K (fun _ g off e => by have := MA2.out g off e; simp at this; omega), J.kept K (fun _ g off e => by have := MG2.out g off e; simp at this; omega), fun g off e => by have := MA2.out g off e; simp at this; omega, fun g off e => by have := MG2.out g off e; simp at this; omega, kp_below H.out K (by omega)⟩

set_option maxRecDepth 100000 in
set_option maxHeartbeats 4000000 in
theorem walk_FnStepFull (a : Option Addr) (len cap : Nat) (zs : List Int) (w : World) (h : IsRow .u8 w a len cap zs) (hQ : Quarter w) :
    Calls Tryd.prog 16 #[.slice a len cap] w fun e w' => e = .returned (.bool true) ∧ Below w.heap.size w w' := by
  have hm := h.bytes.1
  have hm2 := h.bytes.2.1
  unfold maxLen at hm2
  have hQ := Lib.hid hQ
  by_cases g9 : 1048576 < len
  · have g1 : (1048576 : Int) < (len : Int) := by omega
    go_enter Tryd.func16, Tryd.ntmps16
    go_wp2
    go_ret
    exact ⟨rfl, Below.refl _ _⟩
  have g1d : decide ((1048576 : Int) < (len : Int)) = false := decide_eq_false (by omega)
  have g2d : decide (1048576 < len) = false := decide_eq_false (by omega)
  clear g9
  go_enter Tryd.func16, Tryd.ntmps16
  go_wp2_with fail
  refine (draw_estartF a len cap zs w h).mono ?_
  rintro e w1 ⟨i, t, x, y, A, n, c, G, m, kk, fp, fq, fs, fz, b, ws, gs, rfl, hn, hm, I, J, _, _, B⟩
  have nA := Lib.hid (show 0 < n → ∀ g off, A = some ⟨g, off, none⟩ → g < w1.heap.size from fun h0 g off e => lt_of_boxes I h0 e)
  have nG := Lib.hid (show 0 < m → ∀ g off, G = some ⟨g, off, none⟩ → g < w1.heap.size from fun h0 g off e => lt_of_boxes J h0 e)
  have L : CellsAt (w1.alloc (.cells #[.int .i64 i, .int .i64 t, .int .i64 x, .int .i64 y, .slice A n c, .slice G m kk, .int .i64 fp, .int .i64 fq, .int .i64 fs, .int .i64 fz, .int .i64 b] 29)) w1.heap.size (lvs i t x y A n c G m kk fp fq fs fz b) := CellsAt.new _ _ _ _ rfl
  have B0 := Lib.hid B.size
  have H := Lib.hid (bl_alloc B (.cells #[.int .i64 i, .int .i64 t, .int .i64 x, .int .i64 y, .slice A n c, .slice G m kk, .int .i64 fp, .int .i64 fq, .int .i64 fs, .int .i64 fz, .int .i64 b] 29))
  have hN : n ≤ 281474976710656 := by omega
  have hM : m ≤ 281474976710656 := by omega
  replace I := Lib.hid (I.alloc (.cells #[.int .i64 i, .int .i64 t, .int .i64 x, .int .i64 y, .slice A n c, .slice G m kk, .int .i64 fp, .int .i64 fq, .int .i64 fs, .int .i64 fz, .int .i64 b] 29))
  replace J := Lib.hid (J.alloc (.cells #[.int .i64 i, .int .i64 t, .int .i64 x, .int .i64 y, .slice A n c, .slice G m kk, .int .i64 fp, .int .i64 fq, .int .i64 fs, .int .i64 fz, .int .i64 b] 29))
  have hgd := state_guard
  have hgv := vec_guard
  clear B h
  cases hv : lvB i t x y ws gs fp fq fs fz b
  · have C1 := Lib.hid (fun (W : World) (Z : Boxes W A n ws) (Y : Boxes W G m gs) => (show Calls Tryd.prog 29 #[lev i t x y A n c G m kk fp fq fs fz b] W (fun e w' => e = .returned (.tuple #[sta 0 0 0 0 0 0 0 false false, .bool false]) ∧ Below W.heap.size W w') from by have t := implEStartF i t x y A n c G m kk fp fq fs fz b ws gs W Z Y hN hM; rw [hv] at t; exact t))
    have C2 := Lib.hid (fun (W : World) (Z : Boxes W A n ws) (Y : Boxes W G m gs) => (show Calls Tryd.prog 30 #[lev i t x y A n c G m kk fp fq fs fz b] W (fun e w' => e = .returned (.tuple #[sta 0 0 0 0 0 0 0 false false, .bool false]) ∧ Below W.heap.size W w') from by have t := specEStart i t x y A n c G m kk fp fq fs fz b ws gs W Z Y hN hM; rw [hv] at t; exact t))
    have hneq := fun W => neq_state 0 0 0 0 0 0 0 false false W
    have heq := fun W => eq_state 0 0 0 0 0 0 0 false false W
    have hnv := fun W => neq_vec0 x y W
    clear hv
    have Lc0 := L.cell 0 _ rfl
    have Lc1 := L.cell 1 _ rfl
    have Lc2 := L.cell 2 _ rfl
    have Lc3 := L.cell 3 _ rfl
    have Lc4 := L.cell 4 _ rfl
    have Lc5 := L.cell 5 _ rfl
    have Lc6 := L.cell 6 _ rfl
    have Lc7 := L.cell 7 _ rfl
    have Lc8 := L.cell 8 _ rfl
    have Lc9 := L.cell 9 _ rfl
    have Lc10 := L.cell 10 _ rfl
    have Ll := L.lt
    go_wp2_with fail
    clear Lc0 Lc1 Lc2 Lc3 Lc4 Lc5 Lc6 Lc7 Lc8 Lc9 Lc10 Ll
    refine (C1.out _ I.out J.out).mono ?_
    rintro e w2 ⟨rfl, B⟩
    replace L := L.step B
    replace I := Lib.hid (I.out.step B)
    replace J := Lib.hid (J.out.step B)
    replace H := Lib.hid (bl_trans H.out B)
    clear B
    have Lc0 := L.cell 0 _ rfl
    have Lc1 := L.cell 1 _ rfl
    have Lc2 := L.cell 2 _ rfl
    have Lc3 := L.cell 3 _ rfl
    have Lc4 := L.cell 4 _ rfl
    have Lc5 := L.cell 5 _ rfl
    have Lc6 := L.cell 6 _ rfl
    have Lc7 := L.cell 7 _ rfl
    have Lc8 := L.cell 8 _ rfl
    have Lc9 := L.cell 9 _ rfl
    have Lc10 := L.cell 10 _ rfl
    have Ll := L.lt
    go_wp2_with fail
    clear Lc0 Lc1 Lc2 Lc3 Lc4 Lc5 Lc6 Lc7 Lc8 Lc9 Lc10 Ll
    replace L := L.alloc (.cells #[.int .i64 0, .int .i64 0, .int .i64 0, .int .i64 0, .int .i64 0, .int .i64 0, .int .i64 0, .bool false, .bool false] 31)
    replace I := Lib.hid (I.out.alloc (.cells #[.int .i64 0, .int .i64 0, .int .i64 0, .int .i64 0, .int .i64 0, .int .i64 0, .int .i64 0, .bool false, .bool false] 31))
    replace J := Lib.hid (J.out.alloc (.cells #[.int .i64 0, .int .i64 0, .int .i64 0, .int .i64 0, .int .i64 0, .int .i64 0, .int .i64 0, .bool false, .bool false] 31))
    have O : CellsAt (w2.alloc (.cells #[.int .i64 0, .int .i64 0, .int .i64 0, .int .i64 0, .int .i64 0, .int .i64 0, .int .i64 0, .bool false, .bool false] 31)) w2.heap.size (stv 0 0 0 0 0 0 0 false false) := CellsAt.new w2 _ _ _ rfl
    replace H := Lib.hid (bl_alloc H.out (.cells #[.int .i64 0, .int .i64 0, .int .i64 0, .int .i64 0, .int .i64 0, .int .i64 0, .int .i64 0, .bool false, .bool false] 31))
    refine (C2.out _ I.out J.out).mono ?_
    rintro e w3 ⟨rfl, B⟩
    replace L := L.step B
    replace O := O.step B
    replace I := Lib.hid (I.out.step B)
    replace J := Lib.hid (J.out.step B)
    replace H := Lib.hid (bl_trans H.out B)
    clear B
    have Lc0 := L.cell 0 _ rfl
    have Lc1 := L.cell 1 _ rfl
    have Lc2 := L.cell 2 _ rfl
    have Lc3 := L.cell 3 _ rfl
    have Lc4 := L.cell 4 _ rfl
    have Lc5 := L.cell 5 _ rfl
    have Lc6 := L.cell 6 _ rfl
    have Lc7 := L.cell 7 _ rfl
    have Lc8 := L.cell 8 _ rfl
    have Lc9 := L.cell 9 _ rfl
    have Lc10 := L.cell 10 _ rfl
    have Ll := L.lt
    have Oc0 := O.cell 0 _ rfl
    have Oc1 := O.cell 1 _ rfl
    have Oc2 := O.cell 2 _ rfl
    have Oc3 := O.cell 3 _ rfl
    have Oc4 := O.cell 4 _ rfl
    have Oc5 := O.cell 5 _ rfl
    have Oc6 := O.cell 6 _ rfl
    have Oc7 := O.cell 7 _ rfl
    have Oc8 := O.cell 8 _ rfl
    have Ol := O.lt
    go_wp2
    go_ret
    exact ⟨rfl, bl_alloc (H.out) _⟩
  have C1 := Lib.hid (fun (W : World) (Z : Boxes W A n ws) (Y : Boxes W G m gs) => (show Calls Tryd.prog 29 #[lev i t x y A n c G m kk fp fq fs fz b] W (fun e w' => e = .returned (.tuple #[sta 0 x y 0 0 0 0 false false, .bool true]) ∧ Below W.heap.size W w') from by have t := implEStartF i t x y A n c G m kk fp fq fs fz b ws gs W Z Y hN hM; rw [hv] at t; exact t))
  have C2 := Lib.hid (fun (W : World) (Z : Boxes W A n ws) (Y : Boxes W G m gs) => (show Calls Tryd.prog 30 #[lev i t x y A n c G m kk fp fq fs fz b] W (fun e w' => e = .returned (.tuple #[sta 0 x y 0 0 0 0 false false, .bool true]) ∧ Below W.heap.size W w') from by have t := specEStart i t x y A n c G m kk fp fq fs fz b ws gs W Z Y hN hM; rw [hv] at t; exact t))
  have hneq := fun W => neq_state 0 x y 0 0 0 0 false false W
  have heq := fun W => eq_state 0 x y 0 0 0 0 false false W
  have hnv := fun W => neq_vec0 x y W
  have hr : Round i t x y ws gs fp fq fs fz b 0 0 x y 0 0 0 0 false false := ⟨start_ev hv, .inr ⟨rfl, rfl⟩⟩
  clear hv
  by_cases ht : t < 17
  · have ht1 : decide (t < 17) = true := decide_eq_true ht
    clear hr
    have Lc0 := L.cell 0 _ rfl
    have Lc1 := L.cell 1 _ rfl
    have Lc2 := L.cell 2 _ rfl
    have Lc3 := L.cell 3 _ rfl
    have Lc4 := L.cell 4 _ rfl
    have Lc5 := L.cell 5 _ rfl
    have Lc6 := L.cell 6 _ rfl
    have Lc7 := L.cell 7 _ rfl
    have Lc8 := L.cell 8 _ rfl
    have Lc9 := L.cell 9 _ rfl
    have Lc10 := L.cell 10 _ rfl
    have Ll := L.lt
    go_wp2_with fail
    clear Lc0 Lc1 Lc2 Lc3 Lc4 Lc5 Lc6 Lc7 Lc8 Lc9 Lc10 Ll
    refine (C1.out _ I.out J.out).mono ?_
    rintro e w2 ⟨rfl, B⟩
    replace L := L.step B
    replace I := Lib.hid (I.out.step B)
    replace J := Lib.hid (J.out.step B)
    replace H := Lib.hid (bl_trans H.out B)
    clear B
    have Lc0 := L.cell 0 _ rfl
    have Lc1 := L.cell 1 _ rfl
    have Lc2 := L.cell 2 _ rfl
    have Lc3 := L.cell 3 _ rfl
    have Lc4 := L.cell 4 _ rfl
    have Lc5 := L.cell 5 _ rfl
    have Lc6 := L.cell 6 _ rfl
    have Lc7 := L.cell 7 _ rfl
    have Lc8 := L.cell 8 _ rfl
    have Lc9 := L.cell 9 _ rfl
    have Lc10 := L.cell 10 _ rfl
    have Ll := L.lt
    go_wp2_with fail
    clear Lc0 Lc1 Lc2 Lc3 Lc4 Lc5 Lc6 Lc7 Lc8 Lc9 Lc10 Ll
    replace L := L.alloc (.cells #[.int .i64 0, .int .i64 x, .int .i64 y, .int .i64 0, .int .i64 0, .int .i64 0, .int .i64 0, .bool false, .bool false] 31)
    replace I := Lib.hid (I.out.alloc (.cells #[.int .i64 0, .int .i64 x, .int .i64 y, .int .i64 0, .int .i64 0, .int .i64 0, .int .i64 0, .bool false, .bool false] 31))
    replace J := Lib.hid (J.out.alloc (.cells #[.int .i64 0, .int .i64 x, .int .i64 y, .int .i64 0, .int .i64 0, .int .i64 0, .int .i64 0, .bool false, .bool false] 31))
    have O : CellsAt (w2.alloc (.cells #[.int .i64 0, .int .i64 x, .int .i64 y, .int .i64 0, .int .i64 0, .int .i64 0, .int .i64 0, .bool false, .bool false] 31)) w2.heap.size (stv 0 x y 0 0 0 0 false false) := CellsAt.new w2 _ _ _ rfl
    replace H := Lib.hid (bl_alloc H.out (.cells #[.int .i64 0, .int .i64 x, .int .i64 y, .int .i64 0, .int .i64 0, .int .i64 0, .int .i64 0, .bool false, .bool false] 31))
    refine (C2.out _ I.out J.out).mono ?_
    rintro e w3 ⟨rfl, B⟩
    replace L := L.step B
    replace O := O.step B
    replace I := Lib.hid (I.out.step B)
    replace J := Lib.hid (J.out.step B)
    replace H := Lib.hid (bl_trans H.out B)
    clear B
    have Lc0 := L.cell 0 _ rfl
    have Lc1 := L.cell 1 _ rfl
    have Lc2 := L.cell 2 _ rfl
    have Lc3 := L.cell 3 _ rfl
    have Lc4 := L.cell 4 _ rfl
    have Lc5 := L.cell 5 _ rfl
    have Lc6 := L.cell 6 _ rfl
    have Lc7 := L.cell 7 _ rfl
    have Lc8 := L.cell 8 _ rfl
    have Lc9 := L.cell 9 _ rfl
    have Lc10 := L.cell 10 _ rfl
    have Ll := L.lt
    have Oc0 := O.cell 0 _ rfl
    have Oc1 := O.cell 1 _ rfl
    have Oc2 := O.cell 2 _ rfl
    have Oc3 := O.cell 3 _ rfl
    have Oc4 := O.cell 4 _ rfl
    have Oc5 := O.cell 5 _ rfl
    have Oc6 := O.cell 6 _ rfl
    have Oc7 := O.cell 7 _ rfl
    have Oc8 := O.cell 8 _ rfl
    have Ol := O.lt
    go_wp2
    go_ret
    exact ⟨rfl, bl_alloc (H.out) _⟩
  have ht1 : decide (t < 17) = false := decide_eq_false ht
  have ht17 : 17 ≤ t := by omega
  have hr := Lib.hid hr
  have Lc0 := L.cell 0 _ rfl
  have Lc1 := L.cell 1 _ rfl
  have Lc2 := L.cell 2 _ rfl
  have Lc3 := L.cell 3 _ rfl
  have Lc4 := L.cell 4 _ rfl
  have Lc5 := L.cell 5 _ rfl
  have Lc6 := L.cell 6 _ rfl
  have Lc7 := L.cell 7 _ rfl
  have Lc8 := L.cell 8 _ rfl
  have Lc9 := L.cell 9 _ rfl
  have Lc10 := L.cell 10 _ rfl
  have Ll := L.lt
  go_wp2_with fail
  clear Lc0 Lc1 Lc2 Lc3 Lc4 Lc5 Lc6 Lc7 Lc8 Lc9 Lc10 Ll
  refine (C1.out _ I.out J.out).mono ?_
  rintro e w2 ⟨rfl, B⟩
  replace L := L.step B
  replace I := Lib.hid (I.out.step B)
  replace J := Lib.hid (J.out.step B)
  replace H := Lib.hid (bl_trans H.out B)
  clear B
  have Lc0 := L.cell 0 _ rfl
  have Lc1 := L.cell 1 _ rfl
  have Lc2 := L.cell 2 _ rfl
  have Lc3 := L.cell 3 _ rfl
  have Lc4 := L.cell 4 _ rfl
  have Lc5 := L.cell 5 _ rfl
  have Lc6 := L.cell 6 _ rfl
  have Lc7 := L.cell 7 _ rfl
  have Lc8 := L.cell 8 _ rfl
  have Lc9 := L.cell 9 _ rfl
  have Lc10 := L.cell 10 _ rfl
  have Ll := L.lt
  go_wp2_with fail
  clear Lc0 Lc1 Lc2 Lc3 Lc4 Lc5 Lc6 Lc7 Lc8 Lc9 Lc10 Ll
  replace L := L.alloc (.cells #[.int .i64 0, .int .i64 x, .int .i64 y, .int .i64 0, .int .i64 0, .int .i64 0, .int .i64 0, .bool false, .bool false] 31)
  replace I := Lib.hid (I.out.alloc (.cells #[.int .i64 0, .int .i64 x, .int .i64 y, .int .i64 0, .int .i64 0, .int .i64 0, .int .i64 0, .bool false, .bool false] 31))
  replace J := Lib.hid (J.out.alloc (.cells #[.int .i64 0, .int .i64 x, .int .i64 y, .int .i64 0, .int .i64 0, .int .i64 0, .int .i64 0, .bool false, .bool false] 31))
  have O : CellsAt (w2.alloc (.cells #[.int .i64 0, .int .i64 x, .int .i64 y, .int .i64 0, .int .i64 0, .int .i64 0, .int .i64 0, .bool false, .bool false] 31)) w2.heap.size (stv 0 x y 0 0 0 0 false false) := CellsAt.new w2 _ _ _ rfl
  replace H := Lib.hid (bl_alloc H.out (.cells #[.int .i64 0, .int .i64 x, .int .i64 y, .int .i64 0, .int .i64 0, .int .i64 0, .int .i64 0, .bool false, .bool false] 31))
  refine (C2.out _ I.out J.out).mono ?_
  rintro e w3 ⟨rfl, B⟩
  replace L := L.step B
  replace O := O.step B
  replace I := Lib.hid (I.out.step B)
  replace J := Lib.hid (J.out.step B)
  replace H := Lib.hid (bl_trans H.out B)
  clear B
  have Lc0 := L.cell 0 _ rfl
  have Lc1 := L.cell 1 _ rfl
  have Lc2 := L.cell 2 _ rfl
  have Lc3 := L.cell 3 _ rfl
  have Lc4 := L.cell 4 _ rfl
  have Lc5 := L.cell 5 _ rfl
  have Lc6 := L.cell 6 _ rfl
  have Lc7 := L.cell 7 _ rfl
  have Lc8 := L.cell 8 _ rfl
  have Lc9 := L.cell 9 _ rfl
  have Lc10 := L.cell 10 _ rfl
  have Ll := L.lt
  have Oc0 := O.cell 0 _ rfl
  have Oc1 := O.cell 1 _ rfl
  have Oc2 := O.cell 2 _ rfl
  have Oc3 := O.cell 3 _ rfl
  have Oc4 := O.cell 4 _ rfl
  have Oc5 := O.cell 5 _ rfl
  have Oc6 := O.cell 6 _ rfl
  have Oc7 := O.cell 7 _ rfl
  have Oc8 := O.cell 8 _ rfl
  have Ol := O.lt
  go_upto_region 9 with fail
  refine wp_letter (fun W' => CellsAt W' w1.heap.size (lvs i t x y A n c G m kk fp fq fs fz b) ∧ CellsAt W' (w3.heap.size + 1) (stv 0 x y 0 0 0 0 false false) ∧ Boxes W' A n ws ∧ Boxes W' G m gs ∧ Below w.heap.size w W') ⟨(L.alloc _).alloc _, CellsAt.new _ _ _ _ (by simp), (I.out.alloc _).alloc _, (J.out.alloc _).alloc _, bl_alloc (bl_alloc H.out _) _⟩ ?_
  have hsb : w1.heap.size < w3.heap.size + 1 := by have := L.lt; omega
  clear C1 C2 hneq heq hnv hgd hgv ht ht1 O I J H
  clear Lc0 Lc1 Lc2 Lc3 Lc4 Lc5 Lc6 Lc7 Lc8 Lc9 Lc10 Ll Oc0 Oc1 Oc2 Oc3 Oc4 Oc5 Oc6 Oc7 Oc8 Ol L
  generalize w3.heap.size + 1 = sb at *
  rintro w4 ⟨L, S, I, J, H⟩
  go_wp2
  go_loopw [9] (fun iv W => ∃ (j : Nat) (k ax ay fx fy u g : Int) (d o : Bool), j ≤ 16 ∧ iv = .int .i64 j ∧ Round i t x y ws gs fp fq fs fz b j k ax ay fx fy u g d o ∧ CellsAt W w1.heap.size (lvs i t x y A n c G m kk fp fq fs fz b) ∧ CellsAt W sb (stv k ax ay fx fy u g d o) ∧ Boxes W A n ws ∧ Boxes W G m gs ∧ Below w.heap.size w W) (fun i _ => 16 - (intOf i).toNat)
  case atStart => exact ⟨0, 0, x, y, 0, 0, 0, 0, false, false, by omega, rfl, hr.out, L, S, I, J, H⟩
  case round =>
    clear L S I J H hr
    obtain ⟨j, k, ax, ay, fx, fy, u, g, d, o, hj, rfl, R, L, S, I, J, H⟩ := hrel
    have I := Lib.hid I
    have J := Lib.hid J
    have H := Lib.hid H
    by_cases hlt : j < 16
    · have hjl : (j : Int) < 16 := by omega
      have hgo := R.go hjl ht17
      obtain ⟨K', X', Y', P', Q', U', V', D', O', hE⟩ : ∃ K' X' Y' P' Q' U' V' D' O', esS i t x y ws gs fp fq fs fz b k ax ay fx fy u g d o 1 0 false = ⟨K', X', Y', P', Q', U', V', D', O'⟩ := ⟨_, _, _, _, _, _, _, _, _, rfl⟩
      have hnx := Lib.hid (R.next hjl ht17 hE)
      have C := Lib.hid (fun (W : World) (Z : Boxes W A n ws) (Y : Boxes W G m gs) (R : Quarter W) => implEStepE i t x y A n c G m kk fp fq fs fz b ws gs k ax ay fx fy u g d o 1 0 false (r := true) (show esS i t x y ws gs fp fq fs fz b k ax ay fx fy u g d o 1 0 false = ⟨K', X', Y', P', Q', U', V', D', O'⟩ from hE) hgo hN hM W Z Y R)
      clear hE hgo R
      have Lc0 := L.cell 0 _ rfl
      have Lc1 := L.cell 1 _ rfl
      have Lc2 := L.cell 2 _ rfl
      have Lc3 := L.cell 3 _ rfl
      have Lc4 := L.cell 4 _ rfl
      have Lc5 := L.cell 5 _ rfl
      have Lc6 := L.cell 6 _ rfl
      have Lc7 := L.cell 7 _ rfl
      have Lc8 := L.cell 8 _ rfl
      have Lc9 := L.cell 9 _ rfl
      have Lc10 := L.cell 10 _ rfl
      have Ll := L.lt
      have Sc0 := S.cell 0 _ rfl
      have Sc1 := S.cell 1 _ rfl
      have Sc2 := S.cell 2 _ rfl
      have Sc3 := S.cell 3 _ rfl
      have Sc4 := S.cell 4 _ rfl
      have Sc5 := S.cell 5 _ rfl
      have Sc6 := S.cell 6 _ rfl
      have Sc7 := S.cell 7 _ rfl
      have Sc8 := S.cell 8 _ rfl
      have Sl := S.lt
      go_wp2_with fail
      refine (C.out _ I.out J.out (hQ.out.step H.out)).mono ?_
      rintro e w5 ⟨rfl, B⟩
      clear Lc0 Lc1 Lc2 Lc3 Lc4 Lc5 Lc6 Lc7 Lc8 Lc9 Lc10 Ll Sc0 Sc1 Sc2 Sc3 Sc4 Sc5 Sc6 Sc7 Sc8 Sl
      replace L := L.step B
      replace S := S.step B
      replace I := Lib.hid (I.out.step B)
      replace J := Lib.hid (J.out.step B)
      replace H := Lib.hid (bl_trans H.out B)
      clear B
      go_upto_region 15 with fail
      replace L := L.alloc (.cells #[.int .i64 K', .int .i64 X', .int .i64 Y', .int .i64 P', .int .i64 Q', .int .i64 U', .int .i64 V', .bool D', .bool O'] 31)
      replace S := S.alloc (.cells #[.int .i64 K', .int .i64 X', .int .i64 Y', .int .i64 P', .int .i64 Q', .int .i64 U', .int .i64 V', .bool D', .bool O'] 31)
      have O : CellsAt (w5.alloc (.cells #[.int .i64 K', .int .i64 X', .int .i64 Y', .int .i64 P', .int .i64 Q', .int .i64 U', .int .i64 V', .bool D', .bool O'] 31)) w5.heap.size (stv K' X' Y' P' Q' U' V' D' O') := CellsAt.new _ _ _ _ rfl
      replace I := Lib.hid (I.out.alloc (.cells #[.int .i64 K', .int .i64 X', .int .i64 Y', .int .i64 P', .int .i64 Q', .int .i64 U', .int .i64 V', .bool D', .bool O'] 31))
      replace J := Lib.hid (J.out.alloc (.cells #[.int .i64 K', .int .i64 X', .int .i64 Y', .int .i64 P', .int .i64 Q', .int .i64 U', .int .i64 V', .bool D', .bool O'] 31))
      replace H := Lib.hid (bl_alloc H.out (.cells #[.int .i64 K', .int .i64 X', .int .i64 Y', .int .i64 P', .int .i64 Q', .int .i64 U', .int .i64 V', .bool D', .bool O'] 31))
      refine wp_region_lit ?_
      refine load_cells rfl 31 (.tmp 10) rfl w5.heap.size rfl (stv K' X' Y' P' Q' U' V' D' O') O Tryd.underlying31 rfl state_size ?_
      refine store_new rfl 31 (.tmp 8) (.tmp 73) rfl sb rfl (stv K' X' Y' P' Q' U' V' D' O') rfl _ S (by simp) state_size rfl ?_
      intro w6 K N
      replace L := L.kept K (by omega)
      replace I := Lib.hid (I.out.kept K (fun h0 g off e => by have := nA.out h0 g off e; omega))
      replace J := Lib.hid (J.out.kept K (fun h0 g off e => by have := nG.out h0 g off e; omega))
      replace H := Lib.hid (kp_below H.out K (by have := B0.out; omega))
      clear K O S
      go_wp2
      go_roundw
      case rel => exact ⟨j + 1, K', X', Y', P', Q', U', V', D', O', by omega, by go_num, (show ((j + 1 : Nat) : Int) = (j : Int) + 1 by omega) ▸ hnx.out, L, N, I.out, J.out, H.out⟩
      case measure => simp [intOf]; omega
    · obtain rfl : j = 16 := by omega
      have hp := R.pos
      clear R hlt hj
      have Sc0 := S.cell 0 _ rfl
      have Sc1 := S.cell 1 _ rfl
      have Sc2 := S.cell 2 _ rfl
      have Sc3 := S.cell 3 _ rfl
      have Sc4 := S.cell 4 _ rfl
      have Sc5 := S.cell 5 _ rfl
      have Sc6 := S.cell 6 _ rfl
      have Sc7 := S.cell 7 _ rfl
      have Sc8 := S.cell 8 _ rfl
      have Sl := S.lt
      cases d
      rotate_left
      · clear hp
        go_wp2
        go_ret
        exact ⟨rfl, H.out⟩
      cases o
      rotate_left
      · clear hp
        go_wp2
        go_ret
        exact ⟨rfl, H.out⟩
      obtain rfl : u = 0 := by
        rcases hp with hc | ⟨_, hu⟩
        · cases hc
        · omega
      clear hp
      go_wp2
      go_ret
      exact ⟨rfl, H.out⟩

end Go.Proofs.YtnoenjociioffaaDoor
