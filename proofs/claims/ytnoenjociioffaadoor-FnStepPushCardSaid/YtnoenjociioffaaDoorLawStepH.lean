/-
  The walk of FnStepPush.
-/
import Derived.Test.YtnoenjociioffaaDoorStepW
import Derived.Test.YtnoenjociioffaaDoorBoxP
import Derived.Deep.Cut
namespace Go.Proofs.YtnoenjociioffaaDoor
open Go.RowKit
open M

theorem cells2 {W : World} {b : Nat} {v0 v1 : Value} (h : CellsAt W b [v0, v1]) : W.cell? ⟨b, 0, none⟩ = some v0 ∧ W.cell? ⟨b, 1, none⟩ = some v1 := ⟨h.cell 0 _ rfl, h.cell 1 _ rfl⟩
theorem cells3 {W : World} {b : Nat} {v0 v1 v2 : Value} (h : CellsAt W b [v0, v1, v2]) : W.cell? ⟨b, 0, none⟩ = some v0 ∧ W.cell? ⟨b, 1, none⟩ = some v1 ∧ W.cell? ⟨b, 2, none⟩ = some v2 := ⟨h.cell 0 _ rfl, h.cell 1 _ rfl, h.cell 2 _ rfl⟩
theorem cells9 {W : World} {b : Nat} {v0 v1 v2 v3 v4 v5 v6 v7 v8 : Value} (h : CellsAt W b [v0, v1, v2, v3, v4, v5, v6, v7, v8]) : W.cell? ⟨b, 0, none⟩ = some v0 ∧ W.cell? ⟨b, 1, none⟩ = some v1 ∧ W.cell? ⟨b, 2, none⟩ = some v2 ∧ W.cell? ⟨b, 3, none⟩ = some v3 ∧ W.cell? ⟨b, 4, none⟩ = some v4 ∧ W.cell? ⟨b, 5, none⟩ = some v5 ∧ W.cell? ⟨b, 6, none⟩ = some v6 ∧ W.cell? ⟨b, 7, none⟩ = some v7 ∧ W.cell? ⟨b, 8, none⟩ = some v8 := ⟨h.cell 0 _ rfl, h.cell 1 _ rfl, h.cell 2 _ rfl, h.cell 3 _ rfl, h.cell 4 _ rfl, h.cell 5 _ rfl, h.cell 6 _ rfl, h.cell 7 _ rfl, h.cell 8 _ rfl⟩
theorem cells11 {W : World} {b : Nat} {v0 v1 v2 v3 v4 v5 v6 v7 v8 v9 v10 : Value} (h : CellsAt W b [v0, v1, v2, v3, v4, v5, v6, v7, v8, v9, v10]) : W.cell? ⟨b, 0, none⟩ = some v0 ∧ W.cell? ⟨b, 1, none⟩ = some v1 ∧ W.cell? ⟨b, 2, none⟩ = some v2 ∧ W.cell? ⟨b, 3, none⟩ = some v3 ∧ W.cell? ⟨b, 4, none⟩ = some v4 ∧ W.cell? ⟨b, 5, none⟩ = some v5 ∧ W.cell? ⟨b, 6, none⟩ = some v6 ∧ W.cell? ⟨b, 7, none⟩ = some v7 ∧ W.cell? ⟨b, 8, none⟩ = some v8 ∧ W.cell? ⟨b, 9, none⟩ = some v9 ∧ W.cell? ⟨b, 10, none⟩ = some v10 := ⟨h.cell 0 _ rfl, h.cell 1 _ rfl, h.cell 2 _ rfl, h.cell 3 _ rfl, h.cell 4 _ rfl, h.cell 5 _ rfl, h.cell 6 _ rfl, h.cell 7 _ rfl, h.cell 8 _ rfl, h.cell 9 _ rfl, h.cell 10 _ rfl⟩

set_option maxRecDepth 100000 in
set_option maxHeartbeats 4000000 in
theorem walk_FnStepPush (a : Option Addr) (len cap : Nat) (zs : List Int) (w : World) (h : IsRow .u8 w a len cap zs) (hQ : Quarter w) :
    Calls Tryd.prog 14 #[.slice a len cap] w fun e w' => e = .returned (.bool true) ∧ Below w.heap.size w w' := by
  have hm := h.bytes.1
  have hm2 := h.bytes.2.1
  unfold maxLen at hm2
  have hQ := Lib.hid hQ
  by_cases g9 : 1048576 < len
  · have g1 : (1048576 : Int) < (len : Int) := by omega
    go_enter Tryd.func14, Tryd.ntmps14
    go_wp2
    go_ret
    exact ⟨rfl, Below.refl _ _⟩
  have g1 : ¬ (1048576 : Int) < (len : Int) := by omega
  have g1d : decide ((1048576 : Int) < (len : Int)) = false := decide_eq_false g1
  have g2d : decide (1048576 < len) = false := decide_eq_false (by omega)
  clear g1 g9
  go_enter Tryd.func14, Tryd.ntmps14
  go_wp2_with fail
  refine (draw_estep a len cap zs w h).mono ?_
  rintro e w1 ⟨i, t, x, y, A, n, c, G, m, kk, fp, fq, fs, fz, b, ws, gs, k, ax, ay, fx, fy, u, g, d, o, s, p, z, rfl, hn, hm, I, J, B⟩
  have L : CellsAt (((w1.alloc (.cells #[.int .i64 0, .int .i64 0, .int .i64 0, .int .i64 0, .slice none 0 0, .slice none 0 0, .int .i64 0, .int .i64 0, .int .i64 0, .int .i64 0, .int .i64 0] 29)).alloc (.cells #[.int .i64 0, .int .i64 0, .int .i64 0, .int .i64 0, .int .i64 0, .int .i64 0, .int .i64 0, .bool false, .bool false] 31)).alloc (.cells #[.int .i64 0, .int .i64 0, .bool false] 33)) w1.heap.size (lvs 0 0 0 0 none 0 0 none 0 0 0 0 0 0 0) := ((CellsAt.new _ _ _ _ rfl).alloc _).alloc _
  have S : CellsAt (((w1.alloc (.cells #[.int .i64 0, .int .i64 0, .int .i64 0, .int .i64 0, .slice none 0 0, .slice none 0 0, .int .i64 0, .int .i64 0, .int .i64 0, .int .i64 0, .int .i64 0] 29)).alloc (.cells #[.int .i64 0, .int .i64 0, .int .i64 0, .int .i64 0, .int .i64 0, .int .i64 0, .int .i64 0, .bool false, .bool false] 31)).alloc (.cells #[.int .i64 0, .int .i64 0, .bool false] 33)) (w1.heap.size + 1) (stv 0 0 0 0 0 0 0 false false) := (CellsAt.new _ _ _ _ (by simp)).alloc _
  have X : CellsAt (((w1.alloc (.cells #[.int .i64 0, .int .i64 0, .int .i64 0, .int .i64 0, .slice none 0 0, .slice none 0 0, .int .i64 0, .int .i64 0, .int .i64 0, .int .i64 0, .int .i64 0] 29)).alloc (.cells #[.int .i64 0, .int .i64 0, .int .i64 0, .int .i64 0, .int .i64 0, .int .i64 0, .int .i64 0, .bool false, .bool false] 31)).alloc (.cells #[.int .i64 0, .int .i64 0, .bool false] 33)) (w1.heap.size + 1 + 1) (ins 0 0 false) := CellsAt.new _ _ _ _ (by simp)
  have nA := Lib.hid (show 0 < n → ∀ g off, A = some ⟨g, off, none⟩ → g < w1.heap.size from fun h0 g off e => lt_of_boxes I h0 e)
  have nG := Lib.hid (show 0 < m → ∀ g off, G = some ⟨g, off, none⟩ → g < w1.heap.size from fun h0 g off e => lt_of_boxes J h0 e)
  replace I := Lib.hid (((I.alloc (.cells #[.int .i64 0, .int .i64 0, .int .i64 0, .int .i64 0, .slice none 0 0, .slice none 0 0, .int .i64 0, .int .i64 0, .int .i64 0, .int .i64 0, .int .i64 0] 29)).alloc (.cells #[.int .i64 0, .int .i64 0, .int .i64 0, .int .i64 0, .int .i64 0, .int .i64 0, .int .i64 0, .bool false, .bool false] 31)).alloc (.cells #[.int .i64 0, .int .i64 0, .bool false] 33))
  replace J := Lib.hid (((J.alloc (.cells #[.int .i64 0, .int .i64 0, .int .i64 0, .int .i64 0, .slice none 0 0, .slice none 0 0, .int .i64 0, .int .i64 0, .int .i64 0, .int .i64 0, .int .i64 0] 29)).alloc (.cells #[.int .i64 0, .int .i64 0, .int .i64 0, .int .i64 0, .int .i64 0, .int .i64 0, .int .i64 0, .bool false, .bool false] 31)).alloc (.cells #[.int .i64 0, .int .i64 0, .bool false] 33))
  have B0 := Lib.hid B.size
  have H := Lib.hid (bl_alloc (bl_alloc (bl_alloc B (.cells #[.int .i64 0, .int .i64 0, .int .i64 0, .int .i64 0, .slice none 0 0, .slice none 0 0, .int .i64 0, .int .i64 0, .int .i64 0, .int .i64 0, .int .i64 0] 29)) (.cells #[.int .i64 0, .int .i64 0, .int .i64 0, .int .i64 0, .int .i64 0, .int .i64 0, .int .i64 0, .bool false, .bool false] 31)) (.cells #[.int .i64 0, .int .i64 0, .bool false] 33))
  have hN : n ≤ 281474976710656 := by omega
  have hM : m ≤ 281474976710656 := by omega
  clear B h
  go_wp2_with (refine store_new rfl 29 (.tmp 3) (.tmp 23) rfl w1.heap.size rfl (lvs i t x y A n c G m kk fp fq fs fz b) rfl _ L (by simp) level_size rfl ?_)
  intro w2 K N
  replace L := N
  replace S := S.kept K (by omega)
  replace X := X.kept K (by omega)
  replace I := Lib.hid (I.out.kept K (fun h0 g off e => by have := nA.out h0 g off e; omega))
  replace J := Lib.hid (J.out.kept K (fun h0 g off e => by have := nG.out h0 g off e; omega))
  replace H := Lib.hid (kp_below H.out K (by have := B0.out; omega))
  clear K
  go_wp2_with (refine store_new rfl 31 (.tmp 4) (.tmp 24) rfl (w1.heap.size + 1) rfl (stv k ax ay fx fy u g d o) rfl _ S (by simp) state_size rfl ?_)
  intro w3 K N
  replace S := N
  replace L := L.kept K (by omega)
  replace X := X.kept K (by omega)
  replace I := Lib.hid (I.out.kept K (fun h0 g off e => by have := nA.out h0 g off e; omega))
  replace J := Lib.hid (J.out.kept K (fun h0 g off e => by have := nG.out h0 g off e; omega))
  replace H := Lib.hid (kp_below H.out K (by have := B0.out; omega))
  clear K
  go_wp2_with (refine store_new rfl 33 (.tmp 5) (.tmp 25) rfl (w1.heap.size + 1 + 1) rfl (ins s p z) rfl _ X (by simp) input_size rfl ?_)
  intro w4 K N
  replace X := N
  replace L := L.kept K (by omega)
  replace S := S.kept K (by omega)
  replace I := Lib.hid (I.out.kept K (fun h0 g off e => by have := nA.out h0 g off e; omega))
  replace J := Lib.hid (J.out.kept K (fun h0 g off e => by have := nG.out h0 g off e; omega))
  replace H := Lib.hid (kp_below H.out K (by have := B0.out; omega))
  clear K
  obtain ⟨K', X', Y', P', Q', U', V', D', O', hE⟩ : ∃ K' X' Y' P' Q' U' V' D' O', esS i t x y ws gs fp fq fs fz b k ax ay fx fy u g d o s p z = ⟨K', X', Y', P', Q', U', V', D', O'⟩ := ⟨_, _, _, _, _, _, _, _, _, rfl⟩
  have hneq := fun W => neq_state K' X' Y' P' Q' U' V' D' O' W
  have heq := fun W => eq_state K' X' Y' P' Q' U' V' D' O' W
  have hgd := state_guard
  cases ho : eoB i t x y ws gs fp fq fs fz b k ax ay fx fy u g d o s p z
  · have C1 := Lib.hid (fun (W : World) (Z : Boxes W A n ws) (Y : Boxes W G m gs) (R : Quarter W) => implEStepE i t x y A n c G m kk fp fq fs fz b ws gs k ax ay fx fy u g d o s p z (r := false) (show esS i t x y ws gs fp fq fs fz b k ax ay fx fy u g d o s p z = ⟨K', X', Y', P', Q', U', V', D', O'⟩ from hE) ho hN hM W Z Y R)
    have C2 := Lib.hid (fun (W : World) (Z : Boxes W A n ws) (Y : Boxes W G m gs) => specEStepE i t x y A n c G m kk fp fq fs fz b ws gs k ax ay fx fy u g d o s p z (r := false) (show esS i t x y ws gs fp fq fs fz b k ax ay fx fy u g d o s p z = ⟨K', X', Y', P', Q', U', V', D', O'⟩ from hE) ho hN hM W Z Y)
    clear hE ho
    obtain ⟨Lc0, Lc1, Lc2, Lc3, Lc4, Lc5, Lc6, Lc7, Lc8, Lc9, Lc10⟩ := cells11 L
    have Ll := L.lt
    obtain ⟨Sc0, Sc1, Sc2, Sc3, Sc4, Sc5, Sc6, Sc7, Sc8⟩ := cells9 S
    have Sl := S.lt
    obtain ⟨Xc0, Xc1, Xc2⟩ := cells3 X
    have Xl := X.lt
    go_wp2_with fail
    clear Lc0 Lc1 Lc2 Lc3 Lc4 Lc5 Lc6 Lc7 Lc8 Lc9 Lc10 Ll Sc0 Sc1 Sc2 Sc3 Sc4 Sc5 Sc6 Sc7 Sc8 Sl Xc0 Xc1 Xc2 Xl
    refine (C1.out _ I.out J.out (hQ.out.step H.out)).mono ?_
    rintro e w5 ⟨rfl, B⟩
    replace L := L.step B
    replace S := S.step B
    replace X := X.step B
    replace I := Lib.hid (I.out.step B)
    replace J := Lib.hid (J.out.step B)
    replace H := Lib.hid (bl_trans H.out B)
    clear B
    obtain ⟨Lc0, Lc1, Lc2, Lc3, Lc4, Lc5, Lc6, Lc7, Lc8, Lc9, Lc10⟩ := cells11 L
    have Ll := L.lt
    obtain ⟨Sc0, Sc1, Sc2, Sc3, Sc4, Sc5, Sc6, Sc7, Sc8⟩ := cells9 S
    have Sl := S.lt
    obtain ⟨Xc0, Xc1, Xc2⟩ := cells3 X
    have Xl := X.lt
    go_wp2_with fail
    clear Lc0 Lc1 Lc2 Lc3 Lc4 Lc5 Lc6 Lc7 Lc8 Lc9 Lc10 Ll Sc0 Sc1 Sc2 Sc3 Sc4 Sc5 Sc6 Sc7 Sc8 Sl Xc0 Xc1 Xc2 Xl
    replace L := L.alloc (.cells #[.int .i64 K', .int .i64 X', .int .i64 Y', .int .i64 P', .int .i64 Q', .int .i64 U', .int .i64 V', .bool D', .bool O'] 31)
    replace S := S.alloc (.cells #[.int .i64 K', .int .i64 X', .int .i64 Y', .int .i64 P', .int .i64 Q', .int .i64 U', .int .i64 V', .bool D', .bool O'] 31)
    replace X := X.alloc (.cells #[.int .i64 K', .int .i64 X', .int .i64 Y', .int .i64 P', .int .i64 Q', .int .i64 U', .int .i64 V', .bool D', .bool O'] 31)
    replace I := Lib.hid (I.out.alloc (.cells #[.int .i64 K', .int .i64 X', .int .i64 Y', .int .i64 P', .int .i64 Q', .int .i64 U', .int .i64 V', .bool D', .bool O'] 31))
    replace J := Lib.hid (J.out.alloc (.cells #[.int .i64 K', .int .i64 X', .int .i64 Y', .int .i64 P', .int .i64 Q', .int .i64 U', .int .i64 V', .bool D', .bool O'] 31))
    have O : CellsAt (w5.alloc (.cells #[.int .i64 K', .int .i64 X', .int .i64 Y', .int .i64 P', .int .i64 Q', .int .i64 U', .int .i64 V', .bool D', .bool O'] 31)) w5.heap.size (stv K' X' Y' P' Q' U' V' D' O') := CellsAt.new w5 _ _ _ rfl
    replace H := Lib.hid (bl_alloc H.out (.cells #[.int .i64 K', .int .i64 X', .int .i64 Y', .int .i64 P', .int .i64 Q', .int .i64 U', .int .i64 V', .bool D', .bool O'] 31))
    refine (C2.out _ I.out J.out).mono ?_
    rintro e w6 ⟨rfl, B⟩
    replace L := L.step B
    replace S := S.step B
    replace X := X.step B
    replace O := O.step B
    replace I := Lib.hid (I.out.step B)
    replace J := Lib.hid (J.out.step B)
    replace H := Lib.hid (bl_trans H.out B)
    clear B
    obtain ⟨Lc0, Lc1, Lc2, Lc3, Lc4, Lc5, Lc6, Lc7, Lc8, Lc9, Lc10⟩ := cells11 L
    have Ll := L.lt
    obtain ⟨Sc0, Sc1, Sc2, Sc3, Sc4, Sc5, Sc6, Sc7, Sc8⟩ := cells9 S
    have Sl := S.lt
    obtain ⟨Xc0, Xc1, Xc2⟩ := cells3 X
    have Xl := X.lt
    obtain ⟨Oc0, Oc1, Oc2, Oc3, Oc4, Oc5, Oc6, Oc7, Oc8⟩ := cells9 O
    have Ol := O.lt
    go_wp2
    go_ret
    exact ⟨rfl, bl_alloc (H.out) _⟩
  have T := tick_of ho hE
  have hkp := step_keep ho hE
  have hv1 := eo_in ho
  obtain ⟨hev, hin, _⟩ := hv1
  obtain ⟨hlv, how, hkt, hgm, hfr, hdg⟩ := (ev_iff ..).1 hev
  obtain ⟨⟨k1, k2⟩, hat, hfa, hlen, ⟨u1, u2⟩, ⟨g1, g2⟩, hdo⟩ := (own_iff ..).1 how
  obtain ⟨⟨ax1, ax2⟩, ay1, ay2⟩ := (vok_iff ax ay).1 hat
  obtain ⟨⟨fx1, fx2⟩, fy1, fy2⟩ := (vok_iff fx fy).1 hfa
  obtain ⟨⟨s1, s2⟩, ⟨p1, p2⟩, hzz⟩ := iv_bd hin
  have hwl := I.out.1
  clear hev hin hlv how hkt hgm hfr hdg hat hfa hlen hdo hzz hkp
  by_cases hn0 : 0 < n
  · have hn1 : (0 : Int) < (n : Int) := by omega
    have C1 := Lib.hid (fun (W : World) (Z : Boxes W A n ws) (Y : Boxes W G m gs) (R : Quarter W) => implEStepE i t x y A n c G m kk fp fq fs fz b ws gs k ax ay fx fy u g d o s p z (r := true) (show esS i t x y ws gs fp fq fs fz b k ax ay fx fy u g d o s p z = ⟨K', X', Y', P', Q', U', V', D', O'⟩ from hE) ho hN hM W Z Y R)
    have C2 := Lib.hid (fun (W : World) (Z : Boxes W A n ws) (Y : Boxes W G m gs) => specEStepE i t x y A n c G m kk fp fq fs fz b ws gs k ax ay fx fy u g d o s p z (r := true) (show esS i t x y ws gs fp fq fs fz b k ax ay fx fy u g d o s p z = ⟨K', X', Y', P', Q', U', V', D', O'⟩ from hE) ho hN hM W Z Y)
    clear hE ho T hwl
    obtain ⟨Lc0, Lc1, Lc2, Lc3, Lc4, Lc5, Lc6, Lc7, Lc8, Lc9, Lc10⟩ := cells11 L
    have Ll := L.lt
    obtain ⟨Sc0, Sc1, Sc2, Sc3, Sc4, Sc5, Sc6, Sc7, Sc8⟩ := cells9 S
    have Sl := S.lt
    obtain ⟨Xc0, Xc1, Xc2⟩ := cells3 X
    have Xl := X.lt
    go_wp2_with fail
    clear Lc0 Lc1 Lc2 Lc3 Lc4 Lc5 Lc6 Lc7 Lc8 Lc9 Lc10 Ll Sc0 Sc1 Sc2 Sc3 Sc4 Sc5 Sc6 Sc7 Sc8 Sl Xc0 Xc1 Xc2 Xl
    refine (C1.out _ I.out J.out (hQ.out.step H.out)).mono ?_
    rintro e w5 ⟨rfl, B⟩
    replace L := L.step B
    replace S := S.step B
    replace X := X.step B
    replace I := Lib.hid (I.out.step B)
    replace J := Lib.hid (J.out.step B)
    replace H := Lib.hid (bl_trans H.out B)
    clear B
    obtain ⟨Lc0, Lc1, Lc2, Lc3, Lc4, Lc5, Lc6, Lc7, Lc8, Lc9, Lc10⟩ := cells11 L
    have Ll := L.lt
    obtain ⟨Sc0, Sc1, Sc2, Sc3, Sc4, Sc5, Sc6, Sc7, Sc8⟩ := cells9 S
    have Sl := S.lt
    obtain ⟨Xc0, Xc1, Xc2⟩ := cells3 X
    have Xl := X.lt
    go_wp2_with fail
    clear Lc0 Lc1 Lc2 Lc3 Lc4 Lc5 Lc6 Lc7 Lc8 Lc9 Lc10 Ll Sc0 Sc1 Sc2 Sc3 Sc4 Sc5 Sc6 Sc7 Sc8 Sl Xc0 Xc1 Xc2 Xl
    replace L := L.alloc (.cells #[.int .i64 K', .int .i64 X', .int .i64 Y', .int .i64 P', .int .i64 Q', .int .i64 U', .int .i64 V', .bool D', .bool O'] 31)
    replace S := S.alloc (.cells #[.int .i64 K', .int .i64 X', .int .i64 Y', .int .i64 P', .int .i64 Q', .int .i64 U', .int .i64 V', .bool D', .bool O'] 31)
    replace X := X.alloc (.cells #[.int .i64 K', .int .i64 X', .int .i64 Y', .int .i64 P', .int .i64 Q', .int .i64 U', .int .i64 V', .bool D', .bool O'] 31)
    replace I := Lib.hid (I.out.alloc (.cells #[.int .i64 K', .int .i64 X', .int .i64 Y', .int .i64 P', .int .i64 Q', .int .i64 U', .int .i64 V', .bool D', .bool O'] 31))
    replace J := Lib.hid (J.out.alloc (.cells #[.int .i64 K', .int .i64 X', .int .i64 Y', .int .i64 P', .int .i64 Q', .int .i64 U', .int .i64 V', .bool D', .bool O'] 31))
    have O : CellsAt (w5.alloc (.cells #[.int .i64 K', .int .i64 X', .int .i64 Y', .int .i64 P', .int .i64 Q', .int .i64 U', .int .i64 V', .bool D', .bool O'] 31)) w5.heap.size (stv K' X' Y' P' Q' U' V' D' O') := CellsAt.new w5 _ _ _ rfl
    replace H := Lib.hid (bl_alloc H.out (.cells #[.int .i64 K', .int .i64 X', .int .i64 Y', .int .i64 P', .int .i64 Q', .int .i64 U', .int .i64 V', .bool D', .bool O'] 31))
    refine (C2.out _ I.out J.out).mono ?_
    rintro e w6 ⟨rfl, B⟩
    replace L := L.step B
    replace S := S.step B
    replace X := X.step B
    replace O := O.step B
    replace I := Lib.hid (I.out.step B)
    replace J := Lib.hid (J.out.step B)
    replace H := Lib.hid (bl_trans H.out B)
    clear B
    obtain ⟨Lc0, Lc1, Lc2, Lc3, Lc4, Lc5, Lc6, Lc7, Lc8, Lc9, Lc10⟩ := cells11 L
    have Ll := L.lt
    obtain ⟨Sc0, Sc1, Sc2, Sc3, Sc4, Sc5, Sc6, Sc7, Sc8⟩ := cells9 S
    have Sl := S.lt
    obtain ⟨Xc0, Xc1, Xc2⟩ := cells3 X
    have Xl := X.lt
    obtain ⟨Oc0, Oc1, Oc2, Oc3, Oc4, Oc5, Oc6, Oc7, Oc8⟩ := cells9 O
    have Ol := O.lt
    go_wp2
    go_ret
    exact ⟨rfl, bl_alloc (H.out) _⟩
  have hn1 : decide (0 < n) = false := decide_eq_false hn0
  have hn2 : decide ((0 : Int) < (n : Int)) = false := decide_eq_false (by omega)
  have hw0 : ws.length = 0 := by omega
  clear hn0 hwl T
  cases d
  rotate_left
  · have C1 := Lib.hid (fun (W : World) (Z : Boxes W A n ws) (Y : Boxes W G m gs) (R : Quarter W) => implEStepE i t x y A n c G m kk fp fq fs fz b ws gs k ax ay fx fy u g true o s p z (r := true) (show esS i t x y ws gs fp fq fs fz b k ax ay fx fy u g true o s p z = ⟨K', X', Y', P', Q', U', V', D', O'⟩ from hE) ho hN hM W Z Y R)
    have C2 := Lib.hid (fun (W : World) (Z : Boxes W A n ws) (Y : Boxes W G m gs) => specEStepE i t x y A n c G m kk fp fq fs fz b ws gs k ax ay fx fy u g true o s p z (r := true) (show esS i t x y ws gs fp fq fs fz b k ax ay fx fy u g true o s p z = ⟨K', X', Y', P', Q', U', V', D', O'⟩ from hE) ho hN hM W Z Y)
    clear hE ho
    obtain ⟨Lc0, Lc1, Lc2, Lc3, Lc4, Lc5, Lc6, Lc7, Lc8, Lc9, Lc10⟩ := cells11 L
    have Ll := L.lt
    obtain ⟨Sc0, Sc1, Sc2, Sc3, Sc4, Sc5, Sc6, Sc7, Sc8⟩ := cells9 S
    have Sl := S.lt
    obtain ⟨Xc0, Xc1, Xc2⟩ := cells3 X
    have Xl := X.lt
    go_wp2_with fail
    clear Lc0 Lc1 Lc2 Lc3 Lc4 Lc5 Lc6 Lc7 Lc8 Lc9 Lc10 Ll Sc0 Sc1 Sc2 Sc3 Sc4 Sc5 Sc6 Sc7 Sc8 Sl Xc0 Xc1 Xc2 Xl
    refine (C1.out _ I.out J.out (hQ.out.step H.out)).mono ?_
    rintro e w5 ⟨rfl, B⟩
    replace L := L.step B
    replace S := S.step B
    replace X := X.step B
    replace I := Lib.hid (I.out.step B)
    replace J := Lib.hid (J.out.step B)
    replace H := Lib.hid (bl_trans H.out B)
    clear B
    obtain ⟨Lc0, Lc1, Lc2, Lc3, Lc4, Lc5, Lc6, Lc7, Lc8, Lc9, Lc10⟩ := cells11 L
    have Ll := L.lt
    obtain ⟨Sc0, Sc1, Sc2, Sc3, Sc4, Sc5, Sc6, Sc7, Sc8⟩ := cells9 S
    have Sl := S.lt
    obtain ⟨Xc0, Xc1, Xc2⟩ := cells3 X
    have Xl := X.lt
    go_wp2_with fail
    clear Lc0 Lc1 Lc2 Lc3 Lc4 Lc5 Lc6 Lc7 Lc8 Lc9 Lc10 Ll Sc0 Sc1 Sc2 Sc3 Sc4 Sc5 Sc6 Sc7 Sc8 Sl Xc0 Xc1 Xc2 Xl
    replace L := L.alloc (.cells #[.int .i64 K', .int .i64 X', .int .i64 Y', .int .i64 P', .int .i64 Q', .int .i64 U', .int .i64 V', .bool D', .bool O'] 31)
    replace S := S.alloc (.cells #[.int .i64 K', .int .i64 X', .int .i64 Y', .int .i64 P', .int .i64 Q', .int .i64 U', .int .i64 V', .bool D', .bool O'] 31)
    replace X := X.alloc (.cells #[.int .i64 K', .int .i64 X', .int .i64 Y', .int .i64 P', .int .i64 Q', .int .i64 U', .int .i64 V', .bool D', .bool O'] 31)
    replace I := Lib.hid (I.out.alloc (.cells #[.int .i64 K', .int .i64 X', .int .i64 Y', .int .i64 P', .int .i64 Q', .int .i64 U', .int .i64 V', .bool D', .bool O'] 31))
    replace J := Lib.hid (J.out.alloc (.cells #[.int .i64 K', .int .i64 X', .int .i64 Y', .int .i64 P', .int .i64 Q', .int .i64 U', .int .i64 V', .bool D', .bool O'] 31))
    have O : CellsAt (w5.alloc (.cells #[.int .i64 K', .int .i64 X', .int .i64 Y', .int .i64 P', .int .i64 Q', .int .i64 U', .int .i64 V', .bool D', .bool O'] 31)) w5.heap.size (stv K' X' Y' P' Q' U' V' D' O') := CellsAt.new w5 _ _ _ rfl
    replace H := Lib.hid (bl_alloc H.out (.cells #[.int .i64 K', .int .i64 X', .int .i64 Y', .int .i64 P', .int .i64 Q', .int .i64 U', .int .i64 V', .bool D', .bool O'] 31))
    refine (C2.out _ I.out J.out).mono ?_
    rintro e w6 ⟨rfl, B⟩
    replace L := L.step B
    replace S := S.step B
    replace X := X.step B
    replace O := O.step B
    replace I := Lib.hid (I.out.step B)
    replace J := Lib.hid (J.out.step B)
    replace H := Lib.hid (bl_trans H.out B)
    clear B
    obtain ⟨Lc0, Lc1, Lc2, Lc3, Lc4, Lc5, Lc6, Lc7, Lc8, Lc9, Lc10⟩ := cells11 L
    have Ll := L.lt
    obtain ⟨Sc0, Sc1, Sc2, Sc3, Sc4, Sc5, Sc6, Sc7, Sc8⟩ := cells9 S
    have Sl := S.lt
    obtain ⟨Xc0, Xc1, Xc2⟩ := cells3 X
    have Xl := X.lt
    obtain ⟨Oc0, Oc1, Oc2, Oc3, Oc4, Oc5, Oc6, Oc7, Oc8⟩ := cells9 O
    have Ol := O.lt
    go_wp2
    go_ret
    exact ⟨rfl, bl_alloc (H.out) _⟩
  cases o
  rotate_left
  · have C1 := Lib.hid (fun (W : World) (Z : Boxes W A n ws) (Y : Boxes W G m gs) (R : Quarter W) => implEStepE i t x y A n c G m kk fp fq fs fz b ws gs k ax ay fx fy u g false true s p z (r := true) (show esS i t x y ws gs fp fq fs fz b k ax ay fx fy u g false true s p z = ⟨K', X', Y', P', Q', U', V', D', O'⟩ from hE) ho hN hM W Z Y R)
    have C2 := Lib.hid (fun (W : World) (Z : Boxes W A n ws) (Y : Boxes W G m gs) => specEStepE i t x y A n c G m kk fp fq fs fz b ws gs k ax ay fx fy u g false true s p z (r := true) (show esS i t x y ws gs fp fq fs fz b k ax ay fx fy u g false true s p z = ⟨K', X', Y', P', Q', U', V', D', O'⟩ from hE) ho hN hM W Z Y)
    clear hE ho
    obtain ⟨Lc0, Lc1, Lc2, Lc3, Lc4, Lc5, Lc6, Lc7, Lc8, Lc9, Lc10⟩ := cells11 L
    have Ll := L.lt
    obtain ⟨Sc0, Sc1, Sc2, Sc3, Sc4, Sc5, Sc6, Sc7, Sc8⟩ := cells9 S
    have Sl := S.lt
    obtain ⟨Xc0, Xc1, Xc2⟩ := cells3 X
    have Xl := X.lt
    go_wp2_with fail
    clear Lc0 Lc1 Lc2 Lc3 Lc4 Lc5 Lc6 Lc7 Lc8 Lc9 Lc10 Ll Sc0 Sc1 Sc2 Sc3 Sc4 Sc5 Sc6 Sc7 Sc8 Sl Xc0 Xc1 Xc2 Xl
    refine (C1.out _ I.out J.out (hQ.out.step H.out)).mono ?_
    rintro e w5 ⟨rfl, B⟩
    replace L := L.step B
    replace S := S.step B
    replace X := X.step B
    replace I := Lib.hid (I.out.step B)
    replace J := Lib.hid (J.out.step B)
    replace H := Lib.hid (bl_trans H.out B)
    clear B
    obtain ⟨Lc0, Lc1, Lc2, Lc3, Lc4, Lc5, Lc6, Lc7, Lc8, Lc9, Lc10⟩ := cells11 L
    have Ll := L.lt
    obtain ⟨Sc0, Sc1, Sc2, Sc3, Sc4, Sc5, Sc6, Sc7, Sc8⟩ := cells9 S
    have Sl := S.lt
    obtain ⟨Xc0, Xc1, Xc2⟩ := cells3 X
    have Xl := X.lt
    go_wp2_with fail
    clear Lc0 Lc1 Lc2 Lc3 Lc4 Lc5 Lc6 Lc7 Lc8 Lc9 Lc10 Ll Sc0 Sc1 Sc2 Sc3 Sc4 Sc5 Sc6 Sc7 Sc8 Sl Xc0 Xc1 Xc2 Xl
    replace L := L.alloc (.cells #[.int .i64 K', .int .i64 X', .int .i64 Y', .int .i64 P', .int .i64 Q', .int .i64 U', .int .i64 V', .bool D', .bool O'] 31)
    replace S := S.alloc (.cells #[.int .i64 K', .int .i64 X', .int .i64 Y', .int .i64 P', .int .i64 Q', .int .i64 U', .int .i64 V', .bool D', .bool O'] 31)
    replace X := X.alloc (.cells #[.int .i64 K', .int .i64 X', .int .i64 Y', .int .i64 P', .int .i64 Q', .int .i64 U', .int .i64 V', .bool D', .bool O'] 31)
    replace I := Lib.hid (I.out.alloc (.cells #[.int .i64 K', .int .i64 X', .int .i64 Y', .int .i64 P', .int .i64 Q', .int .i64 U', .int .i64 V', .bool D', .bool O'] 31))
    replace J := Lib.hid (J.out.alloc (.cells #[.int .i64 K', .int .i64 X', .int .i64 Y', .int .i64 P', .int .i64 Q', .int .i64 U', .int .i64 V', .bool D', .bool O'] 31))
    have O : CellsAt (w5.alloc (.cells #[.int .i64 K', .int .i64 X', .int .i64 Y', .int .i64 P', .int .i64 Q', .int .i64 U', .int .i64 V', .bool D', .bool O'] 31)) w5.heap.size (stv K' X' Y' P' Q' U' V' D' O') := CellsAt.new w5 _ _ _ rfl
    replace H := Lib.hid (bl_alloc H.out (.cells #[.int .i64 K', .int .i64 X', .int .i64 Y', .int .i64 P', .int .i64 Q', .int .i64 U', .int .i64 V', .bool D', .bool O'] 31))
    refine (C2.out _ I.out J.out).mono ?_
    rintro e w6 ⟨rfl, B⟩
    replace L := L.step B
    replace S := S.step B
    replace X := X.step B
    replace O := O.step B
    replace I := Lib.hid (I.out.step B)
    replace J := Lib.hid (J.out.step B)
    replace H := Lib.hid (bl_trans H.out B)
    clear B
    obtain ⟨Lc0, Lc1, Lc2, Lc3, Lc4, Lc5, Lc6, Lc7, Lc8, Lc9, Lc10⟩ := cells11 L
    have Ll := L.lt
    obtain ⟨Sc0, Sc1, Sc2, Sc3, Sc4, Sc5, Sc6, Sc7, Sc8⟩ := cells9 S
    have Sl := S.lt
    obtain ⟨Xc0, Xc1, Xc2⟩ := cells3 X
    have Xl := X.lt
    obtain ⟨Oc0, Oc1, Oc2, Oc3, Oc4, Oc5, Oc6, Oc7, Oc8⟩ := cells9 O
    have Ol := O.lt
    go_wp2
    go_ret
    exact ⟨rfl, bl_alloc (H.out) _⟩
  have ho3 := push_go ho
  obtain ⟨K3, X3, Y3, P3, Q3, U3, V3, D3, O3, hE3⟩ : ∃ K3 X3 Y3 P3 Q3 U3 V3 D3 O3, esS i t x y ws gs fp fq fs fz b k ax ay 0 0 u g false false 0 1 false = ⟨K3, X3, Y3, P3, Q3, U3, V3, D3, O3⟩ := ⟨_, _, _, _, _, _, _, _, _, rfl⟩
  have T3 := tick_of ho3 hE3
  have C1 := Lib.hid (fun (W : World) (Z : Boxes W A n ws) (Y : Boxes W G m gs) (R : Quarter W) => implEStepE i t x y A n c G m kk fp fq fs fz b ws gs k ax ay fx fy u g false false s p z (r := true) (show esS i t x y ws gs fp fq fs fz b k ax ay fx fy u g false false s p z = ⟨K', X', Y', P', Q', U', V', D', O'⟩ from hE) ho hN hM W Z Y R)
  have C2 := Lib.hid (fun (W : World) (Z : Boxes W A n ws) (Y : Boxes W G m gs) => specEStepE i t x y A n c G m kk fp fq fs fz b ws gs k ax ay fx fy u g false false s p z (r := true) (show esS i t x y ws gs fp fq fs fz b k ax ay fx fy u g false false s p z = ⟨K', X', Y', P', Q', U', V', D', O'⟩ from hE) ho hN hM W Z Y)
  have C3 := Lib.hid (fun (W : World) (Z : Boxes W A n ws) (Y : Boxes W G m gs) (R : Quarter W) => implEStepE i t x y A n c G m kk fp fq fs fz b ws gs k ax ay 0 0 u g false false 0 1 false (r := true) (show esS i t x y ws gs fp fq fs fz b k ax ay 0 0 u g false false 0 1 false = ⟨K3, X3, Y3, P3, Q3, U3, V3, D3, O3⟩ from hE3) ho3 hN hM W Z Y R)
  have C4 := fun (W : World) (Z : Quarter W) => implVDir u W Z
  rw [inB_yes (show 0 ≤ u ∧ u ≤ 15 from ⟨u1, u2⟩)] at C4
  have C5 := fun W => implVScale (dirX u) (dirY u) 200 W
  obtain ⟨r1, r2, r3⟩ := vs_push u1 u2
  rw [r1, r2, r3] at C5
  have hev := fun W => eq_vec P3 Q3 (mu (dirX u) 200) (mu (dirY u) 200) W
  have hgv := vec_guard
  clear r1 r2 r3 hE hE3 ho ho3
  have hpi := push_is T3 hw0 rfl
  clear T3 hw0
  have hpi := Lib.hid hpi
  obtain ⟨Lc0, Lc1, Lc2, Lc3, Lc4, Lc5, Lc6, Lc7, Lc8, Lc9, Lc10⟩ := cells11 L
  have Ll := L.lt
  obtain ⟨Sc0, Sc1, Sc2, Sc3, Sc4, Sc5, Sc6, Sc7, Sc8⟩ := cells9 S
  have Sl := S.lt
  obtain ⟨Xc0, Xc1, Xc2⟩ := cells3 X
  have Xl := X.lt
  go_wp2_with fail
  clear Lc0 Lc1 Lc2 Lc3 Lc4 Lc5 Lc6 Lc7 Lc8 Lc9 Lc10 Ll Sc0 Sc1 Sc2 Sc3 Sc4 Sc5 Sc6 Sc7 Sc8 Sl Xc0 Xc1 Xc2 Xl
  refine (C1.out _ I.out J.out (hQ.out.step H.out)).mono ?_
  rintro e w5 ⟨rfl, B⟩
  replace L := L.step B
  replace S := S.step B
  replace X := X.step B
  replace I := Lib.hid (I.out.step B)
  replace J := Lib.hid (J.out.step B)
  replace H := Lib.hid (bl_trans H.out B)
  clear B
  obtain ⟨Lc0, Lc1, Lc2, Lc3, Lc4, Lc5, Lc6, Lc7, Lc8, Lc9, Lc10⟩ := cells11 L
  have Ll := L.lt
  obtain ⟨Sc0, Sc1, Sc2, Sc3, Sc4, Sc5, Sc6, Sc7, Sc8⟩ := cells9 S
  have Sl := S.lt
  obtain ⟨Xc0, Xc1, Xc2⟩ := cells3 X
  have Xl := X.lt
  go_wp2_with fail
  clear Lc0 Lc1 Lc2 Lc3 Lc4 Lc5 Lc6 Lc7 Lc8 Lc9 Lc10 Ll Sc0 Sc1 Sc2 Sc3 Sc4 Sc5 Sc6 Sc7 Sc8 Sl Xc0 Xc1 Xc2 Xl
  replace L := L.alloc (.cells #[.int .i64 K', .int .i64 X', .int .i64 Y', .int .i64 P', .int .i64 Q', .int .i64 U', .int .i64 V', .bool D', .bool O'] 31)
  replace S := S.alloc (.cells #[.int .i64 K', .int .i64 X', .int .i64 Y', .int .i64 P', .int .i64 Q', .int .i64 U', .int .i64 V', .bool D', .bool O'] 31)
  replace X := X.alloc (.cells #[.int .i64 K', .int .i64 X', .int .i64 Y', .int .i64 P', .int .i64 Q', .int .i64 U', .int .i64 V', .bool D', .bool O'] 31)
  replace I := Lib.hid (I.out.alloc (.cells #[.int .i64 K', .int .i64 X', .int .i64 Y', .int .i64 P', .int .i64 Q', .int .i64 U', .int .i64 V', .bool D', .bool O'] 31))
  replace J := Lib.hid (J.out.alloc (.cells #[.int .i64 K', .int .i64 X', .int .i64 Y', .int .i64 P', .int .i64 Q', .int .i64 U', .int .i64 V', .bool D', .bool O'] 31))
  have O : CellsAt (w5.alloc (.cells #[.int .i64 K', .int .i64 X', .int .i64 Y', .int .i64 P', .int .i64 Q', .int .i64 U', .int .i64 V', .bool D', .bool O'] 31)) w5.heap.size (stv K' X' Y' P' Q' U' V' D' O') := CellsAt.new w5 _ _ _ rfl
  replace H := Lib.hid (bl_alloc H.out (.cells #[.int .i64 K', .int .i64 X', .int .i64 Y', .int .i64 P', .int .i64 Q', .int .i64 U', .int .i64 V', .bool D', .bool O'] 31))
  refine (C2.out _ I.out J.out).mono ?_
  rintro e w6 ⟨rfl, B⟩
  replace L := L.step B
  replace S := S.step B
  replace X := X.step B
  replace O := O.step B
  replace I := Lib.hid (I.out.step B)
  replace J := Lib.hid (J.out.step B)
  replace H := Lib.hid (bl_trans H.out B)
  clear B
  obtain ⟨Lc0, Lc1, Lc2, Lc3, Lc4, Lc5, Lc6, Lc7, Lc8, Lc9, Lc10⟩ := cells11 L
  have Ll := L.lt
  obtain ⟨Sc0, Sc1, Sc2, Sc3, Sc4, Sc5, Sc6, Sc7, Sc8⟩ := cells9 S
  have Sl := S.lt
  obtain ⟨Xc0, Xc1, Xc2⟩ := cells3 X
  have Xl := X.lt
  obtain ⟨Oc0, Oc1, Oc2, Oc3, Oc4, Oc5, Oc6, Oc7, Oc8⟩ := cells9 O
  have Ol := O.lt
  go_upto_region 10 with fail
  clear Lc0 Lc1 Lc2 Lc3 Lc4 Lc5 Lc6 Lc7 Lc8 Lc9 Lc10 Ll Sc0 Sc1 Sc2 Sc3 Sc4 Sc5 Sc6 Sc7 Sc8 Sl Xc0 Xc1 Xc2 Xl Oc0 Oc1 Oc2 Oc3 Oc4 Oc5 Oc6 Oc7 Oc8 Ol
  refine wp_letter (fun W' => CellsAt W' w1.heap.size (lvs i t x y A n c G m kk fp fq fs fz b) ∧ CellsAt W' (w1.heap.size + 1) (stv k ax ay fx fy u g false false) ∧ CellsAt W' (w6.heap.size + 1) (stv k ax ay 0 0 u g false false) ∧ Boxes W' A n ws ∧ Boxes W' G m gs ∧ Below w.heap.size w W') ⟨(L.alloc _).alloc _, (S.alloc _).alloc _, CellsAt.new _ _ _ _ (by simp), (I.out.alloc _).alloc _, (J.out.alloc _).alloc _, bl_alloc (bl_alloc H.out _) _⟩ ?_
  clear L S X O H I J C1 C2
  rintro w9 ⟨L, S, T4, I, J, H⟩
  replace H := Lib.hid H
  replace I := Lib.hid I
  replace J := Lib.hid J
  cases O3
  · obtain ⟨e1, e2⟩ := hpi.out rfl u1 u2
    rw [e1, e2] at hev
    subst e1 e2
    generalize mu (dirX u) 200 = m1 at *
    generalize mu (dirY u) 200 = m2 at *
    generalize dirX u = d1 at *
    generalize dirY u = d2 at *
    replace C4 := Lib.hid C4
    replace C5 := Lib.hid C5
    have b1 : (m1 == m1) = true := beq_self_eq_true _
    have b2 : (m2 == m2) = true := beq_self_eq_true _
    obtain ⟨Lc0, Lc1, Lc2, Lc3, Lc4, Lc5, Lc6, Lc7, Lc8, Lc9, Lc10⟩ := cells11 L
    have Ll := L.lt
    obtain ⟨Sc0, Sc1, Sc2, Sc3, Sc4, Sc5, Sc6, Sc7, Sc8⟩ := cells9 S
    have Sl := S.lt
    obtain ⟨T4c0, T4c1, T4c2, T4c3, T4c4, T4c5, T4c6, T4c7, T4c8⟩ := cells9 T4
    have T4l := T4.lt
    go_wp2_with fail
    clear Lc0 Lc1 Lc2 Lc3 Lc4 Lc5 Lc6 Lc7 Lc8 Lc9 Lc10 Ll Sc0 Sc1 Sc2 Sc3 Sc4 Sc5 Sc6 Sc7 Sc8 Sl T4c0 T4c1 T4c2 T4c3 T4c4 T4c5 T4c6 T4c7 T4c8 T4l
    refine (C3.out _ I.out J.out (hQ.out.step H.out)).mono ?_
    rintro e w10 ⟨rfl, B⟩
    replace L := L.step B
    replace S := S.step B
    replace T4 := T4.step B
    replace I := Lib.hid (I.out.step B)
    replace J := Lib.hid (J.out.step B)
    replace H := Lib.hid (bl_trans H.out B)
    clear B
    obtain ⟨Lc0, Lc1, Lc2, Lc3, Lc4, Lc5, Lc6, Lc7, Lc8, Lc9, Lc10⟩ := cells11 L
    have Ll := L.lt
    obtain ⟨Sc0, Sc1, Sc2, Sc3, Sc4, Sc5, Sc6, Sc7, Sc8⟩ := cells9 S
    have Sl := S.lt
    obtain ⟨T4c0, T4c1, T4c2, T4c3, T4c4, T4c5, T4c6, T4c7, T4c8⟩ := cells9 T4
    have T4l := T4.lt
    go_wp2_with fail
    clear Lc0 Lc1 Lc2 Lc3 Lc4 Lc5 Lc6 Lc7 Lc8 Lc9 Lc10 Ll Sc0 Sc1 Sc2 Sc3 Sc4 Sc5 Sc6 Sc7 Sc8 Sl T4c0 T4c1 T4c2 T4c3 T4c4 T4c5 T4c6 T4c7 T4c8 T4l
    replace L := L.alloc (.cells #[.int .i64 K3, .int .i64 X3, .int .i64 Y3, .int .i64 m1, .int .i64 m2, .int .i64 U3, .int .i64 V3, .bool D3, .bool false] 31)
    replace S := S.alloc (.cells #[.int .i64 K3, .int .i64 X3, .int .i64 Y3, .int .i64 m1, .int .i64 m2, .int .i64 U3, .int .i64 V3, .bool D3, .bool false] 31)
    replace T4 := T4.alloc (.cells #[.int .i64 K3, .int .i64 X3, .int .i64 Y3, .int .i64 m1, .int .i64 m2, .int .i64 U3, .int .i64 V3, .bool D3, .bool false] 31)
    replace I := Lib.hid (I.out.alloc (.cells #[.int .i64 K3, .int .i64 X3, .int .i64 Y3, .int .i64 m1, .int .i64 m2, .int .i64 U3, .int .i64 V3, .bool D3, .bool false] 31))
    replace J := Lib.hid (J.out.alloc (.cells #[.int .i64 K3, .int .i64 X3, .int .i64 Y3, .int .i64 m1, .int .i64 m2, .int .i64 U3, .int .i64 V3, .bool D3, .bool false] 31))
    have Y4 : CellsAt (w10.alloc (.cells #[.int .i64 K3, .int .i64 X3, .int .i64 Y3, .int .i64 m1, .int .i64 m2, .int .i64 U3, .int .i64 V3, .bool D3, .bool false] 31)) w10.heap.size (stv K3 X3 Y3 m1 m2 U3 V3 D3 false) := CellsAt.new w10 _ _ _ rfl
    replace H := Lib.hid (bl_alloc H.out (.cells #[.int .i64 K3, .int .i64 X3, .int .i64 Y3, .int .i64 m1, .int .i64 m2, .int .i64 U3, .int .i64 V3, .bool D3, .bool false] 31))
    refine (C4.out _ (hQ.out.step H.out)).mono ?_
    rintro e w11 ⟨rfl, B⟩
    replace L := L.step B
    replace S := S.step B
    replace T4 := T4.step B
    replace Y4 := Y4.step B
    replace I := Lib.hid (I.out.step B)
    replace J := Lib.hid (J.out.step B)
    replace H := Lib.hid (bl_trans H.out B)
    clear B
    obtain ⟨Lc0, Lc1, Lc2, Lc3, Lc4, Lc5, Lc6, Lc7, Lc8, Lc9, Lc10⟩ := cells11 L
    have Ll := L.lt
    obtain ⟨Sc0, Sc1, Sc2, Sc3, Sc4, Sc5, Sc6, Sc7, Sc8⟩ := cells9 S
    have Sl := S.lt
    obtain ⟨T4c0, T4c1, T4c2, T4c3, T4c4, T4c5, T4c6, T4c7, T4c8⟩ := cells9 T4
    have T4l := T4.lt
    obtain ⟨Y4c0, Y4c1, Y4c2, Y4c3, Y4c4, Y4c5, Y4c6, Y4c7, Y4c8⟩ := cells9 Y4
    have Y4l := Y4.lt
    go_wp2_with fail
    clear Lc0 Lc1 Lc2 Lc3 Lc4 Lc5 Lc6 Lc7 Lc8 Lc9 Lc10 Ll Sc0 Sc1 Sc2 Sc3 Sc4 Sc5 Sc6 Sc7 Sc8 Sl T4c0 T4c1 T4c2 T4c3 T4c4 T4c5 T4c6 T4c7 T4c8 T4l Y4c0 Y4c1 Y4c2 Y4c3 Y4c4 Y4c5 Y4c6 Y4c7 Y4c8 Y4l
    replace L := L.alloc (.cells #[.int .i64 d1, .int .i64 d2] 24)
    replace S := S.alloc (.cells #[.int .i64 d1, .int .i64 d2] 24)
    replace T4 := T4.alloc (.cells #[.int .i64 d1, .int .i64 d2] 24)
    replace Y4 := Y4.alloc (.cells #[.int .i64 d1, .int .i64 d2] 24)
    replace I := Lib.hid (I.out.alloc (.cells #[.int .i64 d1, .int .i64 d2] 24))
    replace J := Lib.hid (J.out.alloc (.cells #[.int .i64 d1, .int .i64 d2] 24))
    have D4 : CellsAt (w11.alloc (.cells #[.int .i64 d1, .int .i64 d2] 24)) w11.heap.size ([.int .i64 d1, .int .i64 d2]) := CellsAt.new w11 _ _ _ rfl
    replace H := Lib.hid (bl_alloc H.out (.cells #[.int .i64 d1, .int .i64 d2] 24))
    refine (C5.out _).mono ?_
    rintro e w12 ⟨rfl, B⟩
    replace L := L.step B
    replace S := S.step B
    replace T4 := T4.step B
    replace Y4 := Y4.step B
    replace D4 := D4.step B
    replace I := Lib.hid (I.out.step B)
    replace J := Lib.hid (J.out.step B)
    replace H := Lib.hid (bl_trans H.out B)
    clear B
    obtain ⟨Lc0, Lc1, Lc2, Lc3, Lc4, Lc5, Lc6, Lc7, Lc8, Lc9, Lc10⟩ := cells11 L
    have Ll := L.lt
    obtain ⟨Sc0, Sc1, Sc2, Sc3, Sc4, Sc5, Sc6, Sc7, Sc8⟩ := cells9 S
    have Sl := S.lt
    obtain ⟨T4c0, T4c1, T4c2, T4c3, T4c4, T4c5, T4c6, T4c7, T4c8⟩ := cells9 T4
    have T4l := T4.lt
    obtain ⟨Y4c0, Y4c1, Y4c2, Y4c3, Y4c4, Y4c5, Y4c6, Y4c7, Y4c8⟩ := cells9 Y4
    have Y4l := Y4.lt
    obtain ⟨D4c0, D4c1⟩ := cells2 D4
    have D4l := D4.lt
    go_wp2
    go_ret
    exact ⟨rfl, bl_alloc H.out _⟩
  clear hpi
  generalize mu (dirX u) 200 = m1 at *
  generalize mu (dirY u) 200 = m2 at *
  generalize dirX u = d1 at *
  generalize dirY u = d2 at *
  replace C4 := Lib.hid C4
  replace C5 := Lib.hid C5
  obtain ⟨Lc0, Lc1, Lc2, Lc3, Lc4, Lc5, Lc6, Lc7, Lc8, Lc9, Lc10⟩ := cells11 L
  have Ll := L.lt
  obtain ⟨Sc0, Sc1, Sc2, Sc3, Sc4, Sc5, Sc6, Sc7, Sc8⟩ := cells9 S
  have Sl := S.lt
  obtain ⟨T4c0, T4c1, T4c2, T4c3, T4c4, T4c5, T4c6, T4c7, T4c8⟩ := cells9 T4
  have T4l := T4.lt
  go_wp2_with fail
  clear Lc0 Lc1 Lc2 Lc3 Lc4 Lc5 Lc6 Lc7 Lc8 Lc9 Lc10 Ll Sc0 Sc1 Sc2 Sc3 Sc4 Sc5 Sc6 Sc7 Sc8 Sl T4c0 T4c1 T4c2 T4c3 T4c4 T4c5 T4c6 T4c7 T4c8 T4l
  refine (C3.out _ I.out J.out (hQ.out.step H.out)).mono ?_
  rintro e w10 ⟨rfl, B⟩
  replace L := L.step B
  replace S := S.step B
  replace T4 := T4.step B
  replace I := Lib.hid (I.out.step B)
  replace J := Lib.hid (J.out.step B)
  replace H := Lib.hid (bl_trans H.out B)
  clear B
  obtain ⟨Lc0, Lc1, Lc2, Lc3, Lc4, Lc5, Lc6, Lc7, Lc8, Lc9, Lc10⟩ := cells11 L
  have Ll := L.lt
  obtain ⟨Sc0, Sc1, Sc2, Sc3, Sc4, Sc5, Sc6, Sc7, Sc8⟩ := cells9 S
  have Sl := S.lt
  obtain ⟨T4c0, T4c1, T4c2, T4c3, T4c4, T4c5, T4c6, T4c7, T4c8⟩ := cells9 T4
  have T4l := T4.lt
  go_wp2_with fail
  clear Lc0 Lc1 Lc2 Lc3 Lc4 Lc5 Lc6 Lc7 Lc8 Lc9 Lc10 Ll Sc0 Sc1 Sc2 Sc3 Sc4 Sc5 Sc6 Sc7 Sc8 Sl T4c0 T4c1 T4c2 T4c3 T4c4 T4c5 T4c6 T4c7 T4c8 T4l
  replace L := L.alloc (.cells #[.int .i64 K3, .int .i64 X3, .int .i64 Y3, .int .i64 P3, .int .i64 Q3, .int .i64 U3, .int .i64 V3, .bool D3, .bool true] 31)
  replace S := S.alloc (.cells #[.int .i64 K3, .int .i64 X3, .int .i64 Y3, .int .i64 P3, .int .i64 Q3, .int .i64 U3, .int .i64 V3, .bool D3, .bool true] 31)
  replace T4 := T4.alloc (.cells #[.int .i64 K3, .int .i64 X3, .int .i64 Y3, .int .i64 P3, .int .i64 Q3, .int .i64 U3, .int .i64 V3, .bool D3, .bool true] 31)
  replace I := Lib.hid (I.out.alloc (.cells #[.int .i64 K3, .int .i64 X3, .int .i64 Y3, .int .i64 P3, .int .i64 Q3, .int .i64 U3, .int .i64 V3, .bool D3, .bool true] 31))
  replace J := Lib.hid (J.out.alloc (.cells #[.int .i64 K3, .int .i64 X3, .int .i64 Y3, .int .i64 P3, .int .i64 Q3, .int .i64 U3, .int .i64 V3, .bool D3, .bool true] 31))
  have Y4 : CellsAt (w10.alloc (.cells #[.int .i64 K3, .int .i64 X3, .int .i64 Y3, .int .i64 P3, .int .i64 Q3, .int .i64 U3, .int .i64 V3, .bool D3, .bool true] 31)) w10.heap.size (stv K3 X3 Y3 P3 Q3 U3 V3 D3 true) := CellsAt.new w10 _ _ _ rfl
  replace H := Lib.hid (bl_alloc H.out (.cells #[.int .i64 K3, .int .i64 X3, .int .i64 Y3, .int .i64 P3, .int .i64 Q3, .int .i64 U3, .int .i64 V3, .bool D3, .bool true] 31))
  refine (C4.out _ (hQ.out.step H.out)).mono ?_
  rintro e w11 ⟨rfl, B⟩
  replace L := L.step B
  replace S := S.step B
  replace T4 := T4.step B
  replace Y4 := Y4.step B
  replace I := Lib.hid (I.out.step B)
  replace J := Lib.hid (J.out.step B)
  replace H := Lib.hid (bl_trans H.out B)
  clear B
  obtain ⟨Lc0, Lc1, Lc2, Lc3, Lc4, Lc5, Lc6, Lc7, Lc8, Lc9, Lc10⟩ := cells11 L
  have Ll := L.lt
  obtain ⟨Sc0, Sc1, Sc2, Sc3, Sc4, Sc5, Sc6, Sc7, Sc8⟩ := cells9 S
  have Sl := S.lt
  obtain ⟨T4c0, T4c1, T4c2, T4c3, T4c4, T4c5, T4c6, T4c7, T4c8⟩ := cells9 T4
  have T4l := T4.lt
  obtain ⟨Y4c0, Y4c1, Y4c2, Y4c3, Y4c4, Y4c5, Y4c6, Y4c7, Y4c8⟩ := cells9 Y4
  have Y4l := Y4.lt
  go_wp2_with fail
  clear Lc0 Lc1 Lc2 Lc3 Lc4 Lc5 Lc6 Lc7 Lc8 Lc9 Lc10 Ll Sc0 Sc1 Sc2 Sc3 Sc4 Sc5 Sc6 Sc7 Sc8 Sl T4c0 T4c1 T4c2 T4c3 T4c4 T4c5 T4c6 T4c7 T4c8 T4l Y4c0 Y4c1 Y4c2 Y4c3 Y4c4 Y4c5 Y4c6 Y4c7 Y4c8 Y4l
  replace L := L.alloc (.cells #[.int .i64 d1, .int .i64 d2] 24)
  replace S := S.alloc (.cells #[.int .i64 d1, .int .i64 d2] 24)
  replace T4 := T4.alloc (.cells #[.int .i64 d1, .int .i64 d2] 24)
  replace Y4 := Y4.alloc (.cells #[.int .i64 d1, .int .i64 d2] 24)
  replace I := Lib.hid (I.out.alloc (.cells #[.int .i64 d1, .int .i64 d2] 24))
  replace J := Lib.hid (J.out.alloc (.cells #[.int .i64 d1, .int .i64 d2] 24))
  have D4 : CellsAt (w11.alloc (.cells #[.int .i64 d1, .int .i64 d2] 24)) w11.heap.size ([.int .i64 d1, .int .i64 d2]) := CellsAt.new w11 _ _ _ rfl
  replace H := Lib.hid (bl_alloc H.out (.cells #[.int .i64 d1, .int .i64 d2] 24))
  refine (C5.out _).mono ?_
  rintro e w12 ⟨rfl, B⟩
  replace L := L.step B
  replace S := S.step B
  replace T4 := T4.step B
  replace Y4 := Y4.step B
  replace D4 := D4.step B
  replace I := Lib.hid (I.out.step B)
  replace J := Lib.hid (J.out.step B)
  replace H := Lib.hid (bl_trans H.out B)
  clear B
  obtain ⟨Lc0, Lc1, Lc2, Lc3, Lc4, Lc5, Lc6, Lc7, Lc8, Lc9, Lc10⟩ := cells11 L
  have Ll := L.lt
  obtain ⟨Sc0, Sc1, Sc2, Sc3, Sc4, Sc5, Sc6, Sc7, Sc8⟩ := cells9 S
  have Sl := S.lt
  obtain ⟨T4c0, T4c1, T4c2, T4c3, T4c4, T4c5, T4c6, T4c7, T4c8⟩ := cells9 T4
  have T4l := T4.lt
  obtain ⟨Y4c0, Y4c1, Y4c2, Y4c3, Y4c4, Y4c5, Y4c6, Y4c7, Y4c8⟩ := cells9 Y4
  have Y4l := Y4.lt
  obtain ⟨D4c0, D4c1⟩ := cells2 D4
  have D4l := D4.lt
  go_wp2
  go_ret
  exact ⟨rfl, bl_alloc H.out _⟩

end Go.Proofs.YtnoenjociioffaaDoor
