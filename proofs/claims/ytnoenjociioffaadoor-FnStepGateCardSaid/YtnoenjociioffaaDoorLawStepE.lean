/-
  The walks of FnStepGate, FnStepDone.
-/
import Derived.Test.YtnoenjociioffaaDoorStepW
import Derived.Test.YtnoenjociioffaaDoorBoxP
import Derived.Test.YtnoenjociioffaaDoorEngA
import Derived.Deep.Cut
namespace Go.Proofs.YtnoenjociioffaaDoor
open Go.RowKit
open M

set_option maxRecDepth 100000 in
set_option maxHeartbeats 4000000 in
theorem walk_FnStepGate (a : Option Addr) (len cap : Nat) (zs : List Int) (w : World) (h : IsRow .u8 w a len cap zs) (hQ : Quarter w) :
    Calls Tryd.prog 9 #[.slice a len cap] w fun e w' => e = .returned (.bool true) ∧ Below w.heap.size w w' := by
  have hm := h.bytes.1
  have hm2 := h.bytes.2.1
  unfold maxLen at hm2
  have hQ := Lib.hid hQ
  by_cases g9 : 1048576 < len
  · have g1 : (1048576 : Int) < (len : Int) := by omega
    go_enter Tryd.func9, Tryd.ntmps9
    go_wp2
    go_ret
    exact ⟨rfl, Below.refl _ _⟩
  have g1 : ¬ (1048576 : Int) < (len : Int) := by omega
  have g1d : decide ((1048576 : Int) < (len : Int)) = false := decide_eq_false g1
  have g2d : decide (1048576 < len) = false := decide_eq_false (by omega)
  clear g1 g9
  go_enter Tryd.func9, Tryd.ntmps9
  go_wp2_with fail
  refine (draw_estep a len cap zs w h).mono ?_
  rintro e w1 ⟨i, t, x, y, A, n, c, G, m, kk, fp, fq, fs, fz, b, ws, gs, k, ax, ay, fx, fy, u, g, d, o, s, p, z, rfl, hn, hm, I, J, B⟩
  have L : CellsAt (((w1.alloc (.cells #[.int .i64 0, .int .i64 0, .int .i64 0, .int .i64 0, .slice none 0 0, .slice none 0 0, .int .i64 0, .int .i64 0, .int .i64 0, .int .i64 0, .int .i64 0] 29)).alloc (.cells #[.int .i64 0, .int .i64 0, .int .i64 0, .int .i64 0, .int .i64 0, .int .i64 0, .int .i64 0, .bool false, .bool false] 31)).alloc (.cells #[.int .i64 0, .int .i64 0, .bool false] 33)) w1.heap.size (lvs 0 0 0 0 none 0 0 none 0 0 0 0 0 0 0) := ((CellsAt.new _ _ _ _ rfl).alloc _).alloc _
  have S : CellsAt (((w1.alloc (.cells #[.int .i64 0, .int .i64 0, .int .i64 0, .int .i64 0, .slice none 0 0, .slice none 0 0, .int .i64 0, .int .i64 0, .int .i64 0, .int .i64 0, .int .i64 0] 29)).alloc (.cells #[.int .i64 0, .int .i64 0, .int .i64 0, .int .i64 0, .int .i64 0, .int .i64 0, .int .i64 0, .bool false, .bool false] 31)).alloc (.cells #[.int .i64 0, .int .i64 0, .bool false] 33)) (w1.heap.size + 1) (stv 0 0 0 0 0 0 0 false false) := (CellsAt.new _ _ _ _ (by simp)).alloc _
  have X : CellsAt (((w1.alloc (.cells #[.int .i64 0, .int .i64 0, .int .i64 0, .int .i64 0, .slice none 0 0, .slice none 0 0, .int .i64 0, .int .i64 0, .int .i64 0, .int .i64 0, .int .i64 0] 29)).alloc (.cells #[.int .i64 0, .int .i64 0, .int .i64 0, .int .i64 0, .int .i64 0, .int .i64 0, .int .i64 0, .bool false, .bool false] 31)).alloc (.cells #[.int .i64 0, .int .i64 0, .bool false] 33)) (w1.heap.size + 1 + 1) (ins 0 0 false) := CellsAt.new _ _ _ _ (by simp)
  have nA := Lib.hid (show 0 < n → ∀ g off, A = some ⟨g, off, none⟩ → g < w1.heap.size from fun h0 g off e => lt_of_boxes I h0 e)
  have nG := Lib.hid (show 0 < m → ∀ g off, G = some ⟨g, off, none⟩ → g < w1.heap.size from fun h0 g off e => lt_of_boxes J h0 e)
  replace I := Lib.hid (((I.alloc (.cells #[.int .i64 0, .int .i64 0, .int .i64 0, .int .i64 0, .slice none 0 0, .slice none 0 0, .int .i64 0, .int .i64 0, .int .i64 0, .int .i64 0, .int .i64 0] 29)).alloc (.cells #[.int .i64 0, .int .i64 0, .int .i64 0, .int .i64 0, .int .i64 0, .int .i64 0, .int .i64 0, .bool false, .bool false] 31)).alloc (.cells #[.int .i64 0, .int .i64 0, .bool false] 33))
  replace J := Lib.hid (((J.alloc (.cells #[.int .i64 0, .int .i64 0, .int .i64 0, .int .i64 0, .slice none 0 0, .slice none 0 0, .int .i64 0, .int .i64 0, .int .i64 0, .int .i64 0, .int .i64 0] 29)).alloc (.cells #[.int .i64 0, .int .i64 0, .int .i64 0, .int .i64 0, .int .i64 0, .int .i64 0, .int .i64 0, .bool false, .bool false] 31)).alloc (.cells #[.int .i64 0, .int .i64 0, .bool false] 33))
  have B0 := Lib.hid B.size
  have H := Lib.hid (bl_alloc (bl_alloc (bl_alloc B (.cells #[.int .i64 0, .int .i64 0, .int .i64 0, .int .i64 0, .slice none 0 0, .slice none 0 0, .int .i64 0, .int .i64 0, .int .i64 0, .int .i64 0, .int .i64 0] 29)) (.cells #[.int .i64 0, .int .i64 0, .int .i64 0, .int .i64 0, .int .i64 0, .int .i64 0, .int .i64 0, .bool false, .bool false] 31)) (.cells #[.int .i64 0, .int .i64 0, .bool false] 33))
  have hN : n ≤ 281474976710656 := by omega
  have hM : m ≤ 281474976710656 := by omega
  clear B h
  go_wp2_with (refine store_new rfl 29 (.tmp 3) (.tmp 16) rfl w1.heap.size rfl (lvs i t x y A n c G m kk fp fq fs fz b) rfl _ L (by simp) level_size rfl ?_)
  intro w2 K N
  replace L := N
  replace S := S.kept K (by omega)
  replace X := X.kept K (by omega)
  replace I := Lib.hid (I.out.kept K (fun h0 g off e => by have := nA.out h0 g off e; omega))
  replace J := Lib.hid (J.out.kept K (fun h0 g off e => by have := nG.out h0 g off e; omega))
  replace H := Lib.hid (kp_below H.out K (by have := B0.out; omega))
  clear K
  go_wp2_with (refine store_new rfl 31 (.tmp 4) (.tmp 17) rfl (w1.heap.size + 1) rfl (stv k ax ay fx fy u g d o) rfl _ S (by simp) state_size rfl ?_)
  intro w3 K N
  replace S := N
  replace L := L.kept K (by omega)
  replace X := X.kept K (by omega)
  replace I := Lib.hid (I.out.kept K (fun h0 g off e => by have := nA.out h0 g off e; omega))
  replace J := Lib.hid (J.out.kept K (fun h0 g off e => by have := nG.out h0 g off e; omega))
  replace H := Lib.hid (kp_below H.out K (by have := B0.out; omega))
  clear K
  go_wp2_with (refine store_new rfl 33 (.tmp 5) (.tmp 18) rfl (w1.heap.size + 1 + 1) rfl (ins s p z) rfl _ X (by simp) input_size rfl ?_)
  intro w4 K N
  replace X := N
  replace L := L.kept K (by omega)
  replace S := S.kept K (by omega)
  replace I := Lib.hid (I.out.kept K (fun h0 g off e => by have := nA.out h0 g off e; omega))
  replace J := Lib.hid (J.out.kept K (fun h0 g off e => by have := nG.out h0 g off e; omega))
  replace H := Lib.hid (kp_below H.out K (by have := B0.out; omega))
  clear K
  obtain ⟨K', X', Y', P', Q', U', V', D', O', hE⟩ : ∃ K' X' Y' P' Q' U' V' D' O', esS i t x y ws gs fp fq fs fz b k ax ay fx fy u g d o s p z = ⟨K', X', Y', P', Q', U', V', D', O'⟩ := ⟨_, _, _, _, _, _, _, _, _, rfl⟩
  have hneq := fun W => neq_state K' X' Y' P' Q' U' V' D' O' W
  have heq := fun W => eq_state K' X' Y' P' Q' U' V' D' O' W
  have hgd := state_guard
  cases ho : eoB i t x y ws gs fp fq fs fz b k ax ay fx fy u g d o s p z
  · have C1 := Lib.hid (fun (W : World) (Z : Boxes W A n ws) (Y : Boxes W G m gs) (R : Quarter W) => implEStepE i t x y A n c G m kk fp fq fs fz b ws gs k ax ay fx fy u g d o s p z (r := false) (show esS i t x y ws gs fp fq fs fz b k ax ay fx fy u g d o s p z = ⟨K', X', Y', P', Q', U', V', D', O'⟩ from hE) ho hN hM W Z Y R)
    have C2 := Lib.hid (fun (W : World) (Z : Boxes W A n ws) (Y : Boxes W G m gs) => specEStepE i t x y A n c G m kk fp fq fs fz b ws gs k ax ay fx fy u g d o s p z (r := false) (show esS i t x y ws gs fp fq fs fz b k ax ay fx fy u g d o s p z = ⟨K', X', Y', P', Q', U', V', D', O'⟩ from hE) ho hN hM W Z Y)
    clear hE ho
    have Lc0 := L.cell 0 _ rfl
    have Lc1 := L.cell 1 _ rfl
    have Lc2 := L.cell 2 _ rfl
    have Lc3 := L.cell 3 _ rfl
    have Lc4 := L.cell 4 _ rfl
    have Lc5 := L.cell 5 _ rfl
    have Lc6 := L.cell 6 _ rfl
    have Lc7 := L.cell 7 _ rfl
    have Lc8 := L.cell 8 _ rfl
    have Lc9 := L.cell 9 _ rfl
    have Lc10 := L.cell 10 _ rfl
    have Ll := L.lt
    have Sc0 := S.cell 0 _ rfl
    have Sc1 := S.cell 1 _ rfl
    have Sc2 := S.cell 2 _ rfl
    have Sc3 := S.cell 3 _ rfl
    have Sc4 := S.cell 4 _ rfl
    have Sc5 := S.cell 5 _ rfl
    have Sc6 := S.cell 6 _ rfl
    have Sc7 := S.cell 7 _ rfl
    have Sc8 := S.cell 8 _ rfl
    have Sl := S.lt
    have Xc0 := X.cell 0 _ rfl
    have Xc1 := X.cell 1 _ rfl
    have Xc2 := X.cell 2 _ rfl
    have Xl := X.lt
    go_wp2_with fail
    clear Lc0 Lc1 Lc2 Lc3 Lc4 Lc5 Lc6 Lc7 Lc8 Lc9 Lc10 Ll Sc0 Sc1 Sc2 Sc3 Sc4 Sc5 Sc6 Sc7 Sc8 Sl Xc0 Xc1 Xc2 Xl
    refine (C1.out _ I.out J.out (hQ.out.step H.out)).mono ?_
    rintro e w5 ⟨rfl, B⟩
    replace L := L.step B
    replace S := S.step B
    replace X := X.step B
    replace I := Lib.hid (I.out.step B)
    replace J := Lib.hid (J.out.step B)
    replace H := Lib.hid (bl_trans H.out B)
    clear B
    have Lc0 := L.cell 0 _ rfl
    have Lc1 := L.cell 1 _ rfl
    have Lc2 := L.cell 2 _ rfl
    have Lc3 := L.cell 3 _ rfl
    have Lc4 := L.cell 4 _ rfl
    have Lc5 := L.cell 5 _ rfl
    have Lc6 := L.cell 6 _ rfl
    have Lc7 := L.cell 7 _ rfl
    have Lc8 := L.cell 8 _ rfl
    have Lc9 := L.cell 9 _ rfl
    have Lc10 := L.cell 10 _ rfl
    have Ll := L.lt
    have Sc0 := S.cell 0 _ rfl
    have Sc1 := S.cell 1 _ rfl
    have Sc2 := S.cell 2 _ rfl
    have Sc3 := S.cell 3 _ rfl
    have Sc4 := S.cell 4 _ rfl
    have Sc5 := S.cell 5 _ rfl
    have Sc6 := S.cell 6 _ rfl
    have Sc7 := S.cell 7 _ rfl
    have Sc8 := S.cell 8 _ rfl
    have Sl := S.lt
    have Xc0 := X.cell 0 _ rfl
    have Xc1 := X.cell 1 _ rfl
    have Xc2 := X.cell 2 _ rfl
    have Xl := X.lt
    go_wp2_with fail
    clear Lc0 Lc1 Lc2 Lc3 Lc4 Lc5 Lc6 Lc7 Lc8 Lc9 Lc10 Ll Sc0 Sc1 Sc2 Sc3 Sc4 Sc5 Sc6 Sc7 Sc8 Sl Xc0 Xc1 Xc2 Xl
    replace L := L.alloc (.cells #[.int .i64 K', .int .i64 X', .int .i64 Y', .int .i64 P', .int .i64 Q', .int .i64 U', .int .i64 V', .bool D', .bool O'] 31)
    replace S := S.alloc (.cells #[.int .i64 K', .int .i64 X', .int .i64 Y', .int .i64 P', .int .i64 Q', .int .i64 U', .int .i64 V', .bool D', .bool O'] 31)
    replace X := X.alloc (.cells #[.int .i64 K', .int .i64 X', .int .i64 Y', .int .i64 P', .int .i64 Q', .int .i64 U', .int .i64 V', .bool D', .bool O'] 31)
    replace I := Lib.hid (I.out.alloc (.cells #[.int .i64 K', .int .i64 X', .int .i64 Y', .int .i64 P', .int .i64 Q', .int .i64 U', .int .i64 V', .bool D', .bool O'] 31))
    replace J := Lib.hid (J.out.alloc (.cells #[.int .i64 K', .int .i64 X', .int .i64 Y', .int .i64 P', .int .i64 Q', .int .i64 U', .int .i64 V', .bool D', .bool O'] 31))
    have O : CellsAt (w5.alloc (.cells #[.int .i64 K', .int .i64 X', .int .i64 Y', .int .i64 P', .int .i64 Q', .int .i64 U', .int .i64 V', .bool D', .bool O'] 31)) w5.heap.size (stv K' X' Y' P' Q' U' V' D' O') := CellsAt.new w5 _ _ _ rfl
    replace H := Lib.hid (bl_alloc H.out (.cells #[.int .i64 K', .int .i64 X', .int .i64 Y', .int .i64 P', .int .i64 Q', .int .i64 U', .int .i64 V', .bool D', .bool O'] 31))
    refine (C2.out _ I.out J.out).mono ?_
    rintro e w6 ⟨rfl, B⟩
    replace L := L.step B
    replace S := S.step B
    replace X := X.step B
    replace O := O.step B
    replace I := Lib.hid (I.out.step B)
    replace J := Lib.hid (J.out.step B)
    replace H := Lib.hid (bl_trans H.out B)
    clear B
    have Lc0 := L.cell 0 _ rfl
    have Lc1 := L.cell 1 _ rfl
    have Lc2 := L.cell 2 _ rfl
    have Lc3 := L.cell 3 _ rfl
    have Lc4 := L.cell 4 _ rfl
    have Lc5 := L.cell 5 _ rfl
    have Lc6 := L.cell 6 _ rfl
    have Lc7 := L.cell 7 _ rfl
    have Lc8 := L.cell 8 _ rfl
    have Lc9 := L.cell 9 _ rfl
    have Lc10 := L.cell 10 _ rfl
    have Ll := L.lt
    have Sc0 := S.cell 0 _ rfl
    have Sc1 := S.cell 1 _ rfl
    have Sc2 := S.cell 2 _ rfl
    have Sc3 := S.cell 3 _ rfl
    have Sc4 := S.cell 4 _ rfl
    have Sc5 := S.cell 5 _ rfl
    have Sc6 := S.cell 6 _ rfl
    have Sc7 := S.cell 7 _ rfl
    have Sc8 := S.cell 8 _ rfl
    have Sl := S.lt
    have Xc0 := X.cell 0 _ rfl
    have Xc1 := X.cell 1 _ rfl
    have Xc2 := X.cell 2 _ rfl
    have Xl := X.lt
    have Oc0 := O.cell 0 _ rfl
    have Oc1 := O.cell 1 _ rfl
    have Oc2 := O.cell 2 _ rfl
    have Oc3 := O.cell 3 _ rfl
    have Oc4 := O.cell 4 _ rfl
    have Oc5 := O.cell 5 _ rfl
    have Oc6 := O.cell 6 _ rfl
    have Oc7 := O.cell 7 _ rfl
    have Oc8 := O.cell 8 _ rfl
    have Ol := O.lt
    go_wp2
    go_ret
    exact ⟨rfl, bl_alloc (H.out) _⟩
  have T := tick_of ho hE
  have hkp := step_keep ho hE
  have hv1 := eo_in ho
  obtain ⟨hev, hin, _⟩ := hv1
  obtain ⟨hlv, how, hkt, hgm, hfr, hdg⟩ := (ev_iff ..).1 hev
  obtain ⟨⟨k1, k2⟩, hat, hfa, hlen, ⟨u1, u2⟩, ⟨g1, g2⟩, hdo⟩ := (own_iff ..).1 how
  obtain ⟨⟨ax1, ax2⟩, ay1, ay2⟩ := (vok_iff ax ay).1 hat
  obtain ⟨⟨fx1, fx2⟩, fy1, fy2⟩ := (vok_iff fx fy).1 hfa
  obtain ⟨⟨s1, s2⟩, ⟨p1, p2⟩, hzz⟩ := iv_bd hin
  have gl := J.out.1
  have hlv2 := (lv_iff ..).1 hlv
  have okg := hlv2.2.2.2.2.2.2.1
  have hvk := T.vok
  rcases T.gate with e1 | ⟨e1, h7, h8⟩
  · replace e1 := e1.symm
    clear hev hin hlv how hkt hgm hfr hdg hat hfa hlen hdo hzz hkp hlv2 okg hvk
    subst e1
    have C1 := Lib.hid (fun (W : World) (Z : Boxes W A n ws) (Y : Boxes W G m gs) (R : Quarter W) => implEStepE i t x y A n c G m kk fp fq fs fz b ws gs k ax ay fx fy u g d o s p z (r := true) (show esS i t x y ws gs fp fq fs fz b k ax ay fx fy u g d o s p z = ⟨K', X', Y', P', Q', U', g, D', O'⟩ from hE) ho hN hM W Z Y R)
    have C2 := Lib.hid (fun (W : World) (Z : Boxes W A n ws) (Y : Boxes W G m gs) => specEStepE i t x y A n c G m kk fp fq fs fz b ws gs k ax ay fx fy u g d o s p z (r := true) (show esS i t x y ws gs fp fq fs fz b k ax ay fx fy u g d o s p z = ⟨K', X', Y', P', Q', U', g, D', O'⟩ from hE) ho hN hM W Z Y)
    clear hE ho T gl
    have Lc0 := L.cell 0 _ rfl
    have Lc1 := L.cell 1 _ rfl
    have Lc2 := L.cell 2 _ rfl
    have Lc3 := L.cell 3 _ rfl
    have Lc4 := L.cell 4 _ rfl
    have Lc5 := L.cell 5 _ rfl
    have Lc6 := L.cell 6 _ rfl
    have Lc7 := L.cell 7 _ rfl
    have Lc8 := L.cell 8 _ rfl
    have Lc9 := L.cell 9 _ rfl
    have Lc10 := L.cell 10 _ rfl
    have Ll := L.lt
    have Sc0 := S.cell 0 _ rfl
    have Sc1 := S.cell 1 _ rfl
    have Sc2 := S.cell 2 _ rfl
    have Sc3 := S.cell 3 _ rfl
    have Sc4 := S.cell 4 _ rfl
    have Sc5 := S.cell 5 _ rfl
    have Sc6 := S.cell 6 _ rfl
    have Sc7 := S.cell 7 _ rfl
    have Sc8 := S.cell 8 _ rfl
    have Sl := S.lt
    have Xc0 := X.cell 0 _ rfl
    have Xc1 := X.cell 1 _ rfl
    have Xc2 := X.cell 2 _ rfl
    have Xl := X.lt
    go_wp2_with fail
    clear Lc0 Lc1 Lc2 Lc3 Lc4 Lc5 Lc6 Lc7 Lc8 Lc9 Lc10 Ll Sc0 Sc1 Sc2 Sc3 Sc4 Sc5 Sc6 Sc7 Sc8 Sl Xc0 Xc1 Xc2 Xl
    refine (C1.out _ I.out J.out (hQ.out.step H.out)).mono ?_
    rintro e w5 ⟨rfl, B⟩
    replace L := L.step B
    replace S := S.step B
    replace X := X.step B
    replace I := Lib.hid (I.out.step B)
    replace J := Lib.hid (J.out.step B)
    replace H := Lib.hid (bl_trans H.out B)
    clear B
    have Lc0 := L.cell 0 _ rfl
    have Lc1 := L.cell 1 _ rfl
    have Lc2 := L.cell 2 _ rfl
    have Lc3 := L.cell 3 _ rfl
    have Lc4 := L.cell 4 _ rfl
    have Lc5 := L.cell 5 _ rfl
    have Lc6 := L.cell 6 _ rfl
    have Lc7 := L.cell 7 _ rfl
    have Lc8 := L.cell 8 _ rfl
    have Lc9 := L.cell 9 _ rfl
    have Lc10 := L.cell 10 _ rfl
    have Ll := L.lt
    have Sc0 := S.cell 0 _ rfl
    have Sc1 := S.cell 1 _ rfl
    have Sc2 := S.cell 2 _ rfl
    have Sc3 := S.cell 3 _ rfl
    have Sc4 := S.cell 4 _ rfl
    have Sc5 := S.cell 5 _ rfl
    have Sc6 := S.cell 6 _ rfl
    have Sc7 := S.cell 7 _ rfl
    have Sc8 := S.cell 8 _ rfl
    have Sl := S.lt
    have Xc0 := X.cell 0 _ rfl
    have Xc1 := X.cell 1 _ rfl
    have Xc2 := X.cell 2 _ rfl
    have Xl := X.lt
    go_wp2_with fail
    clear Lc0 Lc1 Lc2 Lc3 Lc4 Lc5 Lc6 Lc7 Lc8 Lc9 Lc10 Ll Sc0 Sc1 Sc2 Sc3 Sc4 Sc5 Sc6 Sc7 Sc8 Sl Xc0 Xc1 Xc2 Xl
    replace L := L.alloc (.cells #[.int .i64 K', .int .i64 X', .int .i64 Y', .int .i64 P', .int .i64 Q', .int .i64 U', .int .i64 g, .bool D', .bool O'] 31)
    replace S := S.alloc (.cells #[.int .i64 K', .int .i64 X', .int .i64 Y', .int .i64 P', .int .i64 Q', .int .i64 U', .int .i64 g, .bool D', .bool O'] 31)
    replace X := X.alloc (.cells #[.int .i64 K', .int .i64 X', .int .i64 Y', .int .i64 P', .int .i64 Q', .int .i64 U', .int .i64 g, .bool D', .bool O'] 31)
    replace I := Lib.hid (I.out.alloc (.cells #[.int .i64 K', .int .i64 X', .int .i64 Y', .int .i64 P', .int .i64 Q', .int .i64 U', .int .i64 g, .bool D', .bool O'] 31))
    replace J := Lib.hid (J.out.alloc (.cells #[.int .i64 K', .int .i64 X', .int .i64 Y', .int .i64 P', .int .i64 Q', .int .i64 U', .int .i64 g, .bool D', .bool O'] 31))
    have O : CellsAt (w5.alloc (.cells #[.int .i64 K', .int .i64 X', .int .i64 Y', .int .i64 P', .int .i64 Q', .int .i64 U', .int .i64 g, .bool D', .bool O'] 31)) w5.heap.size (stv K' X' Y' P' Q' U' g D' O') := CellsAt.new w5 _ _ _ rfl
    replace H := Lib.hid (bl_alloc H.out (.cells #[.int .i64 K', .int .i64 X', .int .i64 Y', .int .i64 P', .int .i64 Q', .int .i64 U', .int .i64 g, .bool D', .bool O'] 31))
    refine (C2.out _ I.out J.out).mono ?_
    rintro e w6 ⟨rfl, B⟩
    replace L := L.step B
    replace S := S.step B
    replace X := X.step B
    replace O := O.step B
    replace I := Lib.hid (I.out.step B)
    replace J := Lib.hid (J.out.step B)
    replace H := Lib.hid (bl_trans H.out B)
    clear B
    have Lc0 := L.cell 0 _ rfl
    have Lc1 := L.cell 1 _ rfl
    have Lc2 := L.cell 2 _ rfl
    have Lc3 := L.cell 3 _ rfl
    have Lc4 := L.cell 4 _ rfl
    have Lc5 := L.cell 5 _ rfl
    have Lc6 := L.cell 6 _ rfl
    have Lc7 := L.cell 7 _ rfl
    have Lc8 := L.cell 8 _ rfl
    have Lc9 := L.cell 9 _ rfl
    have Lc10 := L.cell 10 _ rfl
    have Ll := L.lt
    have Sc0 := S.cell 0 _ rfl
    have Sc1 := S.cell 1 _ rfl
    have Sc2 := S.cell 2 _ rfl
    have Sc3 := S.cell 3 _ rfl
    have Sc4 := S.cell 4 _ rfl
    have Sc5 := S.cell 5 _ rfl
    have Sc6 := S.cell 6 _ rfl
    have Sc7 := S.cell 7 _ rfl
    have Sc8 := S.cell 8 _ rfl
    have Sl := S.lt
    have Xc0 := X.cell 0 _ rfl
    have Xc1 := X.cell 1 _ rfl
    have Xc2 := X.cell 2 _ rfl
    have Xl := X.lt
    have Oc0 := O.cell 0 _ rfl
    have Oc1 := O.cell 1 _ rfl
    have Oc2 := O.cell 2 _ rfl
    have Oc3 := O.cell 3 _ rfl
    have Oc4 := O.cell 4 _ rfl
    have Oc5 := O.cell 5 _ rfl
    have Oc6 := O.cell 6 _ rfl
    have Oc7 := O.cell 7 _ rfl
    have Oc8 := O.cell 8 _ rfl
    have Ol := O.lt
    go_wp2
    go_ret
    exact ⟨rfl, bl_alloc (H.out) _⟩
  have hgm2 : g.toNat < gs.length := by omega
  have hgN : (g.toNat : Int) = g := Int.toNat_of_nonneg g1
  have C3 := fun W => implBHas (gs.getD g.toNat bz).a (gs.getD g.toNat bz).b (gs.getD g.toNat bz).c (gs.getD g.toNat bz).d X' Y' W
  rw [bh_yes (gate_ok okg hgm2) hvk, h8] at C3
  replace C3 := Lib.hid C3
  subst e1
  have b1 : (g + 1 == g) = false := beq_eq_false_iff_ne.2 (by omega)
  have hgm3 : g < (m : Int) := by omega
  have hw1 : IntKind.i64.wrap (g + 1) = g + 1 := IntWalk.i64_in _ (by omega)
  clear hev hin hlv how hkt hgm hfr hdg hat hfa hlen hdo hzz hkp hlv2 okg hvk h7 h8
  have C1 := Lib.hid (fun (W : World) (Z : Boxes W A n ws) (Y : Boxes W G m gs) (R : Quarter W) => implEStepE i t x y A n c G m kk fp fq fs fz b ws gs k ax ay fx fy u g d o s p z (r := true) (show esS i t x y ws gs fp fq fs fz b k ax ay fx fy u g d o s p z = ⟨K', X', Y', P', Q', U', (g + 1), D', O'⟩ from hE) ho hN hM W Z Y R)
  have C2 := Lib.hid (fun (W : World) (Z : Boxes W A n ws) (Y : Boxes W G m gs) => specEStepE i t x y A n c G m kk fp fq fs fz b ws gs k ax ay fx fy u g d o s p z (r := true) (show esS i t x y ws gs fp fq fs fz b k ax ay fx fy u g d o s p z = ⟨K', X', Y', P', Q', U', (g + 1), D', O'⟩ from hE) ho hN hM W Z Y)
  clear hE ho T
  have Lc0 := L.cell 0 _ rfl
  have Lc1 := L.cell 1 _ rfl
  have Lc2 := L.cell 2 _ rfl
  have Lc3 := L.cell 3 _ rfl
  have Lc4 := L.cell 4 _ rfl
  have Lc5 := L.cell 5 _ rfl
  have Lc6 := L.cell 6 _ rfl
  have Lc7 := L.cell 7 _ rfl
  have Lc8 := L.cell 8 _ rfl
  have Lc9 := L.cell 9 _ rfl
  have Lc10 := L.cell 10 _ rfl
  have Ll := L.lt
  have Sc0 := S.cell 0 _ rfl
  have Sc1 := S.cell 1 _ rfl
  have Sc2 := S.cell 2 _ rfl
  have Sc3 := S.cell 3 _ rfl
  have Sc4 := S.cell 4 _ rfl
  have Sc5 := S.cell 5 _ rfl
  have Sc6 := S.cell 6 _ rfl
  have Sc7 := S.cell 7 _ rfl
  have Sc8 := S.cell 8 _ rfl
  have Sl := S.lt
  have Xc0 := X.cell 0 _ rfl
  have Xc1 := X.cell 1 _ rfl
  have Xc2 := X.cell 2 _ rfl
  have Xl := X.lt
  go_wp2_with fail
  clear Lc0 Lc1 Lc2 Lc3 Lc4 Lc5 Lc6 Lc7 Lc8 Lc9 Lc10 Ll Sc0 Sc1 Sc2 Sc3 Sc4 Sc5 Sc6 Sc7 Sc8 Sl Xc0 Xc1 Xc2 Xl
  refine (C1.out _ I.out J.out (hQ.out.step H.out)).mono ?_
  rintro e w5 ⟨rfl, B⟩
  replace L := L.step B
  replace S := S.step B
  replace X := X.step B
  replace I := Lib.hid (I.out.step B)
  replace J := Lib.hid (J.out.step B)
  replace H := Lib.hid (bl_trans H.out B)
  clear B
  have Lc0 := L.cell 0 _ rfl
  have Lc1 := L.cell 1 _ rfl
  have Lc2 := L.cell 2 _ rfl
  have Lc3 := L.cell 3 _ rfl
  have Lc4 := L.cell 4 _ rfl
  have Lc5 := L.cell 5 _ rfl
  have Lc6 := L.cell 6 _ rfl
  have Lc7 := L.cell 7 _ rfl
  have Lc8 := L.cell 8 _ rfl
  have Lc9 := L.cell 9 _ rfl
  have Lc10 := L.cell 10 _ rfl
  have Ll := L.lt
  have Sc0 := S.cell 0 _ rfl
  have Sc1 := S.cell 1 _ rfl
  have Sc2 := S.cell 2 _ rfl
  have Sc3 := S.cell 3 _ rfl
  have Sc4 := S.cell 4 _ rfl
  have Sc5 := S.cell 5 _ rfl
  have Sc6 := S.cell 6 _ rfl
  have Sc7 := S.cell 7 _ rfl
  have Sc8 := S.cell 8 _ rfl
  have Sl := S.lt
  have Xc0 := X.cell 0 _ rfl
  have Xc1 := X.cell 1 _ rfl
  have Xc2 := X.cell 2 _ rfl
  have Xl := X.lt
  go_wp2_with fail
  clear Lc0 Lc1 Lc2 Lc3 Lc4 Lc5 Lc6 Lc7 Lc8 Lc9 Lc10 Ll Sc0 Sc1 Sc2 Sc3 Sc4 Sc5 Sc6 Sc7 Sc8 Sl Xc0 Xc1 Xc2 Xl
  replace L := L.alloc (.cells #[.int .i64 K', .int .i64 X', .int .i64 Y', .int .i64 P', .int .i64 Q', .int .i64 U', .int .i64 (g + 1), .bool D', .bool O'] 31)
  replace S := S.alloc (.cells #[.int .i64 K', .int .i64 X', .int .i64 Y', .int .i64 P', .int .i64 Q', .int .i64 U', .int .i64 (g + 1), .bool D', .bool O'] 31)
  replace X := X.alloc (.cells #[.int .i64 K', .int .i64 X', .int .i64 Y', .int .i64 P', .int .i64 Q', .int .i64 U', .int .i64 (g + 1), .bool D', .bool O'] 31)
  replace I := Lib.hid (I.out.alloc (.cells #[.int .i64 K', .int .i64 X', .int .i64 Y', .int .i64 P', .int .i64 Q', .int .i64 U', .int .i64 (g + 1), .bool D', .bool O'] 31))
  replace J := Lib.hid (J.out.alloc (.cells #[.int .i64 K', .int .i64 X', .int .i64 Y', .int .i64 P', .int .i64 Q', .int .i64 U', .int .i64 (g + 1), .bool D', .bool O'] 31))
  have O : CellsAt (w5.alloc (.cells #[.int .i64 K', .int .i64 X', .int .i64 Y', .int .i64 P', .int .i64 Q', .int .i64 U', .int .i64 (g + 1), .bool D', .bool O'] 31)) w5.heap.size (stv K' X' Y' P' Q' U' (g + 1) D' O') := CellsAt.new w5 _ _ _ rfl
  replace H := Lib.hid (bl_alloc H.out (.cells #[.int .i64 K', .int .i64 X', .int .i64 Y', .int .i64 P', .int .i64 Q', .int .i64 U', .int .i64 (g + 1), .bool D', .bool O'] 31))
  refine (C2.out _ I.out J.out).mono ?_
  rintro e w6 ⟨rfl, B⟩
  replace L := L.step B
  replace S := S.step B
  replace X := X.step B
  replace O := O.step B
  replace I := Lib.hid (I.out.step B)
  replace J := Lib.hid (J.out.step B)
  replace H := Lib.hid (bl_trans H.out B)
  clear B
  replace L := L.alloc (.cells #[.int .i64 K', .int .i64 X', .int .i64 Y', .int .i64 P', .int .i64 Q', .int .i64 U', .int .i64 (g + 1), .bool D', .bool O'] 31)
  replace S := S.alloc (.cells #[.int .i64 K', .int .i64 X', .int .i64 Y', .int .i64 P', .int .i64 Q', .int .i64 U', .int .i64 (g + 1), .bool D', .bool O'] 31)
  replace X := X.alloc (.cells #[.int .i64 K', .int .i64 X', .int .i64 Y', .int .i64 P', .int .i64 Q', .int .i64 U', .int .i64 (g + 1), .bool D', .bool O'] 31)
  replace O := O.alloc (.cells #[.int .i64 K', .int .i64 X', .int .i64 Y', .int .i64 P', .int .i64 Q', .int .i64 U', .int .i64 (g + 1), .bool D', .bool O'] 31)
  replace I := Lib.hid (I.out.alloc (.cells #[.int .i64 K', .int .i64 X', .int .i64 Y', .int .i64 P', .int .i64 Q', .int .i64 U', .int .i64 (g + 1), .bool D', .bool O'] 31))
  replace J := Lib.hid (J.out.alloc (.cells #[.int .i64 K', .int .i64 X', .int .i64 Y', .int .i64 P', .int .i64 Q', .int .i64 U', .int .i64 (g + 1), .bool D', .bool O'] 31))
  have Wn : CellsAt (w6.alloc (.cells #[.int .i64 K', .int .i64 X', .int .i64 Y', .int .i64 P', .int .i64 Q', .int .i64 U', .int .i64 (g + 1), .bool D', .bool O'] 31)) w6.heap.size (stv K' X' Y' P' Q' U' (g + 1) D' O') := CellsAt.new w6 _ _ _ rfl
  replace H := Lib.hid (bl_alloc H.out (.cells #[.int .i64 K', .int .i64 X', .int .i64 Y', .int .i64 P', .int .i64 Q', .int .i64 U', .int .i64 (g + 1), .bool D', .bool O'] 31))
  have Lc0 := L.cell 0 _ rfl
  have Lc1 := L.cell 1 _ rfl
  have Lc2 := L.cell 2 _ rfl
  have Lc3 := L.cell 3 _ rfl
  have Lc4 := L.cell 4 _ rfl
  have Lc5 := L.cell 5 _ rfl
  have Lc6 := L.cell 6 _ rfl
  have Lc7 := L.cell 7 _ rfl
  have Lc8 := L.cell 8 _ rfl
  have Lc9 := L.cell 9 _ rfl
  have Lc10 := L.cell 10 _ rfl
  have Ll := L.lt
  have Sc0 := S.cell 0 _ rfl
  have Sc1 := S.cell 1 _ rfl
  have Sc2 := S.cell 2 _ rfl
  have Sc3 := S.cell 3 _ rfl
  have Sc4 := S.cell 4 _ rfl
  have Sc5 := S.cell 5 _ rfl
  have Sc6 := S.cell 6 _ rfl
  have Sc7 := S.cell 7 _ rfl
  have Sc8 := S.cell 8 _ rfl
  have Sl := S.lt
  have Xc0 := X.cell 0 _ rfl
  have Xc1 := X.cell 1 _ rfl
  have Xc2 := X.cell 2 _ rfl
  have Xl := X.lt
  have Oc0 := O.cell 0 _ rfl
  have Oc1 := O.cell 1 _ rfl
  have Oc2 := O.cell 2 _ rfl
  have Oc3 := O.cell 3 _ rfl
  have Oc4 := O.cell 4 _ rfl
  have Oc5 := O.cell 5 _ rfl
  have Oc6 := O.cell 6 _ rfl
  have Oc7 := O.cell 7 _ rfl
  have Oc8 := O.cell 8 _ rfl
  have Ol := O.lt
  have Wnc0 := Wn.cell 0 _ rfl
  have Wnc1 := Wn.cell 1 _ rfl
  have Wnc2 := Wn.cell 2 _ rfl
  have Wnc3 := Wn.cell 3 _ rfl
  have Wnc4 := Wn.cell 4 _ rfl
  have Wnc5 := Wn.cell 5 _ rfl
  have Wnc6 := Wn.cell 6 _ rfl
  have Wnc7 := Wn.cell 7 _ rfl
  have Wnc8 := Wn.cell 8 _ rfl
  have Wnl := Wn.lt
  go_upto_region 10 with fail
  clear Lc0 Lc1 Lc2 Lc3 Lc4 Lc5 Lc6 Lc7 Lc8 Lc9 Lc10 Ll Sc0 Sc1 Sc2 Sc3 Sc4 Sc5 Sc6 Sc7 Sc8 Sl Xc0 Xc1 Xc2 Xl Oc0 Oc1 Oc2 Oc3 Oc4 Oc5 Oc6 Oc7 Oc8 Ol Wnc0 Wnc1 Wnc2 Wnc3 Wnc4 Wnc5 Wnc6 Wnc7 Wnc8 Wnl
  obtain ⟨bb, off, hG, Z⟩ := gates_at J.out (show g.toNat < m by omega)
  subst hG
  generalize hq1 : (gs.getD g.toNat bz).a = qa at *
  generalize hq2 : (gs.getD g.toNat bz).b = qb at *
  generalize hq3 : (gs.getD g.toNat bz).c = qc at *
  generalize hq4 : (gs.getD g.toNat bz).d = qd at *
  clear hq1 hq2 hq3 hq4
  refine wp_region_held_drew (S := fun w' => CellsAt w' w5.heap.size (stv K' X' Y' P' Q' U' (g + 1) D' O') ∧ CellsAt w' (w1.heap.size + 1) (stv k ax ay fx fy u g d o) ∧ CellsAt w' w1.heap.size (lvs i t x y A n c (some ⟨bb, off, none⟩) m kk fp fq fs fz b) ∧ (w'.cell? ⟨bb, off + g.toNat * 4, none⟩ = some (.int .i64 qa) ∧ w'.cell? ⟨bb, off + g.toNat * 4 + 1, none⟩ = some (.int .i64 qb) ∧ w'.cell? ⟨bb, off + g.toNat * 4 + 2, none⟩ = some (.int .i64 qc) ∧ w'.cell? ⟨bb, off + g.toNat * 4 + 3, none⟩ = some (.int .i64 qd))) (by kernel_rfl) ⟨O.drew, S.drew, L.drew, bi_four Z.drew⟩ (fun hHeld => ?_)
  replace L := L.drew
  replace S := S.drew
  replace O := O.drew
  replace Z := Z.drew
  replace H := Lib.hid (bl_drew1 H.out)
  refine wpAnyH_take (i := 0) (oi := _) (v := ?_) rfl (by kernel_rfl) (by kernel_rfl) (by kernel_rfl) (fun _ _ _ h => h) (Or.inl ⟨by rfl, ?_⟩) hHeld ?_
  rotate_left
  · intro w hSw
    try dsimp only at hSw
    go_simp
    all_goals with_reducible rfl
  try simp only [Act.put, List.getElem_toArray, List.getElem_cons_zero, List.setIfInBounds_toArray, List.set_cons_zero, List.set_cons_succ]
  refine wpAnyH_take (i := 1) (oi := _) (v := ?_) rfl (by kernel_rfl) (by kernel_rfl) (by kernel_rfl) (fun _ _ _ h => h) (Or.inl ⟨by rfl, ?_⟩) hHeld ?_
  rotate_left
  · intro w hSw
    have d6 := hSw.1.cell 6 _ rfl
    go_simp
    all_goals with_reducible rfl
  try simp only [Act.put, List.getElem_toArray, List.getElem_cons_succ, List.getElem_cons_zero, List.setIfInBounds_toArray, List.set_cons_zero, List.set_cons_succ]
  refine wpAnyH_take (i := 2) (oi := _) (v := ?_) rfl (by kernel_rfl) (by kernel_rfl) (by kernel_rfl) (fun _ _ _ h => h) (Or.inl ⟨by rfl, ?_⟩) hHeld ?_
  rotate_left
  · intro w hSw
    try dsimp only at hSw
    go_simp
    all_goals with_reducible rfl
  try simp only [Act.put, List.getElem_toArray, List.getElem_cons_succ, List.getElem_cons_zero, List.setIfInBounds_toArray, List.set_cons_zero, List.set_cons_succ]
  refine wpAnyH_take (i := 3) (oi := _) (v := ?_) rfl (by kernel_rfl) (by kernel_rfl) (by kernel_rfl) (fun _ _ _ h => h) (Or.inl ⟨by rfl, ?_⟩) hHeld ?_
  rotate_left
  · intro w hSw
    have d6 := hSw.2.1.cell 6 _ rfl
    go_simp
    all_goals with_reducible rfl
  try simp only [Act.put, List.getElem_toArray, List.getElem_cons_succ, List.getElem_cons_zero, List.setIfInBounds_toArray, List.set_cons_zero, List.set_cons_succ]
  refine wpAnyH_take (i := 4) (oi := _) (v := ?_) rfl (by kernel_rfl) (by kernel_rfl) (by kernel_rfl) (fun _ _ _ h => h) (Or.inl ⟨by rfl, ?_⟩) hHeld ?_
  rotate_left
  · intro w hSw
    try dsimp only at hSw
    go_simp
    all_goals with_reducible rfl
  try simp only [Act.put, List.getElem_toArray, List.getElem_cons_succ, List.getElem_cons_zero, List.setIfInBounds_toArray, List.set_cons_zero, List.set_cons_succ]
  refine wpAnyH_take (i := 5) (oi := _) (v := ?_) rfl (by kernel_rfl) (by kernel_rfl) (by kernel_rfl) (fun _ _ _ h => h) (Or.inl ⟨by rfl, ?_⟩) hHeld ?_
  rotate_left
  · intro w hSw
    try dsimp only at hSw
    go_simp
    all_goals with_reducible rfl
  try simp only [Act.put, List.getElem_toArray, List.getElem_cons_succ, List.getElem_cons_zero, List.setIfInBounds_toArray, List.set_cons_zero, List.set_cons_succ]
  refine wpAnyH_take (i := 6) (oi := _) (v := ?_) rfl (by kernel_rfl) (by kernel_rfl) (by kernel_rfl) (fun _ _ _ h => h) (Or.inl ⟨by rfl, ?_⟩) hHeld ?_
  rotate_left
  · intro w hSw
    try dsimp only at hSw
    go_simp
    all_goals with_reducible rfl
  try simp only [Act.put, List.getElem_toArray, List.getElem_cons_succ, List.getElem_cons_zero, List.setIfInBounds_toArray, List.set_cons_zero, List.set_cons_succ]
  refine wpAnyH_take (i := 7) (oi := _) (v := ?_) rfl (by kernel_rfl) (by kernel_rfl) (by kernel_rfl) (fun _ _ _ h => h) (Or.inl ⟨by rfl, ?_⟩) hHeld ?_
  rotate_left
  · intro w hSw
    try dsimp only at hSw
    go_simp
    all_goals with_reducible rfl
  try simp only [Act.put, List.getElem_toArray, List.getElem_cons_succ, List.getElem_cons_zero, List.setIfInBounds_toArray, List.set_cons_zero, List.set_cons_succ]
  refine wpAnyH_take (i := 8) (oi := _) (v := ?_) rfl (by kernel_rfl) (by kernel_rfl) (by kernel_rfl) (fun _ _ _ h => h) (Or.inl ⟨by rfl, ?_⟩) hHeld ?_
  rotate_left
  · intro w hSw
    have d5 := hSw.2.2.1.cell 5 _ rfl
    go_simp
    all_goals with_reducible rfl
  try simp only [Act.put, List.getElem_toArray, List.getElem_cons_succ, List.getElem_cons_zero, List.setIfInBounds_toArray, List.set_cons_zero, List.set_cons_succ]
  refine wpAnyH_take (i := 9) (oi := _) (v := ?_) rfl (by kernel_rfl) (by kernel_rfl) (by kernel_rfl) (fun _ _ _ h => h) (Or.inl ⟨by rfl, ?_⟩) hHeld ?_
  rotate_left
  · intro w hSw
    try dsimp only at hSw
    go_simp
    all_goals with_reducible rfl
  try simp only [Act.put, List.getElem_toArray, List.getElem_cons_succ, List.getElem_cons_zero, List.setIfInBounds_toArray, List.set_cons_zero, List.set_cons_succ]
  refine wpAnyH_take (i := 10) (oi := _) (v := ?_) rfl (by kernel_rfl) (by kernel_rfl) (by kernel_rfl) (fun _ _ _ h => h) (Or.inl ⟨by rfl, ?_⟩) hHeld ?_
  rotate_left
  · intro w hSw
    have d6 := hSw.2.1.cell 6 _ rfl
    go_simp
    all_goals with_reducible rfl
  try simp only [Act.put, List.getElem_toArray, List.getElem_cons_succ, List.getElem_cons_zero, List.setIfInBounds_toArray, List.set_cons_zero, List.set_cons_succ]
  refine wpAnyH_take (i := 11) (oi := _) (v := ?_) rfl (by kernel_rfl) (by kernel_rfl) (by kernel_rfl) (fun _ _ _ h => h) (Or.inl ⟨by rfl, ?_⟩) hHeld ?_
  rotate_left
  · intro w hSw
    try dsimp only at hSw
    go_simp
    all_goals with_reducible rfl
  try simp only [Act.put, List.getElem_toArray, List.getElem_cons_succ, List.getElem_cons_zero, List.setIfInBounds_toArray, List.set_cons_zero, List.set_cons_succ]
  refine wpAnyH_take (i := 12) (oi := _) (v := ?_) rfl (by kernel_rfl) (by kernel_rfl) (by kernel_rfl) (fun _ _ _ h => h) (Or.inl ⟨by rfl, ?_⟩) hHeld ?_
  rotate_left
  · intro w hSw
    obtain ⟨_, _, _, e0, e1, e2, e3⟩ := hSw
    go_simp
    all_goals with_reducible rfl
  try simp only [Act.put, List.getElem_toArray, List.getElem_cons_succ, List.getElem_cons_zero, List.setIfInBounds_toArray, List.set_cons_zero, List.set_cons_succ]
  refine wpAnyH_take (i := 13) (oi := _) (v := ?_) rfl (by kernel_rfl) (by kernel_rfl) (by kernel_rfl) (fun _ _ _ h => h) (Or.inl ⟨by rfl, ?_⟩) hHeld ?_
  rotate_left
  · intro w hSw
    try dsimp only at hSw
    go_simp
    all_goals with_reducible rfl
  try simp only [Act.put, List.getElem_toArray, List.getElem_cons_succ, List.getElem_cons_zero, List.setIfInBounds_toArray, List.set_cons_zero, List.set_cons_succ]
  refine wpAnyH_take (i := 14) (oi := _) (v := ?_) rfl (by kernel_rfl) (by kernel_rfl) (by kernel_rfl) (fun _ _ _ h => h) (Or.inl ⟨by rfl, ?_⟩) hHeld ?_
  rotate_left
  · intro w hSw
    have d1 := hSw.1.cell 1 _ rfl
    have d2 := hSw.1.cell 2 _ rfl
    go_simp
    all_goals with_reducible rfl
  try simp only [Act.put, List.getElem_toArray, List.getElem_cons_succ, List.getElem_cons_zero, List.setIfInBounds_toArray, List.set_cons_zero, List.set_cons_succ]
  refine wpAnyH_ready (rs := [15]) (by kernel_rfl) (by simp) ?_
  apply AllReadyH.cons rfl ?_ AllReadyH.nil
  intro K hK
  rw [if_pos (by rfl)]
  refine wp_call_fn ⟨_, Tryd.func25, by kernel_rfl, by rfl⟩ _ _ rfl #[box qa qb qc qd, vec X' Y'] (by simp only [List.map_toArray, List.map_cons, List.map_nil]; rfl) (C3.out _) (bel_back fun wz B => ?_)
  replace L := L.step B
  replace S := S.step B
  replace O := O.step B
  replace Z := Z.step B
  replace H := Lib.hid (bl_trans H.out B)
  clear B hHeld
  refine hK.out _ _ ⟨O, S, L, bi_four Z⟩ (fun hHeld => ?_)
  clear hK K
  try simp only [Act.put, List.getElem_toArray, List.getElem_cons_succ, List.getElem_cons_zero, List.setIfInBounds_toArray, List.set_cons_zero, List.set_cons_succ]
  refine wpAnyH_take (i := 16) (oi := _) (v := ?_) rfl (by kernel_rfl) (by kernel_rfl) (by kernel_rfl) (fun _ _ _ h => h) (Or.inl ⟨by rfl, ?_⟩) hHeld ?_
  rotate_left
  · intro w hSw
    try dsimp only at hSw
    go_simp
    all_goals with_reducible rfl
  try simp only [Act.put, List.getElem_toArray, List.getElem_cons_succ, List.getElem_cons_zero, List.setIfInBounds_toArray, List.set_cons_zero, List.set_cons_succ]
  refine wpAnyH_take (i := 17) (oi := _) (v := ?_) rfl (by kernel_rfl) (by kernel_rfl) (by kernel_rfl) (fun _ _ _ h => h) (Or.inl ⟨by rfl, ?_⟩) hHeld ?_
  rotate_left
  · intro w hSw
    try dsimp only at hSw
    go_simp
    all_goals with_reducible rfl
  try simp only [Act.put, List.getElem_toArray, List.getElem_cons_succ, List.getElem_cons_zero, List.setIfInBounds_toArray, List.set_cons_zero, List.set_cons_succ]
  refine wpAnyH_done (by kernel_rfl) ?_ _
  go_wp2
  go_ret
  exact ⟨rfl, H.out⟩

end Go.Proofs.YtnoenjociioffaaDoor
