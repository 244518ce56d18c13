/-
  The walks of the laws of chapter 12 on inputs that follow each other.
-/
import Derived.Test.YtagbeneapmpooaaInImpl
import Derived.Test.YtagbeneapmpooaaDrawInB
import Derived.Test.YtagbeneapmpooaaLevS
namespace Go.Proofs.Ytagbeneapmpooaa
open Go.RowKit
open M

theorem if_all {i t x y : Int} {ws gs : List Bx} {fp fq fs fz b s0 p0 : Int} {z0 : Bool} {s p : Int} {z : Bool} (h : ifB i t x y ws gs fp fq fs fz b s0 p0 z0 s p z = true) : lvB i t x y ws gs fp fq fs fz b = true ∧ inV s0 p0 z0 = true ∧ inV s p z = true ∧ (z = true → bnB b 2 = false) ∧ (p = 2 → bnB b 1 = false) ∧ -1 ≤ s - s0 ∧ s - s0 ≤ 1 := by
  simp only [ifB, flB, Bool.and_eq_true, Bool.not_eq_true'] at h
  obtain ⟨⟨h1, h2⟩, ⟨⟨h3, h4⟩, h5⟩, h6⟩ := h
  have h7 : -1 ≤ s - s0 ∧ s - s0 ≤ 1 := by simpa [inB] using h6
  refine ⟨h1, h2, h3, fun e => ?_, fun e => ?_, h7⟩
  · rw [e] at h4; simpa using h4
  · simpa [e] using h5
theorem if_self {i t x y : Int} {ws gs : List Bx} {fp fq fs fz b s p : Int} (h : lvB i t x y ws gs fp fq fs fz b = true) (g : inV s p false = true) (hp : p ≠ 2) : ifB i t x y ws gs fp fq fs fz b s p false s p false = true ∧ ifB i t x y ws gs fp fq fs fz b s p false 0 0 false = true := by
  obtain ⟨⟨s1, s2⟩, _⟩ := iv_bd g
  have e1 : inB 0 (-1) 1 = true := by decide
  have e2 : inB (0 - s) (-1) 1 = true := by simp [inB]; omega
  have e3 : inV 0 0 false = true := by decide
  exact ⟨by simp [ifB, flB, h, g, hp, e1], by simp only [ifB, flB, h, g, e2, e3]; simp⟩

set_option maxRecDepth 100000 in
set_option maxHeartbeats 4000000 in
theorem walk_FnFollowsSteer (a : Option Addr) (len cap : Nat) (zs : List Int) (w : World) (h : IsRow .u8 w a len cap zs) :
    Calls Try.prog 6 #[.slice a len cap] w fun e w' => e = .returned (.bool true) ∧ Below w.heap.size w w' := by
  have hm := h.bytes.1
  have hm2 := h.bytes.2.1
  unfold maxLen at hm2
  by_cases g : 1048576 < len
  · have g1 : (1048576 : Int) < (len : Int) := by omega
    go_enter Try.func6, Try.ntmps6
    go_wp2
    go_ret
    exact ⟨rfl, Below.refl _ _⟩
  have g1 : (len : Int) ≤ 1048576 := by omega
  clear g hm hm2
  go_enter Try.func6, Try.ntmps6
  go_wp2_with fail
  refine (draw_ifol a len cap zs w h).mono ?_
  rintro e w1 ⟨i, t, x, y, A, n, c, G, m, kk, fp, fq, fs, fz, b, ws, gs, s1, p1, z1, s2, p2, z2, hb, rfl, hn, hm, I, J, _, _, B⟩
  have L : CellsAt (((w1.alloc (.cells #[.int .i64 0, .int .i64 0, .int .i64 0, .int .i64 0, .slice none 0 0, .slice none 0 0, .int .i64 0, .int .i64 0, .int .i64 0, .int .i64 0, .int .i64 0] 38)).alloc (.cells #[.int .i64 0, .int .i64 0, .bool false] 24)).alloc (.cells #[.int .i64 0, .int .i64 0, .bool false] 24)) w1.heap.size (lvs 0 0 0 0 none 0 0 none 0 0 0 0 0 0 0) := ((CellsAt.new _ _ _ _ rfl).alloc _).alloc _
  have X : CellsAt (((w1.alloc (.cells #[.int .i64 0, .int .i64 0, .int .i64 0, .int .i64 0, .slice none 0 0, .slice none 0 0, .int .i64 0, .int .i64 0, .int .i64 0, .int .i64 0, .int .i64 0] 38)).alloc (.cells #[.int .i64 0, .int .i64 0, .bool false] 24)).alloc (.cells #[.int .i64 0, .int .i64 0, .bool false] 24)) (w1.heap.size + 1) (ins 0 0 false) := (CellsAt.new _ _ _ _ (by simp)).alloc _
  have Y : CellsAt (((w1.alloc (.cells #[.int .i64 0, .int .i64 0, .int .i64 0, .int .i64 0, .slice none 0 0, .slice none 0 0, .int .i64 0, .int .i64 0, .int .i64 0, .int .i64 0, .int .i64 0] 38)).alloc (.cells #[.int .i64 0, .int .i64 0, .bool false] 24)).alloc (.cells #[.int .i64 0, .int .i64 0, .bool false] 24)) (w1.heap.size + 1 + 1) (ins 0 0 false) := CellsAt.new _ _ _ _ (by simp)
  have nA := Lib.hid (show 0 < n → ∀ g off, A = some ⟨g, off, none⟩ → g < w1.heap.size from fun h0 g off e => lt_of_boxes I h0 e)
  have nG := Lib.hid (show 0 < m → ∀ g off, G = some ⟨g, off, none⟩ → g < w1.heap.size from fun h0 g off e => lt_of_boxes J h0 e)
  replace I := Lib.hid (((I.alloc (.cells #[.int .i64 0, .int .i64 0, .int .i64 0, .int .i64 0, .slice none 0 0, .slice none 0 0, .int .i64 0, .int .i64 0, .int .i64 0, .int .i64 0, .int .i64 0] 38)).alloc (.cells #[.int .i64 0, .int .i64 0, .bool false] 24)).alloc (.cells #[.int .i64 0, .int .i64 0, .bool false] 24))
  replace J := Lib.hid (((J.alloc (.cells #[.int .i64 0, .int .i64 0, .int .i64 0, .int .i64 0, .slice none 0 0, .slice none 0 0, .int .i64 0, .int .i64 0, .int .i64 0, .int .i64 0, .int .i64 0] 38)).alloc (.cells #[.int .i64 0, .int .i64 0, .bool false] 24)).alloc (.cells #[.int .i64 0, .int .i64 0, .bool false] 24))
  have B0 := Lib.hid B.size
  have H := Lib.hid (bl_alloc (bl_alloc (bl_alloc B (.cells #[.int .i64 0, .int .i64 0, .int .i64 0, .int .i64 0, .slice none 0 0, .slice none 0 0, .int .i64 0, .int .i64 0, .int .i64 0, .int .i64 0, .int .i64 0] 38)) (.cells #[.int .i64 0, .int .i64 0, .bool false] 24)) (.cells #[.int .i64 0, .int .i64 0, .bool false] 24))
  have hN : n ≤ 281474976710656 := by omega
  have hM : m ≤ 281474976710656 := by omega
  clear B h
  go_wp2_with (refine store_new rfl 38 (.tmp 3) (.tmp 15) rfl w1.heap.size rfl (lvs i t x y A n c G m kk fp fq fs fz b) rfl _ L (by simp) level_size rfl ?_)
  intro w2 K N
  replace L := N
  replace X := X.kept K (by omega)
  replace Y := Y.kept K (by omega)
  replace I := Lib.hid (I.out.kept K (fun h0 g off e => by have := nA.out h0 g off e; omega))
  replace J := Lib.hid (J.out.kept K (fun h0 g off e => by have := nG.out h0 g off e; omega))
  replace H := Lib.hid (kp_below H.out K (by have := B0.out; omega))
  clear K
  go_wp2_with (refine store_new rfl 24 (.tmp 4) (.tmp 16) rfl (w1.heap.size + 1) rfl (ins s1 p1 z1) rfl _ X (by simp) input_size rfl ?_)
  intro w3 K N
  replace X := N
  replace L := L.kept K (by omega)
  replace Y := Y.kept K (by omega)
  replace I := Lib.hid (I.out.kept K (fun h0 g off e => by have := nA.out h0 g off e; omega))
  replace J := Lib.hid (J.out.kept K (fun h0 g off e => by have := nG.out h0 g off e; omega))
  replace H := Lib.hid (kp_below H.out K (by have := B0.out; omega))
  clear K
  go_wp2_with (refine store_new rfl 24 (.tmp 5) (.tmp 17) rfl (w1.heap.size + 1 + 1) rfl (ins s2 p2 z2) rfl _ Y (by simp) input_size rfl ?_)
  intro w4 K N
  replace Y := N
  replace L := L.kept K (by omega)
  replace X := X.kept K (by omega)
  replace I := Lib.hid (I.out.kept K (fun h0 g off e => by have := nA.out h0 g off e; omega))
  replace J := Lib.hid (J.out.kept K (fun h0 g off e => by have := nG.out h0 g off e; omega))
  replace H := Lib.hid (kp_below H.out K (by have := B0.out; omega))
  clear K
  have V := Lib.hid (fun (W : World) (Z : Boxes W A n ws) (Y : Boxes W G m gs) => implIFol i t x y A n c G m kk fp fq fs fz b ws gs s1 p1 z1 s2 p2 z2 W Z Y hN hM)
  have S := Lib.hid (fun (W : World) (Z : Boxes W A n ws) (Y : Boxes W G m gs) => specIFol i t x y A n c G m kk fp fq fs fz b ws gs s1 p1 z1 s2 p2 z2 W Z Y hN hM)
  cases hf : ifB i t x y ws gs fp fq fs fz b s1 p1 z1 s2 p2 z2
  · rw [hf] at V S
    have Lc0 := L.cell 0 _ rfl
    have Lc1 := L.cell 1 _ rfl
    have Lc2 := L.cell 2 _ rfl
    have Lc3 := L.cell 3 _ rfl
    have Lc4 := L.cell 4 _ rfl
    have Lc5 := L.cell 5 _ rfl
    have Lc6 := L.cell 6 _ rfl
    have Lc7 := L.cell 7 _ rfl
    have Lc8 := L.cell 8 _ rfl
    have Lc9 := L.cell 9 _ rfl
    have Lc10 := L.cell 10 _ rfl
    have Ll := L.lt
    have Xc0 := X.cell 0 _ rfl
    have Xc1 := X.cell 1 _ rfl
    have Xc2 := X.cell 2 _ rfl
    have Xl := X.lt
    have Yc0 := Y.cell 0 _ rfl
    have Yc1 := Y.cell 1 _ rfl
    have Yc2 := Y.cell 2 _ rfl
    have Yl := Y.lt
    go_wp2_with fail
    refine (V.out _ I.out J.out).mono ?_
    rintro e w5 ⟨rfl, B⟩
    replace L := L.step B
    replace X := X.step B
    replace Y := Y.step B
    replace I := Lib.hid (I.out.step B)
    replace J := Lib.hid (J.out.step B)
    replace H := Lib.hid (bl_trans H.out B)
    clear B
    clear Lc0 Lc1 Lc2 Lc3 Lc4 Lc5 Lc6 Lc7 Lc8 Lc9 Lc10 Ll Xc0 Xc1 Xc2 Xl Yc0 Yc1 Yc2 Yl
    have Lc0 := L.cell 0 _ rfl
    have Lc1 := L.cell 1 _ rfl
    have Lc2 := L.cell 2 _ rfl
    have Lc3 := L.cell 3 _ rfl
    have Lc4 := L.cell 4 _ rfl
    have Lc5 := L.cell 5 _ rfl
    have Lc6 := L.cell 6 _ rfl
    have Lc7 := L.cell 7 _ rfl
    have Lc8 := L.cell 8 _ rfl
    have Lc9 := L.cell 9 _ rfl
    have Lc10 := L.cell 10 _ rfl
    have Ll := L.lt
    have Xc0 := X.cell 0 _ rfl
    have Xc1 := X.cell 1 _ rfl
    have Xc2 := X.cell 2 _ rfl
    have Xl := X.lt
    have Yc0 := Y.cell 0 _ rfl
    have Yc1 := Y.cell 1 _ rfl
    have Yc2 := Y.cell 2 _ rfl
    have Yl := Y.lt
    go_wp2_with fail
    refine (S.out _ I.out J.out).mono ?_
    rintro e w6 ⟨rfl, B⟩
    replace L := L.step B
    replace X := X.step B
    replace Y := Y.step B
    replace I := Lib.hid (I.out.step B)
    replace J := Lib.hid (J.out.step B)
    replace H := Lib.hid (bl_trans H.out B)
    clear B
    clear Lc0 Lc1 Lc2 Lc3 Lc4 Lc5 Lc6 Lc7 Lc8 Lc9 Lc10 Ll Xc0 Xc1 Xc2 Xl Yc0 Yc1 Yc2 Yl
    go_wp2
    go_ret
    exact ⟨rfl, H.out⟩
  rw [hf] at V S
  have Lc0 := L.cell 0 _ rfl
  have Lc1 := L.cell 1 _ rfl
  have Lc2 := L.cell 2 _ rfl
  have Lc3 := L.cell 3 _ rfl
  have Lc4 := L.cell 4 _ rfl
  have Lc5 := L.cell 5 _ rfl
  have Lc6 := L.cell 6 _ rfl
  have Lc7 := L.cell 7 _ rfl
  have Lc8 := L.cell 8 _ rfl
  have Lc9 := L.cell 9 _ rfl
  have Lc10 := L.cell 10 _ rfl
  have Ll := L.lt
  have Xc0 := X.cell 0 _ rfl
  have Xc1 := X.cell 1 _ rfl
  have Xc2 := X.cell 2 _ rfl
  have Xl := X.lt
  have Yc0 := Y.cell 0 _ rfl
  have Yc1 := Y.cell 1 _ rfl
  have Yc2 := Y.cell 2 _ rfl
  have Yl := Y.lt
  go_wp2_with fail
  refine (V.out _ I.out J.out).mono ?_
  rintro e w5 ⟨rfl, B⟩
  replace L := L.step B
  replace X := X.step B
  replace Y := Y.step B
  replace I := Lib.hid (I.out.step B)
  replace J := Lib.hid (J.out.step B)
  replace H := Lib.hid (bl_trans H.out B)
  clear B
  clear Lc0 Lc1 Lc2 Lc3 Lc4 Lc5 Lc6 Lc7 Lc8 Lc9 Lc10 Ll Xc0 Xc1 Xc2 Xl Yc0 Yc1 Yc2 Yl
  have Lc0 := L.cell 0 _ rfl
  have Lc1 := L.cell 1 _ rfl
  have Lc2 := L.cell 2 _ rfl
  have Lc3 := L.cell 3 _ rfl
  have Lc4 := L.cell 4 _ rfl
  have Lc5 := L.cell 5 _ rfl
  have Lc6 := L.cell 6 _ rfl
  have Lc7 := L.cell 7 _ rfl
  have Lc8 := L.cell 8 _ rfl
  have Lc9 := L.cell 9 _ rfl
  have Lc10 := L.cell 10 _ rfl
  have Ll := L.lt
  have Xc0 := X.cell 0 _ rfl
  have Xc1 := X.cell 1 _ rfl
  have Xc2 := X.cell 2 _ rfl
  have Xl := X.lt
  have Yc0 := Y.cell 0 _ rfl
  have Yc1 := Y.cell 1 _ rfl
  have Yc2 := Y.cell 2 _ rfl
  have Yl := Y.lt
  go_wp2_with fail
  refine (S.out _ I.out J.out).mono ?_
  rintro e w6 ⟨rfl, B⟩
  replace L := L.step B
  replace X := X.step B
  replace Y := Y.step B
  replace I := Lib.hid (I.out.step B)
  replace J := Lib.hid (J.out.step B)
  replace H := Lib.hid (bl_trans H.out B)
  clear B
  clear Lc0 Lc1 Lc2 Lc3 Lc4 Lc5 Lc6 Lc7 Lc8 Lc9 Lc10 Ll Xc0 Xc1 Xc2 Xl Yc0 Yc1 Yc2 Yl
  obtain ⟨_, v1, v2, _, _, d1, d2⟩ := if_all hf
  have U := Lib.hid (fun W => implIValid s2 p2 z2 W)
  rw [v2] at U
  have b1 := iv_bd v1
  have b2 := iv_bd v2
  have q1 : -1 ≤ s1 - s2 := by omega
  have q2 : s1 - s2 ≤ 1 := by omega
  clear V S v1 v2 b1 b2 d1 d2 hf
  have Lc0 := L.cell 0 _ rfl
  have Lc1 := L.cell 1 _ rfl
  have Lc2 := L.cell 2 _ rfl
  have Lc3 := L.cell 3 _ rfl
  have Lc4 := L.cell 4 _ rfl
  have Lc5 := L.cell 5 _ rfl
  have Lc6 := L.cell 6 _ rfl
  have Lc7 := L.cell 7 _ rfl
  have Lc8 := L.cell 8 _ rfl
  have Lc9 := L.cell 9 _ rfl
  have Lc10 := L.cell 10 _ rfl
  have Ll := L.lt
  have Xc0 := X.cell 0 _ rfl
  have Xc1 := X.cell 1 _ rfl
  have Xc2 := X.cell 2 _ rfl
  have Xl := X.lt
  have Yc0 := Y.cell 0 _ rfl
  have Yc1 := Y.cell 1 _ rfl
  have Yc2 := Y.cell 2 _ rfl
  have Yl := Y.lt
  go_wp2_with fail
  refine (U.out _).mono ?_
  rintro e w7 ⟨rfl, B⟩
  replace L := L.step B
  replace X := X.step B
  replace Y := Y.step B
  replace I := Lib.hid (I.out.step B)
  replace J := Lib.hid (J.out.step B)
  replace H := Lib.hid (bl_trans H.out B)
  clear B
  clear Lc0 Lc1 Lc2 Lc3 Lc4 Lc5 Lc6 Lc7 Lc8 Lc9 Lc10 Ll Xc0 Xc1 Xc2 Xl Yc0 Yc1 Yc2 Yl
  go_wp2
  go_ret
  exact ⟨rfl, H.out⟩

set_option maxRecDepth 100000 in
set_option maxHeartbeats 4000000 in
theorem walk_FnFollowsBans (a : Option Addr) (len cap : Nat) (zs : List Int) (w : World) (h : IsRow .u8 w a len cap zs) :
    Calls Try.prog 7 #[.slice a len cap] w fun e w' => e = .returned (.bool true) ∧ Below w.heap.size w w' := by
  have hm := h.bytes.1
  have hm2 := h.bytes.2.1
  unfold maxLen at hm2
  by_cases g : 1048576 < len
  · have g1 : (1048576 : Int) < (len : Int) := by omega
    go_enter Try.func7, Try.ntmps7
    go_wp2
    go_ret
    exact ⟨rfl, Below.refl _ _⟩
  have g1 : (len : Int) ≤ 1048576 := by omega
  clear g hm hm2
  go_enter Try.func7, Try.ntmps7
  go_wp2_with fail
  refine (draw_ifol a len cap zs w h).mono ?_
  rintro e w1 ⟨i, t, x, y, A, n, c, G, m, kk, fp, fq, fs, fz, b, ws, gs, s1, p1, z1, s2, p2, z2, hb, rfl, hn, hm, I, J, _, _, B⟩
  have L : CellsAt (((w1.alloc (.cells #[.int .i64 0, .int .i64 0, .int .i64 0, .int .i64 0, .slice none 0 0, .slice none 0 0, .int .i64 0, .int .i64 0, .int .i64 0, .int .i64 0, .int .i64 0] 38)).alloc (.cells #[.int .i64 0, .int .i64 0, .bool false] 24)).alloc (.cells #[.int .i64 0, .int .i64 0, .bool false] 24)) w1.heap.size (lvs 0 0 0 0 none 0 0 none 0 0 0 0 0 0 0) := ((CellsAt.new _ _ _ _ rfl).alloc _).alloc _
  have X : CellsAt (((w1.alloc (.cells #[.int .i64 0, .int .i64 0, .int .i64 0, .int .i64 0, .slice none 0 0, .slice none 0 0, .int .i64 0, .int .i64 0, .int .i64 0, .int .i64 0, .int .i64 0] 38)).alloc (.cells #[.int .i64 0, .int .i64 0, .bool false] 24)).alloc (.cells #[.int .i64 0, .int .i64 0, .bool false] 24)) (w1.heap.size + 1) (ins 0 0 false) := (CellsAt.new _ _ _ _ (by simp)).alloc _
  have Y : CellsAt (((w1.alloc (.cells #[.int .i64 0, .int .i64 0, .int .i64 0, .int .i64 0, .slice none 0 0, .slice none 0 0, .int .i64 0, .int .i64 0, .int .i64 0, .int .i64 0, .int .i64 0] 38)).alloc (.cells #[.int .i64 0, .int .i64 0, .bool false] 24)).alloc (.cells #[.int .i64 0, .int .i64 0, .bool false] 24)) (w1.heap.size + 1 + 1) (ins 0 0 false) := CellsAt.new _ _ _ _ (by simp)
  have nA := Lib.hid (show 0 < n → ∀ g off, A = some ⟨g, off, none⟩ → g < w1.heap.size from fun h0 g off e => lt_of_boxes I h0 e)
  have nG := Lib.hid (show 0 < m → ∀ g off, G = some ⟨g, off, none⟩ → g < w1.heap.size from fun h0 g off e => lt_of_boxes J h0 e)
  replace I := Lib.hid (((I.alloc (.cells #[.int .i64 0, .int .i64 0, .int .i64 0, .int .i64 0, .slice none 0 0, .slice none 0 0, .int .i64 0, .int .i64 0, .int .i64 0, .int .i64 0, .int .i64 0] 38)).alloc (.cells #[.int .i64 0, .int .i64 0, .bool false] 24)).alloc (.cells #[.int .i64 0, .int .i64 0, .bool false] 24))
  replace J := Lib.hid (((J.alloc (.cells #[.int .i64 0, .int .i64 0, .int .i64 0, .int .i64 0, .slice none 0 0, .slice none 0 0, .int .i64 0, .int .i64 0, .int .i64 0, .int .i64 0, .int .i64 0] 38)).alloc (.cells #[.int .i64 0, .int .i64 0, .bool false] 24)).alloc (.cells #[.int .i64 0, .int .i64 0, .bool false] 24))
  have B0 := Lib.hid B.size
  have H := Lib.hid (bl_alloc (bl_alloc (bl_alloc B (.cells #[.int .i64 0, .int .i64 0, .int .i64 0, .int .i64 0, .slice none 0 0, .slice none 0 0, .int .i64 0, .int .i64 0, .int .i64 0, .int .i64 0, .int .i64 0] 38)) (.cells #[.int .i64 0, .int .i64 0, .bool false] 24)) (.cells #[.int .i64 0, .int .i64 0, .bool false] 24))
  have hN : n ≤ 281474976710656 := by omega
  have hM : m ≤ 281474976710656 := by omega
  clear B h
  go_wp2_with (refine store_new rfl 38 (.tmp 3) (.tmp 14) rfl w1.heap.size rfl (lvs i t x y A n c G m kk fp fq fs fz b) rfl _ L (by simp) level_size rfl ?_)
  intro w2 K N
  replace L := N
  replace X := X.kept K (by omega)
  replace Y := Y.kept K (by omega)
  replace I := Lib.hid (I.out.kept K (fun h0 g off e => by have := nA.out h0 g off e; omega))
  replace J := Lib.hid (J.out.kept K (fun h0 g off e => by have := nG.out h0 g off e; omega))
  replace H := Lib.hid (kp_below H.out K (by have := B0.out; omega))
  clear K
  go_wp2_with (refine store_new rfl 24 (.tmp 4) (.tmp 15) rfl (w1.heap.size + 1) rfl (ins s1 p1 z1) rfl _ X (by simp) input_size rfl ?_)
  intro w3 K N
  replace X := N
  replace L := L.kept K (by omega)
  replace Y := Y.kept K (by omega)
  replace I := Lib.hid (I.out.kept K (fun h0 g off e => by have := nA.out h0 g off e; omega))
  replace J := Lib.hid (J.out.kept K (fun h0 g off e => by have := nG.out h0 g off e; omega))
  replace H := Lib.hid (kp_below H.out K (by have := B0.out; omega))
  clear K
  go_wp2_with (refine store_new rfl 24 (.tmp 5) (.tmp 16) rfl (w1.heap.size + 1 + 1) rfl (ins s2 p2 z2) rfl _ Y (by simp) input_size rfl ?_)
  intro w4 K N
  replace Y := N
  replace L := L.kept K (by omega)
  replace X := X.kept K (by omega)
  replace I := Lib.hid (I.out.kept K (fun h0 g off e => by have := nA.out h0 g off e; omega))
  replace J := Lib.hid (J.out.kept K (fun h0 g off e => by have := nG.out h0 g off e; omega))
  replace H := Lib.hid (kp_below H.out K (by have := B0.out; omega))
  clear K
  have V := Lib.hid (fun (W : World) (Z : Boxes W A n ws) (Y : Boxes W G m gs) => implIFol i t x y A n c G m kk fp fq fs fz b ws gs s1 p1 z1 s2 p2 z2 W Z Y hN hM)
  have S := Lib.hid (fun (W : World) (Z : Boxes W A n ws) (Y : Boxes W G m gs) => specIFol i t x y A n c G m kk fp fq fs fz b ws gs s1 p1 z1 s2 p2 z2 W Z Y hN hM)
  cases hf : ifB i t x y ws gs fp fq fs fz b s1 p1 z1 s2 p2 z2
  · rw [hf] at V S
    have Lc0 := L.cell 0 _ rfl
    have Lc1 := L.cell 1 _ rfl
    have Lc2 := L.cell 2 _ rfl
    have Lc3 := L.cell 3 _ rfl
    have Lc4 := L.cell 4 _ rfl
    have Lc5 := L.cell 5 _ rfl
    have Lc6 := L.cell 6 _ rfl
    have Lc7 := L.cell 7 _ rfl
    have Lc8 := L.cell 8 _ rfl
    have Lc9 := L.cell 9 _ rfl
    have Lc10 := L.cell 10 _ rfl
    have Ll := L.lt
    have Xc0 := X.cell 0 _ rfl
    have Xc1 := X.cell 1 _ rfl
    have Xc2 := X.cell 2 _ rfl
    have Xl := X.lt
    have Yc0 := Y.cell 0 _ rfl
    have Yc1 := Y.cell 1 _ rfl
    have Yc2 := Y.cell 2 _ rfl
    have Yl := Y.lt
    go_wp2_with fail
    refine (V.out _ I.out J.out).mono ?_
    rintro e w5 ⟨rfl, B⟩
    replace L := L.step B
    replace X := X.step B
    replace Y := Y.step B
    replace I := Lib.hid (I.out.step B)
    replace J := Lib.hid (J.out.step B)
    replace H := Lib.hid (bl_trans H.out B)
    clear B
    clear Lc0 Lc1 Lc2 Lc3 Lc4 Lc5 Lc6 Lc7 Lc8 Lc9 Lc10 Ll Xc0 Xc1 Xc2 Xl Yc0 Yc1 Yc2 Yl
    have Lc0 := L.cell 0 _ rfl
    have Lc1 := L.cell 1 _ rfl
    have Lc2 := L.cell 2 _ rfl
    have Lc3 := L.cell 3 _ rfl
    have Lc4 := L.cell 4 _ rfl
    have Lc5 := L.cell 5 _ rfl
    have Lc6 := L.cell 6 _ rfl
    have Lc7 := L.cell 7 _ rfl
    have Lc8 := L.cell 8 _ rfl
    have Lc9 := L.cell 9 _ rfl
    have Lc10 := L.cell 10 _ rfl
    have Ll := L.lt
    have Xc0 := X.cell 0 _ rfl
    have Xc1 := X.cell 1 _ rfl
    have Xc2 := X.cell 2 _ rfl
    have Xl := X.lt
    have Yc0 := Y.cell 0 _ rfl
    have Yc1 := Y.cell 1 _ rfl
    have Yc2 := Y.cell 2 _ rfl
    have Yl := Y.lt
    go_wp2_with fail
    refine (S.out _ I.out J.out).mono ?_
    rintro e w6 ⟨rfl, B⟩
    replace L := L.step B
    replace X := X.step B
    replace Y := Y.step B
    replace I := Lib.hid (I.out.step B)
    replace J := Lib.hid (J.out.step B)
    replace H := Lib.hid (bl_trans H.out B)
    clear B
    clear Lc0 Lc1 Lc2 Lc3 Lc4 Lc5 Lc6 Lc7 Lc8 Lc9 Lc10 Ll Xc0 Xc1 Xc2 Xl Yc0 Yc1 Yc2 Yl
    go_wp2
    go_ret
    exact ⟨rfl, H.out⟩
  rw [hf] at V S
  have Lc0 := L.cell 0 _ rfl
  have Lc1 := L.cell 1 _ rfl
  have Lc2 := L.cell 2 _ rfl
  have Lc3 := L.cell 3 _ rfl
  have Lc4 := L.cell 4 _ rfl
  have Lc5 := L.cell 5 _ rfl
  have Lc6 := L.cell 6 _ rfl
  have Lc7 := L.cell 7 _ rfl
  have Lc8 := L.cell 8 _ rfl
  have Lc9 := L.cell 9 _ rfl
  have Lc10 := L.cell 10 _ rfl
  have Ll := L.lt
  have Xc0 := X.cell 0 _ rfl
  have Xc1 := X.cell 1 _ rfl
  have Xc2 := X.cell 2 _ rfl
  have Xl := X.lt
  have Yc0 := Y.cell 0 _ rfl
  have Yc1 := Y.cell 1 _ rfl
  have Yc2 := Y.cell 2 _ rfl
  have Yl := Y.lt
  go_wp2_with fail
  refine (V.out _ I.out J.out).mono ?_
  rintro e w5 ⟨rfl, B⟩
  replace L := L.step B
  replace X := X.step B
  replace Y := Y.step B
  replace I := Lib.hid (I.out.step B)
  replace J := Lib.hid (J.out.step B)
  replace H := Lib.hid (bl_trans H.out B)
  clear B
  clear Lc0 Lc1 Lc2 Lc3 Lc4 Lc5 Lc6 Lc7 Lc8 Lc9 Lc10 Ll Xc0 Xc1 Xc2 Xl Yc0 Yc1 Yc2 Yl
  have Lc0 := L.cell 0 _ rfl
  have Lc1 := L.cell 1 _ rfl
  have Lc2 := L.cell 2 _ rfl
  have Lc3 := L.cell 3 _ rfl
  have Lc4 := L.cell 4 _ rfl
  have Lc5 := L.cell 5 _ rfl
  have Lc6 := L.cell 6 _ rfl
  have Lc7 := L.cell 7 _ rfl
  have Lc8 := L.cell 8 _ rfl
  have Lc9 := L.cell 9 _ rfl
  have Lc10 := L.cell 10 _ rfl
  have Ll := L.lt
  have Xc0 := X.cell 0 _ rfl
  have Xc1 := X.cell 1 _ rfl
  have Xc2 := X.cell 2 _ rfl
  have Xl := X.lt
  have Yc0 := Y.cell 0 _ rfl
  have Yc1 := Y.cell 1 _ rfl
  have Yc2 := Y.cell 2 _ rfl
  have Yl := Y.lt
  go_wp2_with fail
  refine (S.out _ I.out J.out).mono ?_
  rintro e w6 ⟨rfl, B⟩
  replace L := L.step B
  replace X := X.step B
  replace Y := Y.step B
  replace I := Lib.hid (I.out.step B)
  replace J := Lib.hid (J.out.step B)
  replace H := Lib.hid (bl_trans H.out B)
  clear B
  clear Lc0 Lc1 Lc2 Lc3 Lc4 Lc5 Lc6 Lc7 Lc8 Lc9 Lc10 Ll Xc0 Xc1 Xc2 Xl Yc0 Yc1 Yc2 Yl
  obtain ⟨v0, v1, v2, k2, k1, _⟩ := if_all hf
  have D1 := fun (W : World) (Z : Boxes W A n ws) (Y : Boxes W G m gs) => implLvBans i t x y A n c G m kk fp fq fs fz b ws gs 1 W Z Y hN hM
  have D2 := fun (W : World) (Z : Boxes W A n ws) (Y : Boxes W G m gs) => implLvBans i t x y A n c G m kk fp fq fs fz b ws gs 2 W Z Y hN hM
  clear V S hf
  by_cases hp : p2 = 2
  · subst hp
    cases z2
    · clear v1 v2
      rw [lb_val v0 (Or.inl rfl) (k1 rfl)] at D1
      replace D1 := Lib.hid D1
      replace D2 := Lib.hid D2
      clear v0 k1 k2
      have Lc0 := L.cell 0 _ rfl
      have Lc1 := L.cell 1 _ rfl
      have Lc2 := L.cell 2 _ rfl
      have Lc3 := L.cell 3 _ rfl
      have Lc4 := L.cell 4 _ rfl
      have Lc5 := L.cell 5 _ rfl
      have Lc6 := L.cell 6 _ rfl
      have Lc7 := L.cell 7 _ rfl
      have Lc8 := L.cell 8 _ rfl
      have Lc9 := L.cell 9 _ rfl
      have Lc10 := L.cell 10 _ rfl
      have Ll := L.lt
      have Xc0 := X.cell 0 _ rfl
      have Xc1 := X.cell 1 _ rfl
      have Xc2 := X.cell 2 _ rfl
      have Xl := X.lt
      have Yc0 := Y.cell 0 _ rfl
      have Yc1 := Y.cell 1 _ rfl
      have Yc2 := Y.cell 2 _ rfl
      have Yl := Y.lt
      go_wp2_with fail
      refine (D1.out _ I.out J.out).mono ?_
      rintro e w7 ⟨rfl, B⟩
      replace L := L.step B
      replace X := X.step B
      replace Y := Y.step B
      replace I := Lib.hid (I.out.step B)
      replace J := Lib.hid (J.out.step B)
      replace H := Lib.hid (bl_trans H.out B)
      clear B
      clear Lc0 Lc1 Lc2 Lc3 Lc4 Lc5 Lc6 Lc7 Lc8 Lc9 Lc10 Ll Xc0 Xc1 Xc2 Xl Yc0 Yc1 Yc2 Yl
      have Lc0 := L.cell 0 _ rfl
      have Lc1 := L.cell 1 _ rfl
      have Lc2 := L.cell 2 _ rfl
      have Lc3 := L.cell 3 _ rfl
      have Lc4 := L.cell 4 _ rfl
      have Lc5 := L.cell 5 _ rfl
      have Lc6 := L.cell 6 _ rfl
      have Lc7 := L.cell 7 _ rfl
      have Lc8 := L.cell 8 _ rfl
      have Lc9 := L.cell 9 _ rfl
      have Lc10 := L.cell 10 _ rfl
      have Ll := L.lt
      have Xc0 := X.cell 0 _ rfl
      have Xc1 := X.cell 1 _ rfl
      have Xc2 := X.cell 2 _ rfl
      have Xl := X.lt
      have Yc0 := Y.cell 0 _ rfl
      have Yc1 := Y.cell 1 _ rfl
      have Yc2 := Y.cell 2 _ rfl
      have Yl := Y.lt
      go_wp2
      go_ret
      exact ⟨rfl, H.out⟩
    · clear v1 v2
      rw [lb_val v0 (Or.inl rfl) (k1 rfl)] at D1
      rw [lb_val v0 (Or.inr rfl) (k2 rfl)] at D2
      replace D1 := Lib.hid D1
      replace D2 := Lib.hid D2
      clear v0 k1 k2
      have Lc0 := L.cell 0 _ rfl
      have Lc1 := L.cell 1 _ rfl
      have Lc2 := L.cell 2 _ rfl
      have Lc3 := L.cell 3 _ rfl
      have Lc4 := L.cell 4 _ rfl
      have Lc5 := L.cell 5 _ rfl
      have Lc6 := L.cell 6 _ rfl
      have Lc7 := L.cell 7 _ rfl
      have Lc8 := L.cell 8 _ rfl
      have Lc9 := L.cell 9 _ rfl
      have Lc10 := L.cell 10 _ rfl
      have Ll := L.lt
      have Xc0 := X.cell 0 _ rfl
      have Xc1 := X.cell 1 _ rfl
      have Xc2 := X.cell 2 _ rfl
      have Xl := X.lt
      have Yc0 := Y.cell 0 _ rfl
      have Yc1 := Y.cell 1 _ rfl
      have Yc2 := Y.cell 2 _ rfl
      have Yl := Y.lt
      go_wp2_with fail
      refine (D1.out _ I.out J.out).mono ?_
      rintro e w7 ⟨rfl, B⟩
      replace L := L.step B
      replace X := X.step B
      replace Y := Y.step B
      replace I := Lib.hid (I.out.step B)
      replace J := Lib.hid (J.out.step B)
      replace H := Lib.hid (bl_trans H.out B)
      clear B
      clear Lc0 Lc1 Lc2 Lc3 Lc4 Lc5 Lc6 Lc7 Lc8 Lc9 Lc10 Ll Xc0 Xc1 Xc2 Xl Yc0 Yc1 Yc2 Yl
      have Lc0 := L.cell 0 _ rfl
      have Lc1 := L.cell 1 _ rfl
      have Lc2 := L.cell 2 _ rfl
      have Lc3 := L.cell 3 _ rfl
      have Lc4 := L.cell 4 _ rfl
      have Lc5 := L.cell 5 _ rfl
      have Lc6 := L.cell 6 _ rfl
      have Lc7 := L.cell 7 _ rfl
      have Lc8 := L.cell 8 _ rfl
      have Lc9 := L.cell 9 _ rfl
      have Lc10 := L.cell 10 _ rfl
      have Ll := L.lt
      have Xc0 := X.cell 0 _ rfl
      have Xc1 := X.cell 1 _ rfl
      have Xc2 := X.cell 2 _ rfl
      have Xl := X.lt
      have Yc0 := Y.cell 0 _ rfl
      have Yc1 := Y.cell 1 _ rfl
      have Yc2 := Y.cell 2 _ rfl
      have Yl := Y.lt
      go_wp2_with fail
      refine (D2.out _ I.out J.out).mono ?_
      rintro e w8 ⟨rfl, B⟩
      replace L := L.step B
      replace X := X.step B
      replace Y := Y.step B
      replace I := Lib.hid (I.out.step B)
      replace J := Lib.hid (J.out.step B)
      replace H := Lib.hid (bl_trans H.out B)
      clear B
      clear Lc0 Lc1 Lc2 Lc3 Lc4 Lc5 Lc6 Lc7 Lc8 Lc9 Lc10 Ll Xc0 Xc1 Xc2 Xl Yc0 Yc1 Yc2 Yl
      have Lc0 := L.cell 0 _ rfl
      have Lc1 := L.cell 1 _ rfl
      have Lc2 := L.cell 2 _ rfl
      have Lc3 := L.cell 3 _ rfl
      have Lc4 := L.cell 4 _ rfl
      have Lc5 := L.cell 5 _ rfl
      have Lc6 := L.cell 6 _ rfl
      have Lc7 := L.cell 7 _ rfl
      have Lc8 := L.cell 8 _ rfl
      have Lc9 := L.cell 9 _ rfl
      have Lc10 := L.cell 10 _ rfl
      have Ll := L.lt
      have Xc0 := X.cell 0 _ rfl
      have Xc1 := X.cell 1 _ rfl
      have Xc2 := X.cell 2 _ rfl
      have Xl := X.lt
      have Yc0 := Y.cell 0 _ rfl
      have Yc1 := Y.cell 1 _ rfl
      have Yc2 := Y.cell 2 _ rfl
      have Yl := Y.lt
      go_wp2
      go_ret
      exact ⟨rfl, H.out⟩
  have pd : (p2 == 2) = false := beq_eq_false_iff_ne.2 hp
  clear hp
  cases z2
  · clear v1 v2
    replace D1 := Lib.hid D1
    replace D2 := Lib.hid D2
    clear v0 k1 k2
    have Lc0 := L.cell 0 _ rfl
    have Lc1 := L.cell 1 _ rfl
    have Lc2 := L.cell 2 _ rfl
    have Lc3 := L.cell 3 _ rfl
    have Lc4 := L.cell 4 _ rfl
    have Lc5 := L.cell 5 _ rfl
    have Lc6 := L.cell 6 _ rfl
    have Lc7 := L.cell 7 _ rfl
    have Lc8 := L.cell 8 _ rfl
    have Lc9 := L.cell 9 _ rfl
    have Lc10 := L.cell 10 _ rfl
    have Ll := L.lt
    have Xc0 := X.cell 0 _ rfl
    have Xc1 := X.cell 1 _ rfl
    have Xc2 := X.cell 2 _ rfl
    have Xl := X.lt
    have Yc0 := Y.cell 0 _ rfl
    have Yc1 := Y.cell 1 _ rfl
    have Yc2 := Y.cell 2 _ rfl
    have Yl := Y.lt
    go_wp2
    go_ret
    exact ⟨rfl, H.out⟩
  · clear v1 v2
    rw [lb_val v0 (Or.inr rfl) (k2 rfl)] at D2
    replace D1 := Lib.hid D1
    replace D2 := Lib.hid D2
    clear v0 k1 k2
    have Lc0 := L.cell 0 _ rfl
    have Lc1 := L.cell 1 _ rfl
    have Lc2 := L.cell 2 _ rfl
    have Lc3 := L.cell 3 _ rfl
    have Lc4 := L.cell 4 _ rfl
    have Lc5 := L.cell 5 _ rfl
    have Lc6 := L.cell 6 _ rfl
    have Lc7 := L.cell 7 _ rfl
    have Lc8 := L.cell 8 _ rfl
    have Lc9 := L.cell 9 _ rfl
    have Lc10 := L.cell 10 _ rfl
    have Ll := L.lt
    have Xc0 := X.cell 0 _ rfl
    have Xc1 := X.cell 1 _ rfl
    have Xc2 := X.cell 2 _ rfl
    have Xl := X.lt
    have Yc0 := Y.cell 0 _ rfl
    have Yc1 := Y.cell 1 _ rfl
    have Yc2 := Y.cell 2 _ rfl
    have Yl := Y.lt
    go_wp2_with fail
    refine (D2.out _ I.out J.out).mono ?_
    rintro e w7 ⟨rfl, B⟩
    replace L := L.step B
    replace X := X.step B
    replace Y := Y.step B
    replace I := Lib.hid (I.out.step B)
    replace J := Lib.hid (J.out.step B)
    replace H := Lib.hid (bl_trans H.out B)
    clear B
    clear Lc0 Lc1 Lc2 Lc3 Lc4 Lc5 Lc6 Lc7 Lc8 Lc9 Lc10 Ll Xc0 Xc1 Xc2 Xl Yc0 Yc1 Yc2 Yl
    have Lc0 := L.cell 0 _ rfl
    have Lc1 := L.cell 1 _ rfl
    have Lc2 := L.cell 2 _ rfl
    have Lc3 := L.cell 3 _ rfl
    have Lc4 := L.cell 4 _ rfl
    have Lc5 := L.cell 5 _ rfl
    have Lc6 := L.cell 6 _ rfl
    have Lc7 := L.cell 7 _ rfl
    have Lc8 := L.cell 8 _ rfl
    have Lc9 := L.cell 9 _ rfl
    have Lc10 := L.cell 10 _ rfl
    have Ll := L.lt
    have Xc0 := X.cell 0 _ rfl
    have Xc1 := X.cell 1 _ rfl
    have Xc2 := X.cell 2 _ rfl
    have Xl := X.lt
    have Yc0 := Y.cell 0 _ rfl
    have Yc1 := Y.cell 1 _ rfl
    have Yc2 := Y.cell 2 _ rfl
    have Yl := Y.lt
    go_wp2
    go_ret
    exact ⟨rfl, H.out⟩

set_option maxRecDepth 100000 in
set_option maxHeartbeats 4000000 in
theorem walk_FnFollowsSelf (a : Option Addr) (len cap : Nat) (zs : List Int) (w : World) (h : IsRow .u8 w a len cap zs) :
    Calls Try.prog 8 #[.slice a len cap] w fun e w' => e = .returned (.bool true) ∧ Below w.heap.size w w' := by
  have hm := h.bytes.1
  have hm2 := h.bytes.2.1
  unfold maxLen at hm2
  by_cases g : 1048576 < len
  · have g1 : (1048576 : Int) < (len : Int) := by omega
    go_enter Try.func8, Try.ntmps8
    go_wp2
    go_ret
    exact ⟨rfl, Below.refl _ _⟩
  have g1 : (len : Int) ≤ 1048576 := by omega
  clear g hm hm2
  go_enter Try.func8, Try.ntmps8
  go_wp2_with fail
  refine (draw_ifol a len cap zs w h).mono ?_
  rintro e w1 ⟨i, t, x, y, A, n, c, G, m, kk, fp, fq, fs, fz, b, ws, gs, s1, p1, z1, s2, p2, z2, hb, rfl, hn, hm, I, J, _, _, B⟩
  have L : CellsAt (((w1.alloc (.cells #[.int .i64 0, .int .i64 0, .int .i64 0, .int .i64 0, .slice none 0 0, .slice none 0 0, .int .i64 0, .int .i64 0, .int .i64 0, .int .i64 0, .int .i64 0] 38)).alloc (.cells #[.int .i64 0, .int .i64 0, .bool false] 24)).alloc (.cells #[.int .i64 0, .int .i64 0, .bool false] 24)) w1.heap.size (lvs 0 0 0 0 none 0 0 none 0 0 0 0 0 0 0) := ((CellsAt.new _ _ _ _ rfl).alloc _).alloc _
  have X : CellsAt (((w1.alloc (.cells #[.int .i64 0, .int .i64 0, .int .i64 0, .int .i64 0, .slice none 0 0, .slice none 0 0, .int .i64 0, .int .i64 0, .int .i64 0, .int .i64 0, .int .i64 0] 38)).alloc (.cells #[.int .i64 0, .int .i64 0, .bool false] 24)).alloc (.cells #[.int .i64 0, .int .i64 0, .bool false] 24)) (w1.heap.size + 1) (ins 0 0 false) := (CellsAt.new _ _ _ _ (by simp)).alloc _
  have Y : CellsAt (((w1.alloc (.cells #[.int .i64 0, .int .i64 0, .int .i64 0, .int .i64 0, .slice none 0 0, .slice none 0 0, .int .i64 0, .int .i64 0, .int .i64 0, .int .i64 0, .int .i64 0] 38)).alloc (.cells #[.int .i64 0, .int .i64 0, .bool false] 24)).alloc (.cells #[.int .i64 0, .int .i64 0, .bool false] 24)) (w1.heap.size + 1 + 1) (ins 0 0 false) := CellsAt.new _ _ _ _ (by simp)
  have nA := Lib.hid (show 0 < n → ∀ g off, A = some ⟨g, off, none⟩ → g < w1.heap.size from fun h0 g off e => lt_of_boxes I h0 e)
  have nG := Lib.hid (show 0 < m → ∀ g off, G = some ⟨g, off, none⟩ → g < w1.heap.size from fun h0 g off e => lt_of_boxes J h0 e)
  replace I := Lib.hid (((I.alloc (.cells #[.int .i64 0, .int .i64 0, .int .i64 0, .int .i64 0, .slice none 0 0, .slice none 0 0, .int .i64 0, .int .i64 0, .int .i64 0, .int .i64 0, .int .i64 0] 38)).alloc (.cells #[.int .i64 0, .int .i64 0, .bool false] 24)).alloc (.cells #[.int .i64 0, .int .i64 0, .bool false] 24))
  replace J := Lib.hid (((J.alloc (.cells #[.int .i64 0, .int .i64 0, .int .i64 0, .int .i64 0, .slice none 0 0, .slice none 0 0, .int .i64 0, .int .i64 0, .int .i64 0, .int .i64 0, .int .i64 0] 38)).alloc (.cells #[.int .i64 0, .int .i64 0, .bool false] 24)).alloc (.cells #[.int .i64 0, .int .i64 0, .bool false] 24))
  have B0 := Lib.hid B.size
  have H := Lib.hid (bl_alloc (bl_alloc (bl_alloc B (.cells #[.int .i64 0, .int .i64 0, .int .i64 0, .int .i64 0, .slice none 0 0, .slice none 0 0, .int .i64 0, .int .i64 0, .int .i64 0, .int .i64 0, .int .i64 0] 38)) (.cells #[.int .i64 0, .int .i64 0, .bool false] 24)) (.cells #[.int .i64 0, .int .i64 0, .bool false] 24))
  have hN : n ≤ 281474976710656 := by omega
  have hM : m ≤ 281474976710656 := by omega
  clear B h
  go_wp2_with (refine store_new rfl 38 (.tmp 3) (.tmp 14) rfl w1.heap.size rfl (lvs i t x y A n c G m kk fp fq fs fz b) rfl _ L (by simp) level_size rfl ?_)
  intro w2 K N
  replace L := N
  replace X := X.kept K (by omega)
  replace Y := Y.kept K (by omega)
  replace I := Lib.hid (I.out.kept K (fun h0 g off e => by have := nA.out h0 g off e; omega))
  replace J := Lib.hid (J.out.kept K (fun h0 g off e => by have := nG.out h0 g off e; omega))
  replace H := Lib.hid (kp_below H.out K (by have := B0.out; omega))
  clear K
  go_wp2_with (refine store_new rfl 24 (.tmp 4) (.tmp 15) rfl (w1.heap.size + 1) rfl (ins s1 p1 z1) rfl _ X (by simp) input_size rfl ?_)
  intro w3 K N
  replace X := N
  replace L := L.kept K (by omega)
  replace Y := Y.kept K (by omega)
  replace I := Lib.hid (I.out.kept K (fun h0 g off e => by have := nA.out h0 g off e; omega))
  replace J := Lib.hid (J.out.kept K (fun h0 g off e => by have := nG.out h0 g off e; omega))
  replace H := Lib.hid (kp_below H.out K (by have := B0.out; omega))
  clear K
  go_wp2_with (refine store_new rfl 24 (.tmp 5) (.tmp 16) rfl (w1.heap.size + 1 + 1) rfl (ins s2 p2 z2) rfl _ Y (by simp) input_size rfl ?_)
  intro w4 K N
  replace Y := N
  replace L := L.kept K (by omega)
  replace X := X.kept K (by omega)
  replace I := Lib.hid (I.out.kept K (fun h0 g off e => by have := nA.out h0 g off e; omega))
  replace J := Lib.hid (J.out.kept K (fun h0 g off e => by have := nG.out h0 g off e; omega))
  replace H := Lib.hid (kp_below H.out K (by have := B0.out; omega))
  clear K
  have V := Lib.hid (fun (W : World) (Z : Boxes W A n ws) (Y : Boxes W G m gs) => implIFol i t x y A n c G m kk fp fq fs fz b ws gs s1 p1 z1 s2 p2 z2 W Z Y hN hM)
  have S := Lib.hid (fun (W : World) (Z : Boxes W A n ws) (Y : Boxes W G m gs) => specIFol i t x y A n c G m kk fp fq fs fz b ws gs s1 p1 z1 s2 p2 z2 W Z Y hN hM)
  have T := fun (W : World) (Z : Boxes W A n ws) (Y : Boxes W G m gs) => specLvValid i t x y A n c G m kk fp fq fs fz b ws gs W Z Y hN hM
  have U := fun W => specIValid s1 p1 z1 W
  have E1 := (fun (W : World) (Z : Boxes W A n ws) (Y : Boxes W G m gs) => implIFol i t x y A n c G m kk fp fq fs fz b ws gs s1 p1 z1 s1 p1 z1 W Z Y hN hM)
  have E2 := (fun (W : World) (Z : Boxes W A n ws) (Y : Boxes W G m gs) => implIFol i t x y A n c G m kk fp fq fs fz b ws gs s1 p1 z1 0 0 false W Z Y hN hM)
  generalize ifB i t x y ws gs fp fq fs fz b s1 p1 z1 s2 p2 z2 = bb at *
  cases hv : lvB i t x y ws gs fp fq fs fz b
  · rw [hv] at T
    replace T := Lib.hid T
    clear U E1 E2
    cases bb
    all_goals
      have Lc0 := L.cell 0 _ rfl
      have Lc1 := L.cell 1 _ rfl
      have Lc2 := L.cell 2 _ rfl
      have Lc3 := L.cell 3 _ rfl
      have Lc4 := L.cell 4 _ rfl
      have Lc5 := L.cell 5 _ rfl
      have Lc6 := L.cell 6 _ rfl
      have Lc7 := L.cell 7 _ rfl
      have Lc8 := L.cell 8 _ rfl
      have Lc9 := L.cell 9 _ rfl
      have Lc10 := L.cell 10 _ rfl
      have Ll := L.lt
      have Xc0 := X.cell 0 _ rfl
      have Xc1 := X.cell 1 _ rfl
      have Xc2 := X.cell 2 _ rfl
      have Xl := X.lt
      have Yc0 := Y.cell 0 _ rfl
      have Yc1 := Y.cell 1 _ rfl
      have Yc2 := Y.cell 2 _ rfl
      have Yl := Y.lt
      go_wp2_with fail
      refine (V.out _ I.out J.out).mono ?_
      rintro e w5 ⟨rfl, B⟩
      replace L := L.step B
      replace X := X.step B
      replace Y := Y.step B
      replace I := Lib.hid (I.out.step B)
      replace J := Lib.hid (J.out.step B)
      replace H := Lib.hid (bl_trans H.out B)
      clear B
      clear Lc0 Lc1 Lc2 Lc3 Lc4 Lc5 Lc6 Lc7 Lc8 Lc9 Lc10 Ll Xc0 Xc1 Xc2 Xl Yc0 Yc1 Yc2 Yl
      have Lc0 := L.cell 0 _ rfl
      have Lc1 := L.cell 1 _ rfl
      have Lc2 := L.cell 2 _ rfl
      have Lc3 := L.cell 3 _ rfl
      have Lc4 := L.cell 4 _ rfl
      have Lc5 := L.cell 5 _ rfl
      have Lc6 := L.cell 6 _ rfl
      have Lc7 := L.cell 7 _ rfl
      have Lc8 := L.cell 8 _ rfl
      have Lc9 := L.cell 9 _ rfl
      have Lc10 := L.cell 10 _ rfl
      have Ll := L.lt
      have Xc0 := X.cell 0 _ rfl
      have Xc1 := X.cell 1 _ rfl
      have Xc2 := X.cell 2 _ rfl
      have Xl := X.lt
      have Yc0 := Y.cell 0 _ rfl
      have Yc1 := Y.cell 1 _ rfl
      have Yc2 := Y.cell 2 _ rfl
      have Yl := Y.lt
      go_wp2_with fail
      refine (S.out _ I.out J.out).mono ?_
      rintro e w6 ⟨rfl, B⟩
      replace L := L.step B
      replace X := X.step B
      replace Y := Y.step B
      replace I := Lib.hid (I.out.step B)
      replace J := Lib.hid (J.out.step B)
      replace H := Lib.hid (bl_trans H.out B)
      clear B
      clear Lc0 Lc1 Lc2 Lc3 Lc4 Lc5 Lc6 Lc7 Lc8 Lc9 Lc10 Ll Xc0 Xc1 Xc2 Xl Yc0 Yc1 Yc2 Yl
      have Lc0 := L.cell 0 _ rfl
      have Lc1 := L.cell 1 _ rfl
      have Lc2 := L.cell 2 _ rfl
      have Lc3 := L.cell 3 _ rfl
      have Lc4 := L.cell 4 _ rfl
      have Lc5 := L.cell 5 _ rfl
      have Lc6 := L.cell 6 _ rfl
      have Lc7 := L.cell 7 _ rfl
      have Lc8 := L.cell 8 _ rfl
      have Lc9 := L.cell 9 _ rfl
      have Lc10 := L.cell 10 _ rfl
      have Ll := L.lt
      have Xc0 := X.cell 0 _ rfl
      have Xc1 := X.cell 1 _ rfl
      have Xc2 := X.cell 2 _ rfl
      have Xl := X.lt
      have Yc0 := Y.cell 0 _ rfl
      have Yc1 := Y.cell 1 _ rfl
      have Yc2 := Y.cell 2 _ rfl
      have Yl := Y.lt
      go_wp2_with fail
      refine (T.out _ I.out J.out).mono ?_
      rintro e w7 ⟨rfl, B⟩
      replace L := L.step B
      replace X := X.step B
      replace Y := Y.step B
      replace I := Lib.hid (I.out.step B)
      replace J := Lib.hid (J.out.step B)
      replace H := Lib.hid (bl_trans H.out B)
      clear B
      clear Lc0 Lc1 Lc2 Lc3 Lc4 Lc5 Lc6 Lc7 Lc8 Lc9 Lc10 Ll Xc0 Xc1 Xc2 Xl Yc0 Yc1 Yc2 Yl
      have Lc0 := L.cell 0 _ rfl
      have Lc1 := L.cell 1 _ rfl
      have Lc2 := L.cell 2 _ rfl
      have Lc3 := L.cell 3 _ rfl
      have Lc4 := L.cell 4 _ rfl
      have Lc5 := L.cell 5 _ rfl
      have Lc6 := L.cell 6 _ rfl
      have Lc7 := L.cell 7 _ rfl
      have Lc8 := L.cell 8 _ rfl
      have Lc9 := L.cell 9 _ rfl
      have Lc10 := L.cell 10 _ rfl
      have Ll := L.lt
      have Xc0 := X.cell 0 _ rfl
      have Xc1 := X.cell 1 _ rfl
      have Xc2 := X.cell 2 _ rfl
      have Xl := X.lt
      have Yc0 := Y.cell 0 _ rfl
      have Yc1 := Y.cell 1 _ rfl
      have Yc2 := Y.cell 2 _ rfl
      have Yl := Y.lt
      go_wp2
      go_ret
      exact ⟨rfl, H.out⟩
  cases hu : inV s1 p1 z1
  · rw [hv] at T
    rw [hu] at U
    replace T := Lib.hid T
    replace U := Lib.hid U
    clear E1 E2
    cases bb
    all_goals
      have Lc0 := L.cell 0 _ rfl
      have Lc1 := L.cell 1 _ rfl
      have Lc2 := L.cell 2 _ rfl
      have Lc3 := L.cell 3 _ rfl
      have Lc4 := L.cell 4 _ rfl
      have Lc5 := L.cell 5 _ rfl
      have Lc6 := L.cell 6 _ rfl
      have Lc7 := L.cell 7 _ rfl
      have Lc8 := L.cell 8 _ rfl
      have Lc9 := L.cell 9 _ rfl
      have Lc10 := L.cell 10 _ rfl
      have Ll := L.lt
      have Xc0 := X.cell 0 _ rfl
      have Xc1 := X.cell 1 _ rfl
      have Xc2 := X.cell 2 _ rfl
      have Xl := X.lt
      have Yc0 := Y.cell 0 _ rfl
      have Yc1 := Y.cell 1 _ rfl
      have Yc2 := Y.cell 2 _ rfl
      have Yl := Y.lt
      go_wp2_with fail
      refine (V.out _ I.out J.out).mono ?_
      rintro e w5 ⟨rfl, B⟩
      replace L := L.step B
      replace X := X.step B
      replace Y := Y.step B
      replace I := Lib.hid (I.out.step B)
      replace J := Lib.hid (J.out.step B)
      replace H := Lib.hid (bl_trans H.out B)
      clear B
      clear Lc0 Lc1 Lc2 Lc3 Lc4 Lc5 Lc6 Lc7 Lc8 Lc9 Lc10 Ll Xc0 Xc1 Xc2 Xl Yc0 Yc1 Yc2 Yl
      have Lc0 := L.cell 0 _ rfl
      have Lc1 := L.cell 1 _ rfl
      have Lc2 := L.cell 2 _ rfl
      have Lc3 := L.cell 3 _ rfl
      have Lc4 := L.cell 4 _ rfl
      have Lc5 := L.cell 5 _ rfl
      have Lc6 := L.cell 6 _ rfl
      have Lc7 := L.cell 7 _ rfl
      have Lc8 := L.cell 8 _ rfl
      have Lc9 := L.cell 9 _ rfl
      have Lc10 := L.cell 10 _ rfl
      have Ll := L.lt
      have Xc0 := X.cell 0 _ rfl
      have Xc1 := X.cell 1 _ rfl
      have Xc2 := X.cell 2 _ rfl
      have Xl := X.lt
      have Yc0 := Y.cell 0 _ rfl
      have Yc1 := Y.cell 1 _ rfl
      have Yc2 := Y.cell 2 _ rfl
      have Yl := Y.lt
      go_wp2_with fail
      refine (S.out _ I.out J.out).mono ?_
      rintro e w6 ⟨rfl, B⟩
      replace L := L.step B
      replace X := X.step B
      replace Y := Y.step B
      replace I := Lib.hid (I.out.step B)
      replace J := Lib.hid (J.out.step B)
      replace H := Lib.hid (bl_trans H.out B)
      clear B
      clear Lc0 Lc1 Lc2 Lc3 Lc4 Lc5 Lc6 Lc7 Lc8 Lc9 Lc10 Ll Xc0 Xc1 Xc2 Xl Yc0 Yc1 Yc2 Yl
      have Lc0 := L.cell 0 _ rfl
      have Lc1 := L.cell 1 _ rfl
      have Lc2 := L.cell 2 _ rfl
      have Lc3 := L.cell 3 _ rfl
      have Lc4 := L.cell 4 _ rfl
      have Lc5 := L.cell 5 _ rfl
      have Lc6 := L.cell 6 _ rfl
      have Lc7 := L.cell 7 _ rfl
      have Lc8 := L.cell 8 _ rfl
      have Lc9 := L.cell 9 _ rfl
      have Lc10 := L.cell 10 _ rfl
      have Ll := L.lt
      have Xc0 := X.cell 0 _ rfl
      have Xc1 := X.cell 1 _ rfl
      have Xc2 := X.cell 2 _ rfl
      have Xl := X.lt
      have Yc0 := Y.cell 0 _ rfl
      have Yc1 := Y.cell 1 _ rfl
      have Yc2 := Y.cell 2 _ rfl
      have Yl := Y.lt
      go_wp2_with fail
      refine (T.out _ I.out J.out).mono ?_
      rintro e w7 ⟨rfl, B⟩
      replace L := L.step B
      replace X := X.step B
      replace Y := Y.step B
      replace I := Lib.hid (I.out.step B)
      replace J := Lib.hid (J.out.step B)
      replace H := Lib.hid (bl_trans H.out B)
      clear B
      clear Lc0 Lc1 Lc2 Lc3 Lc4 Lc5 Lc6 Lc7 Lc8 Lc9 Lc10 Ll Xc0 Xc1 Xc2 Xl Yc0 Yc1 Yc2 Yl
      have Lc0 := L.cell 0 _ rfl
      have Lc1 := L.cell 1 _ rfl
      have Lc2 := L.cell 2 _ rfl
      have Lc3 := L.cell 3 _ rfl
      have Lc4 := L.cell 4 _ rfl
      have Lc5 := L.cell 5 _ rfl
      have Lc6 := L.cell 6 _ rfl
      have Lc7 := L.cell 7 _ rfl
      have Lc8 := L.cell 8 _ rfl
      have Lc9 := L.cell 9 _ rfl
      have Lc10 := L.cell 10 _ rfl
      have Ll := L.lt
      have Xc0 := X.cell 0 _ rfl
      have Xc1 := X.cell 1 _ rfl
      have Xc2 := X.cell 2 _ rfl
      have Xl := X.lt
      have Yc0 := Y.cell 0 _ rfl
      have Yc1 := Y.cell 1 _ rfl
      have Yc2 := Y.cell 2 _ rfl
      have Yl := Y.lt
      go_wp2_with fail
      refine (U.out _).mono ?_
      rintro e w8 ⟨rfl, B⟩
      replace L := L.step B
      replace X := X.step B
      replace Y := Y.step B
      replace I := Lib.hid (I.out.step B)
      replace J := Lib.hid (J.out.step B)
      replace H := Lib.hid (bl_trans H.out B)
      clear B
      clear Lc0 Lc1 Lc2 Lc3 Lc4 Lc5 Lc6 Lc7 Lc8 Lc9 Lc10 Ll Xc0 Xc1 Xc2 Xl Yc0 Yc1 Yc2 Yl
      have Lc0 := L.cell 0 _ rfl
      have Lc1 := L.cell 1 _ rfl
      have Lc2 := L.cell 2 _ rfl
      have Lc3 := L.cell 3 _ rfl
      have Lc4 := L.cell 4 _ rfl
      have Lc5 := L.cell 5 _ rfl
      have Lc6 := L.cell 6 _ rfl
      have Lc7 := L.cell 7 _ rfl
      have Lc8 := L.cell 8 _ rfl
      have Lc9 := L.cell 9 _ rfl
      have Lc10 := L.cell 10 _ rfl
      have Ll := L.lt
      have Xc0 := X.cell 0 _ rfl
      have Xc1 := X.cell 1 _ rfl
      have Xc2 := X.cell 2 _ rfl
      have Xl := X.lt
      have Yc0 := Y.cell 0 _ rfl
      have Yc1 := Y.cell 1 _ rfl
      have Yc2 := Y.cell 2 _ rfl
      have Yl := Y.lt
      go_wp2
      go_ret
      exact ⟨rfl, H.out⟩
  by_cases hp : p1 = 2
  · subst hp
    rw [hv] at T
    rw [hu] at U
    replace T := Lib.hid T
    replace U := Lib.hid U
    clear E1 E2 hu
    cases bb
    all_goals
      have Lc0 := L.cell 0 _ rfl
      have Lc1 := L.cell 1 _ rfl
      have Lc2 := L.cell 2 _ rfl
      have Lc3 := L.cell 3 _ rfl
      have Lc4 := L.cell 4 _ rfl
      have Lc5 := L.cell 5 _ rfl
      have Lc6 := L.cell 6 _ rfl
      have Lc7 := L.cell 7 _ rfl
      have Lc8 := L.cell 8 _ rfl
      have Lc9 := L.cell 9 _ rfl
      have Lc10 := L.cell 10 _ rfl
      have Ll := L.lt
      have Xc0 := X.cell 0 _ rfl
      have Xc1 := X.cell 1 _ rfl
      have Xc2 := X.cell 2 _ rfl
      have Xl := X.lt
      have Yc0 := Y.cell 0 _ rfl
      have Yc1 := Y.cell 1 _ rfl
      have Yc2 := Y.cell 2 _ rfl
      have Yl := Y.lt
      go_wp2_with fail
      refine (V.out _ I.out J.out).mono ?_
      rintro e w5 ⟨rfl, B⟩
      replace L := L.step B
      replace X := X.step B
      replace Y := Y.step B
      replace I := Lib.hid (I.out.step B)
      replace J := Lib.hid (J.out.step B)
      replace H := Lib.hid (bl_trans H.out B)
      clear B
      clear Lc0 Lc1 Lc2 Lc3 Lc4 Lc5 Lc6 Lc7 Lc8 Lc9 Lc10 Ll Xc0 Xc1 Xc2 Xl Yc0 Yc1 Yc2 Yl
      have Lc0 := L.cell 0 _ rfl
      have Lc1 := L.cell 1 _ rfl
      have Lc2 := L.cell 2 _ rfl
      have Lc3 := L.cell 3 _ rfl
      have Lc4 := L.cell 4 _ rfl
      have Lc5 := L.cell 5 _ rfl
      have Lc6 := L.cell 6 _ rfl
      have Lc7 := L.cell 7 _ rfl
      have Lc8 := L.cell 8 _ rfl
      have Lc9 := L.cell 9 _ rfl
      have Lc10 := L.cell 10 _ rfl
      have Ll := L.lt
      have Xc0 := X.cell 0 _ rfl
      have Xc1 := X.cell 1 _ rfl
      have Xc2 := X.cell 2 _ rfl
      have Xl := X.lt
      have Yc0 := Y.cell 0 _ rfl
      have Yc1 := Y.cell 1 _ rfl
      have Yc2 := Y.cell 2 _ rfl
      have Yl := Y.lt
      go_wp2_with fail
      refine (S.out _ I.out J.out).mono ?_
      rintro e w6 ⟨rfl, B⟩
      replace L := L.step B
      replace X := X.step B
      replace Y := Y.step B
      replace I := Lib.hid (I.out.step B)
      replace J := Lib.hid (J.out.step B)
      replace H := Lib.hid (bl_trans H.out B)
      clear B
      clear Lc0 Lc1 Lc2 Lc3 Lc4 Lc5 Lc6 Lc7 Lc8 Lc9 Lc10 Ll Xc0 Xc1 Xc2 Xl Yc0 Yc1 Yc2 Yl
      have Lc0 := L.cell 0 _ rfl
      have Lc1 := L.cell 1 _ rfl
      have Lc2 := L.cell 2 _ rfl
      have Lc3 := L.cell 3 _ rfl
      have Lc4 := L.cell 4 _ rfl
      have Lc5 := L.cell 5 _ rfl
      have Lc6 := L.cell 6 _ rfl
      have Lc7 := L.cell 7 _ rfl
      have Lc8 := L.cell 8 _ rfl
      have Lc9 := L.cell 9 _ rfl
      have Lc10 := L.cell 10 _ rfl
      have Ll := L.lt
      have Xc0 := X.cell 0 _ rfl
      have Xc1 := X.cell 1 _ rfl
      have Xc2 := X.cell 2 _ rfl
      have Xl := X.lt
      have Yc0 := Y.cell 0 _ rfl
      have Yc1 := Y.cell 1 _ rfl
      have Yc2 := Y.cell 2 _ rfl
      have Yl := Y.lt
      go_wp2_with fail
      refine (T.out _ I.out J.out).mono ?_
      rintro e w7 ⟨rfl, B⟩
      replace L := L.step B
      replace X := X.step B
      replace Y := Y.step B
      replace I := Lib.hid (I.out.step B)
      replace J := Lib.hid (J.out.step B)
      replace H := Lib.hid (bl_trans H.out B)
      clear B
      clear Lc0 Lc1 Lc2 Lc3 Lc4 Lc5 Lc6 Lc7 Lc8 Lc9 Lc10 Ll Xc0 Xc1 Xc2 Xl Yc0 Yc1 Yc2 Yl
      have Lc0 := L.cell 0 _ rfl
      have Lc1 := L.cell 1 _ rfl
      have Lc2 := L.cell 2 _ rfl
      have Lc3 := L.cell 3 _ rfl
      have Lc4 := L.cell 4 _ rfl
      have Lc5 := L.cell 5 _ rfl
      have Lc6 := L.cell 6 _ rfl
      have Lc7 := L.cell 7 _ rfl
      have Lc8 := L.cell 8 _ rfl
      have Lc9 := L.cell 9 _ rfl
      have Lc10 := L.cell 10 _ rfl
      have Ll := L.lt
      have Xc0 := X.cell 0 _ rfl
      have Xc1 := X.cell 1 _ rfl
      have Xc2 := X.cell 2 _ rfl
      have Xl := X.lt
      have Yc0 := Y.cell 0 _ rfl
      have Yc1 := Y.cell 1 _ rfl
      have Yc2 := Y.cell 2 _ rfl
      have Yl := Y.lt
      go_wp2_with fail
      refine (U.out _).mono ?_
      rintro e w8 ⟨rfl, B⟩
      replace L := L.step B
      replace X := X.step B
      replace Y := Y.step B
      replace I := Lib.hid (I.out.step B)
      replace J := Lib.hid (J.out.step B)
      replace H := Lib.hid (bl_trans H.out B)
      clear B
      clear Lc0 Lc1 Lc2 Lc3 Lc4 Lc5 Lc6 Lc7 Lc8 Lc9 Lc10 Ll Xc0 Xc1 Xc2 Xl Yc0 Yc1 Yc2 Yl
      have Lc0 := L.cell 0 _ rfl
      have Lc1 := L.cell 1 _ rfl
      have Lc2 := L.cell 2 _ rfl
      have Lc3 := L.cell 3 _ rfl
      have Lc4 := L.cell 4 _ rfl
      have Lc5 := L.cell 5 _ rfl
      have Lc6 := L.cell 6 _ rfl
      have Lc7 := L.cell 7 _ rfl
      have Lc8 := L.cell 8 _ rfl
      have Lc9 := L.cell 9 _ rfl
      have Lc10 := L.cell 10 _ rfl
      have Ll := L.lt
      have Xc0 := X.cell 0 _ rfl
      have Xc1 := X.cell 1 _ rfl
      have Xc2 := X.cell 2 _ rfl
      have Xl := X.lt
      have Yc0 := Y.cell 0 _ rfl
      have Yc1 := Y.cell 1 _ rfl
      have Yc2 := Y.cell 2 _ rfl
      have Yl := Y.lt
      go_wp2
      go_ret
      exact ⟨rfl, H.out⟩
  have pd : (p1 == 2) = false := beq_eq_false_iff_ne.2 hp
  cases z1
  · obtain ⟨y1, y2⟩ := if_self hv hu hp
    rw [y1] at E1
    rw [y2] at E2
    rw [hv] at T
    rw [hu] at U
    replace T := Lib.hid T
    replace U := Lib.hid U
    replace E1 := Lib.hid E1
    replace E2 := Lib.hid E2
    clear y1 y2 hu hp
    cases bb
    all_goals
      have Lc0 := L.cell 0 _ rfl
      have Lc1 := L.cell 1 _ rfl
      have Lc2 := L.cell 2 _ rfl
      have Lc3 := L.cell 3 _ rfl
      have Lc4 := L.cell 4 _ rfl
      have Lc5 := L.cell 5 _ rfl
      have Lc6 := L.cell 6 _ rfl
      have Lc7 := L.cell 7 _ rfl
      have Lc8 := L.cell 8 _ rfl
      have Lc9 := L.cell 9 _ rfl
      have Lc10 := L.cell 10 _ rfl
      have Ll := L.lt
      have Xc0 := X.cell 0 _ rfl
      have Xc1 := X.cell 1 _ rfl
      have Xc2 := X.cell 2 _ rfl
      have Xl := X.lt
      have Yc0 := Y.cell 0 _ rfl
      have Yc1 := Y.cell 1 _ rfl
      have Yc2 := Y.cell 2 _ rfl
      have Yl := Y.lt
      go_wp2_with fail
      refine (V.out _ I.out J.out).mono ?_
      rintro e w5 ⟨rfl, B⟩
      replace L := L.step B
      replace X := X.step B
      replace Y := Y.step B
      replace I := Lib.hid (I.out.step B)
      replace J := Lib.hid (J.out.step B)
      replace H := Lib.hid (bl_trans H.out B)
      clear B
      clear Lc0 Lc1 Lc2 Lc3 Lc4 Lc5 Lc6 Lc7 Lc8 Lc9 Lc10 Ll Xc0 Xc1 Xc2 Xl Yc0 Yc1 Yc2 Yl
      have Lc0 := L.cell 0 _ rfl
      have Lc1 := L.cell 1 _ rfl
      have Lc2 := L.cell 2 _ rfl
      have Lc3 := L.cell 3 _ rfl
      have Lc4 := L.cell 4 _ rfl
      have Lc5 := L.cell 5 _ rfl
      have Lc6 := L.cell 6 _ rfl
      have Lc7 := L.cell 7 _ rfl
      have Lc8 := L.cell 8 _ rfl
      have Lc9 := L.cell 9 _ rfl
      have Lc10 := L.cell 10 _ rfl
      have Ll := L.lt
      have Xc0 := X.cell 0 _ rfl
      have Xc1 := X.cell 1 _ rfl
      have Xc2 := X.cell 2 _ rfl
      have Xl := X.lt
      have Yc0 := Y.cell 0 _ rfl
      have Yc1 := Y.cell 1 _ rfl
      have Yc2 := Y.cell 2 _ rfl
      have Yl := Y.lt
      go_wp2_with fail
      refine (S.out _ I.out J.out).mono ?_
      rintro e w6 ⟨rfl, B⟩
      replace L := L.step B
      replace X := X.step B
      replace Y := Y.step B
      replace I := Lib.hid (I.out.step B)
      replace J := Lib.hid (J.out.step B)
      replace H := Lib.hid (bl_trans H.out B)
      clear B
      clear Lc0 Lc1 Lc2 Lc3 Lc4 Lc5 Lc6 Lc7 Lc8 Lc9 Lc10 Ll Xc0 Xc1 Xc2 Xl Yc0 Yc1 Yc2 Yl
      have Lc0 := L.cell 0 _ rfl
      have Lc1 := L.cell 1 _ rfl
      have Lc2 := L.cell 2 _ rfl
      have Lc3 := L.cell 3 _ rfl
      have Lc4 := L.cell 4 _ rfl
      have Lc5 := L.cell 5 _ rfl
      have Lc6 := L.cell 6 _ rfl
      have Lc7 := L.cell 7 _ rfl
      have Lc8 := L.cell 8 _ rfl
      have Lc9 := L.cell 9 _ rfl
      have Lc10 := L.cell 10 _ rfl
      have Ll := L.lt
      have Xc0 := X.cell 0 _ rfl
      have Xc1 := X.cell 1 _ rfl
      have Xc2 := X.cell 2 _ rfl
      have Xl := X.lt
      have Yc0 := Y.cell 0 _ rfl
      have Yc1 := Y.cell 1 _ rfl
      have Yc2 := Y.cell 2 _ rfl
      have Yl := Y.lt
      go_wp2_with fail
      refine (T.out _ I.out J.out).mono ?_
      rintro e w7 ⟨rfl, B⟩
      replace L := L.step B
      replace X := X.step B
      replace Y := Y.step B
      replace I := Lib.hid (I.out.step B)
      replace J := Lib.hid (J.out.step B)
      replace H := Lib.hid (bl_trans H.out B)
      clear B
      clear Lc0 Lc1 Lc2 Lc3 Lc4 Lc5 Lc6 Lc7 Lc8 Lc9 Lc10 Ll Xc0 Xc1 Xc2 Xl Yc0 Yc1 Yc2 Yl
      have Lc0 := L.cell 0 _ rfl
      have Lc1 := L.cell 1 _ rfl
      have Lc2 := L.cell 2 _ rfl
      have Lc3 := L.cell 3 _ rfl
      have Lc4 := L.cell 4 _ rfl
      have Lc5 := L.cell 5 _ rfl
      have Lc6 := L.cell 6 _ rfl
      have Lc7 := L.cell 7 _ rfl
      have Lc8 := L.cell 8 _ rfl
      have Lc9 := L.cell 9 _ rfl
      have Lc10 := L.cell 10 _ rfl
      have Ll := L.lt
      have Xc0 := X.cell 0 _ rfl
      have Xc1 := X.cell 1 _ rfl
      have Xc2 := X.cell 2 _ rfl
      have Xl := X.lt
      have Yc0 := Y.cell 0 _ rfl
      have Yc1 := Y.cell 1 _ rfl
      have Yc2 := Y.cell 2 _ rfl
      have Yl := Y.lt
      go_wp2_with fail
      refine (U.out _).mono ?_
      rintro e w8 ⟨rfl, B⟩
      replace L := L.step B
      replace X := X.step B
      replace Y := Y.step B
      replace I := Lib.hid (I.out.step B)
      replace J := Lib.hid (J.out.step B)
      replace H := Lib.hid (bl_trans H.out B)
      clear B
      clear Lc0 Lc1 Lc2 Lc3 Lc4 Lc5 Lc6 Lc7 Lc8 Lc9 Lc10 Ll Xc0 Xc1 Xc2 Xl Yc0 Yc1 Yc2 Yl
      have Lc0 := L.cell 0 _ rfl
      have Lc1 := L.cell 1 _ rfl
      have Lc2 := L.cell 2 _ rfl
      have Lc3 := L.cell 3 _ rfl
      have Lc4 := L.cell 4 _ rfl
      have Lc5 := L.cell 5 _ rfl
      have Lc6 := L.cell 6 _ rfl
      have Lc7 := L.cell 7 _ rfl
      have Lc8 := L.cell 8 _ rfl
      have Lc9 := L.cell 9 _ rfl
      have Lc10 := L.cell 10 _ rfl
      have Ll := L.lt
      have Xc0 := X.cell 0 _ rfl
      have Xc1 := X.cell 1 _ rfl
      have Xc2 := X.cell 2 _ rfl
      have Xl := X.lt
      have Yc0 := Y.cell 0 _ rfl
      have Yc1 := Y.cell 1 _ rfl
      have Yc2 := Y.cell 2 _ rfl
      have Yl := Y.lt
      go_wp2_with fail
      refine (E1.out _ I.out J.out).mono ?_
      rintro e w9 ⟨rfl, B⟩
      replace L := L.step B
      replace X := X.step B
      replace Y := Y.step B
      replace I := Lib.hid (I.out.step B)
      replace J := Lib.hid (J.out.step B)
      replace H := Lib.hid (bl_trans H.out B)
      clear B
      clear Lc0 Lc1 Lc2 Lc3 Lc4 Lc5 Lc6 Lc7 Lc8 Lc9 Lc10 Ll Xc0 Xc1 Xc2 Xl Yc0 Yc1 Yc2 Yl
      have Lc0 := L.cell 0 _ rfl
      have Lc1 := L.cell 1 _ rfl
      have Lc2 := L.cell 2 _ rfl
      have Lc3 := L.cell 3 _ rfl
      have Lc4 := L.cell 4 _ rfl
      have Lc5 := L.cell 5 _ rfl
      have Lc6 := L.cell 6 _ rfl
      have Lc7 := L.cell 7 _ rfl
      have Lc8 := L.cell 8 _ rfl
      have Lc9 := L.cell 9 _ rfl
      have Lc10 := L.cell 10 _ rfl
      have Ll := L.lt
      have Xc0 := X.cell 0 _ rfl
      have Xc1 := X.cell 1 _ rfl
      have Xc2 := X.cell 2 _ rfl
      have Xl := X.lt
      have Yc0 := Y.cell 0 _ rfl
      have Yc1 := Y.cell 1 _ rfl
      have Yc2 := Y.cell 2 _ rfl
      have Yl := Y.lt
      go_wp2_with fail
      refine (E2.out _ I.out J.out).mono ?_
      rintro e w10 ⟨rfl, B⟩
      replace L := L.step B
      replace X := X.step B
      replace Y := Y.step B
      replace I := Lib.hid (I.out.step B)
      replace J := Lib.hid (J.out.step B)
      replace H := Lib.hid (bl_trans H.out B)
      clear B
      clear Lc0 Lc1 Lc2 Lc3 Lc4 Lc5 Lc6 Lc7 Lc8 Lc9 Lc10 Ll Xc0 Xc1 Xc2 Xl Yc0 Yc1 Yc2 Yl
      go_wp2
      go_ret
      exact ⟨rfl, H.out⟩
  · rw [hv] at T
    rw [hu] at U
    replace T := Lib.hid T
    replace U := Lib.hid U
    clear E1 E2 hu hp
    cases bb
    all_goals
      have Lc0 := L.cell 0 _ rfl
      have Lc1 := L.cell 1 _ rfl
      have Lc2 := L.cell 2 _ rfl
      have Lc3 := L.cell 3 _ rfl
      have Lc4 := L.cell 4 _ rfl
      have Lc5 := L.cell 5 _ rfl
      have Lc6 := L.cell 6 _ rfl
      have Lc7 := L.cell 7 _ rfl
      have Lc8 := L.cell 8 _ rfl
      have Lc9 := L.cell 9 _ rfl
      have Lc10 := L.cell 10 _ rfl
      have Ll := L.lt
      have Xc0 := X.cell 0 _ rfl
      have Xc1 := X.cell 1 _ rfl
      have Xc2 := X.cell 2 _ rfl
      have Xl := X.lt
      have Yc0 := Y.cell 0 _ rfl
      have Yc1 := Y.cell 1 _ rfl
      have Yc2 := Y.cell 2 _ rfl
      have Yl := Y.lt
      go_wp2_with fail
      refine (V.out _ I.out J.out).mono ?_
      rintro e w5 ⟨rfl, B⟩
      replace L := L.step B
      replace X := X.step B
      replace Y := Y.step B
      replace I := Lib.hid (I.out.step B)
      replace J := Lib.hid (J.out.step B)
      replace H := Lib.hid (bl_trans H.out B)
      clear B
      clear Lc0 Lc1 Lc2 Lc3 Lc4 Lc5 Lc6 Lc7 Lc8 Lc9 Lc10 Ll Xc0 Xc1 Xc2 Xl Yc0 Yc1 Yc2 Yl
      have Lc0 := L.cell 0 _ rfl
      have Lc1 := L.cell 1 _ rfl
      have Lc2 := L.cell 2 _ rfl
      have Lc3 := L.cell 3 _ rfl
      have Lc4 := L.cell 4 _ rfl
      have Lc5 := L.cell 5 _ rfl
      have Lc6 := L.cell 6 _ rfl
      have Lc7 := L.cell 7 _ rfl
      have Lc8 := L.cell 8 _ rfl
      have Lc9 := L.cell 9 _ rfl
      have Lc10 := L.cell 10 _ rfl
      have Ll := L.lt
      have Xc0 := X.cell 0 _ rfl
      have Xc1 := X.cell 1 _ rfl
      have Xc2 := X.cell 2 _ rfl
      have Xl := X.lt
      have Yc0 := Y.cell 0 _ rfl
      have Yc1 := Y.cell 1 _ rfl
      have Yc2 := Y.cell 2 _ rfl
      have Yl := Y.lt
      go_wp2_with fail
      refine (S.out _ I.out J.out).mono ?_
      rintro e w6 ⟨rfl, B⟩
      replace L := L.step B
      replace X := X.step B
      replace Y := Y.step B
      replace I := Lib.hid (I.out.step B)
      replace J := Lib.hid (J.out.step B)
      replace H := Lib.hid (bl_trans H.out B)
      clear B
      clear Lc0 Lc1 Lc2 Lc3 Lc4 Lc5 Lc6 Lc7 Lc8 Lc9 Lc10 Ll Xc0 Xc1 Xc2 Xl Yc0 Yc1 Yc2 Yl
      have Lc0 := L.cell 0 _ rfl
      have Lc1 := L.cell 1 _ rfl
      have Lc2 := L.cell 2 _ rfl
      have Lc3 := L.cell 3 _ rfl
      have Lc4 := L.cell 4 _ rfl
      have Lc5 := L.cell 5 _ rfl
      have Lc6 := L.cell 6 _ rfl
      have Lc7 := L.cell 7 _ rfl
      have Lc8 := L.cell 8 _ rfl
      have Lc9 := L.cell 9 _ rfl
      have Lc10 := L.cell 10 _ rfl
      have Ll := L.lt
      have Xc0 := X.cell 0 _ rfl
      have Xc1 := X.cell 1 _ rfl
      have Xc2 := X.cell 2 _ rfl
      have Xl := X.lt
      have Yc0 := Y.cell 0 _ rfl
      have Yc1 := Y.cell 1 _ rfl
      have Yc2 := Y.cell 2 _ rfl
      have Yl := Y.lt
      go_wp2_with fail
      refine (T.out _ I.out J.out).mono ?_
      rintro e w7 ⟨rfl, B⟩
      replace L := L.step B
      replace X := X.step B
      replace Y := Y.step B
      replace I := Lib.hid (I.out.step B)
      replace J := Lib.hid (J.out.step B)
      replace H := Lib.hid (bl_trans H.out B)
      clear B
      clear Lc0 Lc1 Lc2 Lc3 Lc4 Lc5 Lc6 Lc7 Lc8 Lc9 Lc10 Ll Xc0 Xc1 Xc2 Xl Yc0 Yc1 Yc2 Yl
      have Lc0 := L.cell 0 _ rfl
      have Lc1 := L.cell 1 _ rfl
      have Lc2 := L.cell 2 _ rfl
      have Lc3 := L.cell 3 _ rfl
      have Lc4 := L.cell 4 _ rfl
      have Lc5 := L.cell 5 _ rfl
      have Lc6 := L.cell 6 _ rfl
      have Lc7 := L.cell 7 _ rfl
      have Lc8 := L.cell 8 _ rfl
      have Lc9 := L.cell 9 _ rfl
      have Lc10 := L.cell 10 _ rfl
      have Ll := L.lt
      have Xc0 := X.cell 0 _ rfl
      have Xc1 := X.cell 1 _ rfl
      have Xc2 := X.cell 2 _ rfl
      have Xl := X.lt
      have Yc0 := Y.cell 0 _ rfl
      have Yc1 := Y.cell 1 _ rfl
      have Yc2 := Y.cell 2 _ rfl
      have Yl := Y.lt
      go_wp2_with fail
      refine (U.out _).mono ?_
      rintro e w8 ⟨rfl, B⟩
      replace L := L.step B
      replace X := X.step B
      replace Y := Y.step B
      replace I := Lib.hid (I.out.step B)
      replace J := Lib.hid (J.out.step B)
      replace H := Lib.hid (bl_trans H.out B)
      clear B
      clear Lc0 Lc1 Lc2 Lc3 Lc4 Lc5 Lc6 Lc7 Lc8 Lc9 Lc10 Ll Xc0 Xc1 Xc2 Xl Yc0 Yc1 Yc2 Yl
      have Lc0 := L.cell 0 _ rfl
      have Lc1 := L.cell 1 _ rfl
      have Lc2 := L.cell 2 _ rfl
      have Lc3 := L.cell 3 _ rfl
      have Lc4 := L.cell 4 _ rfl
      have Lc5 := L.cell 5 _ rfl
      have Lc6 := L.cell 6 _ rfl
      have Lc7 := L.cell 7 _ rfl
      have Lc8 := L.cell 8 _ rfl
      have Lc9 := L.cell 9 _ rfl
      have Lc10 := L.cell 10 _ rfl
      have Ll := L.lt
      have Xc0 := X.cell 0 _ rfl
      have Xc1 := X.cell 1 _ rfl
      have Xc2 := X.cell 2 _ rfl
      have Xl := X.lt
      have Yc0 := Y.cell 0 _ rfl
      have Yc1 := Y.cell 1 _ rfl
      have Yc2 := Y.cell 2 _ rfl
      have Yl := Y.lt
      go_wp2
      go_ret
      exact ⟨rfl, H.out⟩

end Go.Proofs.Ytagbeneapmpooaa
