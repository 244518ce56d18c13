/-
  The walks of the laws of chapter 11 on hashes of changed levels.
-/
import Derived.Test.YtmhmlmoohimfmaaDrawLevC
import Derived.Test.YtmhmlmoohimfmaaLevHashImplB
import Derived.Test.YtmhmlmoohimfmaaLevLaws
import Derived.Deep.DeepCutAuto
namespace Go.Proofs.Ytmhmlmoohimfmaa
open Go.RowKit
open M

/-- The world at hand becomes a letter, of which S is known. -/
theorem wp_at {P : Program} {code : Code} {Q : Exit → Act → World → Prop} {a : Act} {W : World} (S : World → Prop) (hS : S W) (h : ∀ W', S W' → code.wp P Q a W') : code.wp P Q a W := h W hS
theorem Boxes.less {W : World} {A : Option Addr} {n : Nat} {bs : List Bx} (h : Boxes W A n bs) {k : Nat} (hk : k ≤ n) : Boxes W A k (bs.take k) :=
  ⟨by rw [List.length_take]; have := h.1; omega, fun h0 => by
    obtain ⟨b, off, e, hb, hc⟩ := h.2 (by omega)
    refine ⟨b, off, e, hb, fun j hj => ?_⟩
    have e2 : (bs.take k).getD j bz = bs.getD j bz := by
      rw [List.getD_eq_getElem?_getD, List.getD_eq_getElem?_getD, List.getElem?_take_of_lt hj]
    rw [e2]
    exact hc j (by omega)⟩

set_option maxRecDepth 100000 in
set_option maxHeartbeats 4000000 in
theorem walk_FnLevelHash (a : Option Addr) (len cap : Nat) (zs : List Int) (a2 : Option Addr) (len2 cap2 : Nat) (zs2 : List Int) (w : World) (h : IsRow .u8 w a len cap zs) (h2 : IsRow .u8 w a2 len2 cap2 zs2) :
    Calls Try.prog 7 #[.slice a len cap, .slice a2 len2 cap2] w fun e w' => e = .returned (.bool true) ∧ Below w.heap.size w w' := by
  have hm := h.bytes.1
  have hm2 := h.bytes.2.1
  unfold maxLen at hm2
  have hn := h2.bytes.1
  have hn2 := h2.bytes.2.1
  unfold maxLen at hn2
  clear h2
  by_cases g : 1048576 < len
  · have g1 : (1048576 : Int) < (len : Int) := by omega
    go_enter Try.func7, Try.ntmps7
    go_wp2
    go_ret
    exact ⟨rfl, Below.refl _ _⟩
  have g1 : (len : Int) ≤ 1048576 := by omega
  by_cases k : 1048576 < len2
  · have k1 : (1048576 : Int) < (len2 : Int) := by omega
    go_enter Try.func7, Try.ntmps7
    go_wp2
    go_ret
    exact ⟨rfl, Below.refl _ _⟩
  have k1 : (len2 : Int) ≤ 1048576 := by omega
  clear k hn hn2
  clear g hm hm2
  go_enter Try.func7, Try.ntmps7
  go_wp2_with fail
  refine (draw_lhash a len cap zs w h).mono ?_
  rintro e w1 ⟨i, t, x, y, A, n, c, G, m, kk, p, q, s, z, b, ws, gs, rfl, hn, hm, I, J, _, _, B⟩
  have L : CellsAt (w1.alloc (.cells #[.int .i64 i, .int .i64 t, .int .i64 x, .int .i64 y, .slice A n c, .slice G m kk, .int .i64 p, .int .i64 q, .int .i64 s, .int .i64 z, .int .i64 b] 29)) w1.heap.size (lvs i t x y A n c G m kk p q s z b) := CellsAt.new _ _ _ _ rfl
  replace I := Lib.hid (I.alloc (.cells #[.int .i64 i, .int .i64 t, .int .i64 x, .int .i64 y, .slice A n c, .slice G m kk, .int .i64 p, .int .i64 q, .int .i64 s, .int .i64 z, .int .i64 b] 29))
  replace J := Lib.hid (J.alloc (.cells #[.int .i64 i, .int .i64 t, .int .i64 x, .int .i64 y, .slice A n c, .slice G m kk, .int .i64 p, .int .i64 q, .int .i64 s, .int .i64 z, .int .i64 b] 29))
  have H := Lib.hid (bl_alloc B (.cells #[.int .i64 i, .int .i64 t, .int .i64 x, .int .i64 y, .slice A n c, .slice G m kk, .int .i64 p, .int .i64 q, .int .i64 s, .int .i64 z, .int .i64 b] 29))
  have hN : n ≤ 281474976710656 := by omega
  have hM : m ≤ 281474976710656 := by omega
  clear B h
  have V := Lib.hid (fun (W : World) (Z : Boxes W A n ws) (Y : Boxes W G m gs) => implLvHash i t x y A n c G m kk p q s z b ws gs W Z Y hN hM)
  have S := Lib.hid (fun (W : World) (Z : Boxes W A n ws) (Y : Boxes W G m gs) => specLvHash i t x y A n c G m kk p q s z b ws gs W Z Y hN hM)
  cases hv : lvB i t x y ws gs p q s z b
  · rw [lh_no hv] at V S
    have Lc0 := L.cell 0 _ rfl
    have Lc1 := L.cell 1 _ rfl
    have Lc2 := L.cell 2 _ rfl
    have Lc3 := L.cell 3 _ rfl
    have Lc4 := L.cell 4 _ rfl
    have Lc5 := L.cell 5 _ rfl
    have Lc6 := L.cell 6 _ rfl
    have Lc7 := L.cell 7 _ rfl
    have Lc8 := L.cell 8 _ rfl
    have Lc9 := L.cell 9 _ rfl
    have Lc10 := L.cell 10 _ rfl
    have Ll := L.lt
    go_wp2_with fail
    refine (V.out _ I.out J.out).mono ?_
    rintro e w2 ⟨rfl, B⟩
    replace L := L.step B
    replace I := Lib.hid (I.out.step B)
    replace J := Lib.hid (J.out.step B)
    replace H := Lib.hid (bl_trans H.out B)
    clear B
    clear Lc0 Lc1 Lc2 Lc3 Lc4 Lc5 Lc6 Lc7 Lc8 Lc9 Lc10 Ll
    have Lc0 := L.cell 0 _ rfl
    have Lc1 := L.cell 1 _ rfl
    have Lc2 := L.cell 2 _ rfl
    have Lc3 := L.cell 3 _ rfl
    have Lc4 := L.cell 4 _ rfl
    have Lc5 := L.cell 5 _ rfl
    have Lc6 := L.cell 6 _ rfl
    have Lc7 := L.cell 7 _ rfl
    have Lc8 := L.cell 8 _ rfl
    have Lc9 := L.cell 9 _ rfl
    have Lc10 := L.cell 10 _ rfl
    have Ll := L.lt
    go_wp2_with fail
    refine (S.out _ I.out J.out).mono ?_
    rintro e w3 ⟨rfl, B⟩
    replace L := L.step B
    replace I := Lib.hid (I.out.step B)
    replace J := Lib.hid (J.out.step B)
    replace H := Lib.hid (bl_trans H.out B)
    clear B
    clear Lc0 Lc1 Lc2 Lc3 Lc4 Lc5 Lc6 Lc7 Lc8 Lc9 Lc10 Ll
    clear V S
    go_wp2
    go_ret
    exact ⟨rfl, H.out⟩
  have P := lh_pos hv
  have NE := Lib.hid (fun (hh : Int) (e : lhI i t x y ws gs p q s z b = hh) => e)
  generalize he : lhI i t x y ws gs p q s z b = hh at V S P
  replace he := Lib.hid he
  have Lc0 := L.cell 0 _ rfl
  have Lc1 := L.cell 1 _ rfl
  have Lc2 := L.cell 2 _ rfl
  have Lc3 := L.cell 3 _ rfl
  have Lc4 := L.cell 4 _ rfl
  have Lc5 := L.cell 5 _ rfl
  have Lc6 := L.cell 6 _ rfl
  have Lc7 := L.cell 7 _ rfl
  have Lc8 := L.cell 8 _ rfl
  have Lc9 := L.cell 9 _ rfl
  have Lc10 := L.cell 10 _ rfl
  have Ll := L.lt
  go_wp2_with fail
  refine (V.out _ I.out J.out).mono ?_
  rintro e w2 ⟨rfl, B⟩
  replace L := L.step B
  replace I := Lib.hid (I.out.step B)
  replace J := Lib.hid (J.out.step B)
  replace H := Lib.hid (bl_trans H.out B)
  clear B
  clear Lc0 Lc1 Lc2 Lc3 Lc4 Lc5 Lc6 Lc7 Lc8 Lc9 Lc10 Ll
  have Lc0 := L.cell 0 _ rfl
  have Lc1 := L.cell 1 _ rfl
  have Lc2 := L.cell 2 _ rfl
  have Lc3 := L.cell 3 _ rfl
  have Lc4 := L.cell 4 _ rfl
  have Lc5 := L.cell 5 _ rfl
  have Lc6 := L.cell 6 _ rfl
  have Lc7 := L.cell 7 _ rfl
  have Lc8 := L.cell 8 _ rfl
  have Lc9 := L.cell 9 _ rfl
  have Lc10 := L.cell 10 _ rfl
  have Ll := L.lt
  go_wp2_with fail
  refine (S.out _ I.out J.out).mono ?_
  rintro e w3 ⟨rfl, B⟩
  replace L := L.step B
  replace I := Lib.hid (I.out.step B)
  replace J := Lib.hid (J.out.step B)
  replace H := Lib.hid (bl_trans H.out B)
  clear B
  clear Lc0 Lc1 Lc2 Lc3 Lc4 Lc5 Lc6 Lc7 Lc8 Lc9 Lc10 Ll
  clear V S NE
  obtain ⟨i0, i1⟩ := lv_id hv
  obtain ⟨t0, t1⟩ := lv_ticks hv
  have Lc0 := L.cell 0 _ rfl
  have Lc1 := L.cell 1 _ rfl
  have Lc2 := L.cell 2 _ rfl
  have Lc3 := L.cell 3 _ rfl
  have Lc4 := L.cell 4 _ rfl
  have Lc5 := L.cell 5 _ rfl
  have Lc6 := L.cell 6 _ rfl
  have Lc7 := L.cell 7 _ rfl
  have Lc8 := L.cell 8 _ rfl
  have Lc9 := L.cell 9 _ rfl
  have Lc10 := L.cell 10 _ rfl
  have Ll := L.lt
  have l13 := L.lt
  go_upto_region 10 with fail
  refine wp_at (fun W' => CellsAt W' w1.heap.size (lvs i t x y A n c G m kk p q s z b) ∧ CellsAt W' w3.heap.size (lvs ((i + 1 + (len2 : Int) % 99) % 100) t x y A n c G m kk p q s z b) ∧ Boxes W' A n ws ∧ Boxes W' G m gs ∧ Below w.heap.size w W') ⟨L.alloc _, CellsAt.new w3 _ _ _ rfl, I.out.alloc _, J.out.alloc _, bl_alloc H.out _⟩ ?_
  rintro w4 ⟨L4, A4, I4, J4, H4⟩
  clear Lc0 Lc1 Lc2 Lc3 Lc4 Lc5 Lc6 Lc7 Lc8 Lc9 Lc10 Ll
  have z4 := A4.lt
  clear L I J H
  have L4c0 := L4.cell 0 _ rfl
  have L4c1 := L4.cell 1 _ rfl
  have L4c2 := L4.cell 2 _ rfl
  have L4c3 := L4.cell 3 _ rfl
  have L4c4 := L4.cell 4 _ rfl
  have L4c5 := L4.cell 5 _ rfl
  have L4c6 := L4.cell 6 _ rfl
  have L4c7 := L4.cell 7 _ rfl
  have L4c8 := L4.cell 8 _ rfl
  have L4c9 := L4.cell 9 _ rfl
  have L4c10 := L4.cell 10 _ rfl
  have L4l := L4.lt
  have A4c0 := A4.cell 0 _ rfl
  have A4c1 := A4.cell 1 _ rfl
  have A4c2 := A4.cell 2 _ rfl
  have A4c3 := A4.cell 3 _ rfl
  have A4c4 := A4.cell 4 _ rfl
  have A4c5 := A4.cell 5 _ rfl
  have A4c6 := A4.cell 6 _ rfl
  have A4c7 := A4.cell 7 _ rfl
  have A4c8 := A4.cell 8 _ rfl
  have A4c9 := A4.cell 9 _ rfl
  have A4c10 := A4.cell 10 _ rfl
  have A4l := A4.lt
  have n34 : w1.heap.size ≠ w3.heap.size := by omega
  go_upto_region 12 with fail
  refine wp_at (fun W' => CellsAt W' w1.heap.size (lvs i t x y A n c G m kk p q s z b) ∧ CellsAt W' w3.heap.size (lvs ((i + 1 + (len2 : Int) % 99) % 100) t x y A n c G m kk p q s z b) ∧ CellsAt W' w4.heap.size (lvs i (1 + (t + (len2 : Int) % 59) % 60) x y A n c G m kk p q s z b) ∧ Boxes W' A n ws ∧ Boxes W' G m gs ∧ Below w.heap.size w W') ⟨L4.alloc _, A4.alloc _, CellsAt.new w4 _ _ _ rfl, I4.alloc _, J4.alloc _, bl_alloc H4 _⟩ ?_
  rintro w5 ⟨L, A5, B5, I, J, H⟩
  clear L4c0 L4c1 L4c2 L4c3 L4c4 L4c5 L4c6 L4c7 L4c8 L4c9 L4c10 L4l A4c0 A4c1 A4c2 A4c3 A4c4 A4c5 A4c6 A4c7 A4c8 A4c9 A4c10 A4l
  clear L4 A4 I4 J4 H4
  have I := Lib.hid I
  have J := Lib.hid J
  have H := Lib.hid H
  have z5 := B5.lt
  have ia : 0 ≤ ((i + 1 + (len2 : Int) % 99) % 100) ∧ ((i + 1 + (len2 : Int) % 99) % 100) ≤ 99 := by omega
  have ta : 1 ≤ (1 + (t + (len2 : Int) % 59) % 60) ∧ (1 + (t + (len2 : Int) % 59) % 60) ≤ 60 := by omega
  have ine : ((i + 1 + (len2 : Int) % 99) % 100) ≠ i := by omega
  have E := Lib.hid (fun (W : World) (Z : Boxes W A n ws) (Y : Boxes W G m gs) => implLvHash ((i + 1 + (len2 : Int) % 99) % 100) t x y A n c G m kk p q s z b ws gs W Z Y hN hM)
  have D := Lib.hid (fun (W : World) (Z : Boxes W A n ws) (Y : Boxes W G m gs) => implLvHash i (1 + (t + (len2 : Int) % 59) % 60) x y A n c G m kk p q s z b ws gs W Z Y hN hM)
  have N1 := lh_id hv ia ine
  rw [he.out] at N1
  generalize lhI ((i + 1 + (len2 : Int) % 99) % 100) t x y ws gs p q s z b = ha at E N1
  have M1 : (ha != hh) = true := bne_iff_ne.2 N1
  clear N1
  generalize gi : ((i + 1 + (len2 : Int) % 99) % 100) = ii at *
  clear gi
  generalize gt : (1 + (t + (len2 : Int) % 59) % 60) = tt at *
  clear gt
  have Lc0 := L.cell 0 _ rfl
  have Lc1 := L.cell 1 _ rfl
  have Lc2 := L.cell 2 _ rfl
  have Lc3 := L.cell 3 _ rfl
  have Lc4 := L.cell 4 _ rfl
  have Lc5 := L.cell 5 _ rfl
  have Lc6 := L.cell 6 _ rfl
  have Lc7 := L.cell 7 _ rfl
  have Lc8 := L.cell 8 _ rfl
  have Lc9 := L.cell 9 _ rfl
  have Lc10 := L.cell 10 _ rfl
  have Ll := L.lt
  have A5c0 := A5.cell 0 _ rfl
  have A5c1 := A5.cell 1 _ rfl
  have A5c2 := A5.cell 2 _ rfl
  have A5c3 := A5.cell 3 _ rfl
  have A5c4 := A5.cell 4 _ rfl
  have A5c5 := A5.cell 5 _ rfl
  have A5c6 := A5.cell 6 _ rfl
  have A5c7 := A5.cell 7 _ rfl
  have A5c8 := A5.cell 8 _ rfl
  have A5c9 := A5.cell 9 _ rfl
  have A5c10 := A5.cell 10 _ rfl
  have A5l := A5.lt
  have B5c0 := B5.cell 0 _ rfl
  have B5c1 := B5.cell 1 _ rfl
  have B5c2 := B5.cell 2 _ rfl
  have B5c3 := B5.cell 3 _ rfl
  have B5c4 := B5.cell 4 _ rfl
  have B5c5 := B5.cell 5 _ rfl
  have B5c6 := B5.cell 6 _ rfl
  have B5c7 := B5.cell 7 _ rfl
  have B5c8 := B5.cell 8 _ rfl
  have B5c9 := B5.cell 9 _ rfl
  have B5c10 := B5.cell 10 _ rfl
  have B5l := B5.lt
  go_wp2_with fail
  refine (E.out _ I.out J.out).mono ?_
  rintro e w6 ⟨rfl, B⟩
  replace L := L.step B
  replace A5 := A5.step B
  replace B5 := B5.step B
  replace I := Lib.hid (I.out.step B)
  replace J := Lib.hid (J.out.step B)
  replace H := Lib.hid (bl_trans H.out B)
  clear B
  clear Lc0 Lc1 Lc2 Lc3 Lc4 Lc5 Lc6 Lc7 Lc8 Lc9 Lc10 Ll A5c0 A5c1 A5c2 A5c3 A5c4 A5c5 A5c6 A5c7 A5c8 A5c9 A5c10 A5l B5c0 B5c1 B5c2 B5c3 B5c4 B5c5 B5c6 B5c7 B5c8 B5c9 B5c10 B5l
  clear E
  by_cases te : tt = t
  · subst te
    have Lc0 := L.cell 0 _ rfl
    have Lc1 := L.cell 1 _ rfl
    have Lc2 := L.cell 2 _ rfl
    have Lc3 := L.cell 3 _ rfl
    have Lc4 := L.cell 4 _ rfl
    have Lc5 := L.cell 5 _ rfl
    have Lc6 := L.cell 6 _ rfl
    have Lc7 := L.cell 7 _ rfl
    have Lc8 := L.cell 8 _ rfl
    have Lc9 := L.cell 9 _ rfl
    have Lc10 := L.cell 10 _ rfl
    have Ll := L.lt
    have A5c0 := A5.cell 0 _ rfl
    have A5c1 := A5.cell 1 _ rfl
    have A5c2 := A5.cell 2 _ rfl
    have A5c3 := A5.cell 3 _ rfl
    have A5c4 := A5.cell 4 _ rfl
    have A5c5 := A5.cell 5 _ rfl
    have A5c6 := A5.cell 6 _ rfl
    have A5c7 := A5.cell 7 _ rfl
    have A5c8 := A5.cell 8 _ rfl
    have A5c9 := A5.cell 9 _ rfl
    have A5c10 := A5.cell 10 _ rfl
    have A5l := A5.lt
    have B5c0 := B5.cell 0 _ rfl
    have B5c1 := B5.cell 1 _ rfl
    have B5c2 := B5.cell 2 _ rfl
    have B5c3 := B5.cell 3 _ rfl
    have B5c4 := B5.cell 4 _ rfl
    have B5c5 := B5.cell 5 _ rfl
    have B5c6 := B5.cell 6 _ rfl
    have B5c7 := B5.cell 7 _ rfl
    have B5c8 := B5.cell 8 _ rfl
    have B5c9 := B5.cell 9 _ rfl
    have B5c10 := B5.cell 10 _ rfl
    have B5l := B5.lt
    go_wp2_with fail
    go_ret
    exact ⟨rfl, H.out⟩
  have M2 : (tt == t) = false := beq_eq_false_iff_ne.2 te
  have N2 := lh_ticks hv ta te
  rw [he.out] at N2
  generalize lhI i tt x y ws gs p q s z b = hb at D N2
  have M3 : (hb != hh) = true := bne_iff_ne.2 N2
  clear N2 te
  have Lc0 := L.cell 0 _ rfl
  have Lc1 := L.cell 1 _ rfl
  have Lc2 := L.cell 2 _ rfl
  have Lc3 := L.cell 3 _ rfl
  have Lc4 := L.cell 4 _ rfl
  have Lc5 := L.cell 5 _ rfl
  have Lc6 := L.cell 6 _ rfl
  have Lc7 := L.cell 7 _ rfl
  have Lc8 := L.cell 8 _ rfl
  have Lc9 := L.cell 9 _ rfl
  have Lc10 := L.cell 10 _ rfl
  have Ll := L.lt
  have A5c0 := A5.cell 0 _ rfl
  have A5c1 := A5.cell 1 _ rfl
  have A5c2 := A5.cell 2 _ rfl
  have A5c3 := A5.cell 3 _ rfl
  have A5c4 := A5.cell 4 _ rfl
  have A5c5 := A5.cell 5 _ rfl
  have A5c6 := A5.cell 6 _ rfl
  have A5c7 := A5.cell 7 _ rfl
  have A5c8 := A5.cell 8 _ rfl
  have A5c9 := A5.cell 9 _ rfl
  have A5c10 := A5.cell 10 _ rfl
  have A5l := A5.lt
  have B5c0 := B5.cell 0 _ rfl
  have B5c1 := B5.cell 1 _ rfl
  have B5c2 := B5.cell 2 _ rfl
  have B5c3 := B5.cell 3 _ rfl
  have B5c4 := B5.cell 4 _ rfl
  have B5c5 := B5.cell 5 _ rfl
  have B5c6 := B5.cell 6 _ rfl
  have B5c7 := B5.cell 7 _ rfl
  have B5c8 := B5.cell 8 _ rfl
  have B5c9 := B5.cell 9 _ rfl
  have B5c10 := B5.cell 10 _ rfl
  have B5l := B5.lt
  go_wp2_with fail
  refine (D.out _ I.out J.out).mono ?_
  rintro e w7 ⟨rfl, B⟩
  replace L := L.step B
  replace A5 := A5.step B
  replace B5 := B5.step B
  replace I := Lib.hid (I.out.step B)
  replace J := Lib.hid (J.out.step B)
  replace H := Lib.hid (bl_trans H.out B)
  clear B
  clear Lc0 Lc1 Lc2 Lc3 Lc4 Lc5 Lc6 Lc7 Lc8 Lc9 Lc10 Ll A5c0 A5c1 A5c2 A5c3 A5c4 A5c5 A5c6 A5c7 A5c8 A5c9 A5c10 A5l B5c0 B5c1 B5c2 B5c3 B5c4 B5c5 B5c6 B5c7 B5c8 B5c9 B5c10 B5l
  go_wp2
  go_ret
  exact ⟨rfl, H.out⟩

set_option maxRecDepth 100000 in
set_option maxHeartbeats 4000000 in
theorem walk_FnLevelHashWalls (a : Option Addr) (len cap : Nat) (zs : List Int) (a2 : Option Addr) (len2 cap2 : Nat) (zs2 : List Int) (w : World) (h : IsRow .u8 w a len cap zs) (h2 : IsRow .u8 w a2 len2 cap2 zs2) :
    Calls Try.prog 8 #[.slice a len cap, .slice a2 len2 cap2] w fun e w' => e = .returned (.bool true) ∧ Below w.heap.size w w' := by
  have hm := h.bytes.1
  have hm2 := h.bytes.2.1
  unfold maxLen at hm2
  have hn := h2.bytes.1
  have hn2 := h2.bytes.2.1
  unfold maxLen at hn2
  clear h2
  by_cases g : 1048576 < len
  · have g1 : (1048576 : Int) < (len : Int) := by omega
    go_enter Try.func8, Try.ntmps8
    go_wp2
    go_ret
    exact ⟨rfl, Below.refl _ _⟩
  have g1 : (len : Int) ≤ 1048576 := by omega
  by_cases k : 1048576 < len2
  · have k1 : (1048576 : Int) < (len2 : Int) := by omega
    go_enter Try.func8, Try.ntmps8
    go_wp2
    go_ret
    exact ⟨rfl, Below.refl _ _⟩
  have k1 : (len2 : Int) ≤ 1048576 := by omega
  clear k hn hn2
  clear g hm hm2
  go_enter Try.func8, Try.ntmps8
  go_wp2_with fail
  refine (draw_lhash a len cap zs w h).mono ?_
  rintro e w1 ⟨i, t, x, y, A, n, c, G, m, kk, p, q, s, z, b, ws, gs, rfl, hn, hm, I, J, _, _, B⟩
  have L : CellsAt (w1.alloc (.cells #[.int .i64 i, .int .i64 t, .int .i64 x, .int .i64 y, .slice A n c, .slice G m kk, .int .i64 p, .int .i64 q, .int .i64 s, .int .i64 z, .int .i64 b] 29)) w1.heap.size (lvs i t x y A n c G m kk p q s z b) := CellsAt.new _ _ _ _ rfl
  replace I := Lib.hid (I.alloc (.cells #[.int .i64 i, .int .i64 t, .int .i64 x, .int .i64 y, .slice A n c, .slice G m kk, .int .i64 p, .int .i64 q, .int .i64 s, .int .i64 z, .int .i64 b] 29))
  replace J := Lib.hid (J.alloc (.cells #[.int .i64 i, .int .i64 t, .int .i64 x, .int .i64 y, .slice A n c, .slice G m kk, .int .i64 p, .int .i64 q, .int .i64 s, .int .i64 z, .int .i64 b] 29))
  have H := Lib.hid (bl_alloc B (.cells #[.int .i64 i, .int .i64 t, .int .i64 x, .int .i64 y, .slice A n c, .slice G m kk, .int .i64 p, .int .i64 q, .int .i64 s, .int .i64 z, .int .i64 b] 29))
  have hN : n ≤ 281474976710656 := by omega
  have hM : m ≤ 281474976710656 := by omega
  clear B h
  have V := Lib.hid (fun (W : World) (Z : Boxes W A n ws) (Y : Boxes W G m gs) => implLvHash i t x y A n c G m kk p q s z b ws gs W Z Y hN hM)
  have S := Lib.hid (fun (W : World) (Z : Boxes W A n ws) (Y : Boxes W G m gs) => specLvHash i t x y A n c G m kk p q s z b ws gs W Z Y hN hM)
  cases hv : lvB i t x y ws gs p q s z b
  · rw [lh_no hv] at V S
    have Lc0 := L.cell 0 _ rfl
    have Lc1 := L.cell 1 _ rfl
    have Lc2 := L.cell 2 _ rfl
    have Lc3 := L.cell 3 _ rfl
    have Lc4 := L.cell 4 _ rfl
    have Lc5 := L.cell 5 _ rfl
    have Lc6 := L.cell 6 _ rfl
    have Lc7 := L.cell 7 _ rfl
    have Lc8 := L.cell 8 _ rfl
    have Lc9 := L.cell 9 _ rfl
    have Lc10 := L.cell 10 _ rfl
    have Ll := L.lt
    go_wp2_with fail
    refine (V.out _ I.out J.out).mono ?_
    rintro e w2 ⟨rfl, B⟩
    replace L := L.step B
    replace I := Lib.hid (I.out.step B)
    replace J := Lib.hid (J.out.step B)
    replace H := Lib.hid (bl_trans H.out B)
    clear B
    clear Lc0 Lc1 Lc2 Lc3 Lc4 Lc5 Lc6 Lc7 Lc8 Lc9 Lc10 Ll
    have Lc0 := L.cell 0 _ rfl
    have Lc1 := L.cell 1 _ rfl
    have Lc2 := L.cell 2 _ rfl
    have Lc3 := L.cell 3 _ rfl
    have Lc4 := L.cell 4 _ rfl
    have Lc5 := L.cell 5 _ rfl
    have Lc6 := L.cell 6 _ rfl
    have Lc7 := L.cell 7 _ rfl
    have Lc8 := L.cell 8 _ rfl
    have Lc9 := L.cell 9 _ rfl
    have Lc10 := L.cell 10 _ rfl
    have Ll := L.lt
    go_wp2_with fail
    refine (S.out _ I.out J.out).mono ?_
    rintro e w3 ⟨rfl, B⟩
    replace L := L.step B
    replace I := Lib.hid (I.out.step B)
    replace J := Lib.hid (J.out.step B)
    replace H := Lib.hid (bl_trans H.out B)
    clear B
    clear Lc0 Lc1 Lc2 Lc3 Lc4 Lc5 Lc6 Lc7 Lc8 Lc9 Lc10 Ll
    clear V S
    go_wp2
    go_ret
    exact ⟨rfl, H.out⟩
  have P := lh_pos hv
  have NE := Lib.hid (fun (hh : Int) (e : lhI i t x y ws gs p q s z b = hh) => e)
  generalize he : lhI i t x y ws gs p q s z b = hh at V S P
  replace he := Lib.hid he
  have Lc0 := L.cell 0 _ rfl
  have Lc1 := L.cell 1 _ rfl
  have Lc2 := L.cell 2 _ rfl
  have Lc3 := L.cell 3 _ rfl
  have Lc4 := L.cell 4 _ rfl
  have Lc5 := L.cell 5 _ rfl
  have Lc6 := L.cell 6 _ rfl
  have Lc7 := L.cell 7 _ rfl
  have Lc8 := L.cell 8 _ rfl
  have Lc9 := L.cell 9 _ rfl
  have Lc10 := L.cell 10 _ rfl
  have Ll := L.lt
  go_wp2_with fail
  refine (V.out _ I.out J.out).mono ?_
  rintro e w2 ⟨rfl, B⟩
  replace L := L.step B
  replace I := Lib.hid (I.out.step B)
  replace J := Lib.hid (J.out.step B)
  replace H := Lib.hid (bl_trans H.out B)
  clear B
  clear Lc0 Lc1 Lc2 Lc3 Lc4 Lc5 Lc6 Lc7 Lc8 Lc9 Lc10 Ll
  have Lc0 := L.cell 0 _ rfl
  have Lc1 := L.cell 1 _ rfl
  have Lc2 := L.cell 2 _ rfl
  have Lc3 := L.cell 3 _ rfl
  have Lc4 := L.cell 4 _ rfl
  have Lc5 := L.cell 5 _ rfl
  have Lc6 := L.cell 6 _ rfl
  have Lc7 := L.cell 7 _ rfl
  have Lc8 := L.cell 8 _ rfl
  have Lc9 := L.cell 9 _ rfl
  have Lc10 := L.cell 10 _ rfl
  have Ll := L.lt
  go_wp2_with fail
  refine (S.out _ I.out J.out).mono ?_
  rintro e w3 ⟨rfl, B⟩
  replace L := L.step B
  replace I := Lib.hid (I.out.step B)
  replace J := Lib.hid (J.out.step B)
  replace H := Lib.hid (bl_trans H.out B)
  clear B
  clear Lc0 Lc1 Lc2 Lc3 Lc4 Lc5 Lc6 Lc7 Lc8 Lc9 Lc10 Ll
  clear V S NE
  have hb := (bv_iff p q s z).1 (lv_fin hv)
  have Lc0 := L.cell 0 _ rfl
  have Lc1 := L.cell 1 _ rfl
  have Lc2 := L.cell 2 _ rfl
  have Lc3 := L.cell 3 _ rfl
  have Lc4 := L.cell 4 _ rfl
  have Lc5 := L.cell 5 _ rfl
  have Lc6 := L.cell 6 _ rfl
  have Lc7 := L.cell 7 _ rfl
  have Lc8 := L.cell 8 _ rfl
  have Lc9 := L.cell 9 _ rfl
  have Lc10 := L.cell 10 _ rfl
  have Ll := L.lt
  go_upto_region 10 with fail
  refine wp_at (fun W' => CellsAt W' w1.heap.size (lvs i t x y A n c G m kk p q s z b) ∧ CellsAt W' w3.heap.size (lvs i t x y A n c G m kk p q (s + 1 + (len2 : Int) % 100) z b) ∧ Boxes W' A n ws ∧ Boxes W' G m gs ∧ Below w.heap.size w W') ⟨L.alloc _, CellsAt.new w3 _ _ _ rfl, I.out.alloc _, J.out.alloc _, bl_alloc H.out _⟩ ?_
  rintro w4 ⟨L4, A4, I4, J4, H4⟩
  clear Lc0 Lc1 Lc2 Lc3 Lc4 Lc5 Lc6 Lc7 Lc8 Lc9 Lc10 Ll
  clear L I J H
  have I := Lib.hid I4
  have J := Lib.hid J4
  have H := Lib.hid H4
  clear I4 J4 H4
  by_cases big : 1000000 < (s + 1 + (len2 : Int) % 100)
  · have L4c0 := L4.cell 0 _ rfl
    have L4c1 := L4.cell 1 _ rfl
    have L4c2 := L4.cell 2 _ rfl
    have L4c3 := L4.cell 3 _ rfl
    have L4c4 := L4.cell 4 _ rfl
    have L4c5 := L4.cell 5 _ rfl
    have L4c6 := L4.cell 6 _ rfl
    have L4c7 := L4.cell 7 _ rfl
    have L4c8 := L4.cell 8 _ rfl
    have L4c9 := L4.cell 9 _ rfl
    have L4c10 := L4.cell 10 _ rfl
    have L4l := L4.lt
    have A4c0 := A4.cell 0 _ rfl
    have A4c1 := A4.cell 1 _ rfl
    have A4c2 := A4.cell 2 _ rfl
    have A4c3 := A4.cell 3 _ rfl
    have A4c4 := A4.cell 4 _ rfl
    have A4c5 := A4.cell 5 _ rfl
    have A4c6 := A4.cell 6 _ rfl
    have A4c7 := A4.cell 7 _ rfl
    have A4c8 := A4.cell 8 _ rfl
    have A4c9 := A4.cell 9 _ rfl
    have A4c10 := A4.cell 10 _ rfl
    have A4l := A4.lt
    go_wp2
    go_ret
    exact ⟨rfl, H.out⟩
  have hbv : bvB p q (s + 1 + (len2 : Int) % 100) z = true := (bv_iff p q (s + 1 + (len2 : Int) % 100) z).2 (by omega)
  have E := Lib.hid (fun (W : World) (Z : Boxes W A n ws) (Y : Boxes W G m gs) => implLvHash i t x y A n c G m kk p q (s + 1 + (len2 : Int) % 100) z b ws gs W Z Y hN hM)
  have N1 := lh_wide hv hbv (by omega) (by omega) (by omega)
  rw [he.out] at N1
  generalize lhI i t x y ws gs p q (s + 1 + (len2 : Int) % 100) z b = ha at E N1
  have M1 : (ha != hh) = true := bne_iff_ne.2 N1
  clear N1 hbv
  have big : (s + 1 + (len2 : Int) % 100) ≤ 1000000 := by omega
  have L4c0 := L4.cell 0 _ rfl
  have L4c1 := L4.cell 1 _ rfl
  have L4c2 := L4.cell 2 _ rfl
  have L4c3 := L4.cell 3 _ rfl
  have L4c4 := L4.cell 4 _ rfl
  have L4c5 := L4.cell 5 _ rfl
  have L4c6 := L4.cell 6 _ rfl
  have L4c7 := L4.cell 7 _ rfl
  have L4c8 := L4.cell 8 _ rfl
  have L4c9 := L4.cell 9 _ rfl
  have L4c10 := L4.cell 10 _ rfl
  have L4l := L4.lt
  have A4c0 := A4.cell 0 _ rfl
  have A4c1 := A4.cell 1 _ rfl
  have A4c2 := A4.cell 2 _ rfl
  have A4c3 := A4.cell 3 _ rfl
  have A4c4 := A4.cell 4 _ rfl
  have A4c5 := A4.cell 5 _ rfl
  have A4c6 := A4.cell 6 _ rfl
  have A4c7 := A4.cell 7 _ rfl
  have A4c8 := A4.cell 8 _ rfl
  have A4c9 := A4.cell 9 _ rfl
  have A4c10 := A4.cell 10 _ rfl
  have A4l := A4.lt
  go_wp2_with fail
  refine (E.out _ I.out J.out).mono ?_
  rintro e w5 ⟨rfl, B⟩
  replace L4 := L4.step B
  replace A4 := A4.step B
  replace I := Lib.hid (I.out.step B)
  replace J := Lib.hid (J.out.step B)
  replace H := Lib.hid (bl_trans H.out B)
  clear B
  clear L4c0 L4c1 L4c2 L4c3 L4c4 L4c5 L4c6 L4c7 L4c8 L4c9 L4c10 L4l A4c0 A4c1 A4c2 A4c3 A4c4 A4c5 A4c6 A4c7 A4c8 A4c9 A4c10 A4l
  go_wp2
  go_ret
  exact ⟨rfl, H.out⟩

set_option maxRecDepth 100000 in
set_option maxHeartbeats 4000000 in
theorem walk_FnLevelGates (a : Option Addr) (len cap : Nat) (zs : List Int) (a2 : Option Addr) (len2 cap2 : Nat) (zs2 : List Int) (w : World) (h : IsRow .u8 w a len cap zs) (h2 : IsRow .u8 w a2 len2 cap2 zs2) :
    Calls Try.prog 9 #[.slice a len cap, .slice a2 len2 cap2] w fun e w' => e = .returned (.bool true) ∧ Below w.heap.size w w' := by
  have hm := h.bytes.1
  have hm2 := h.bytes.2.1
  unfold maxLen at hm2
  have hn := h2.bytes.1
  have hn2 := h2.bytes.2.1
  unfold maxLen at hn2
  clear h2
  by_cases g : 1048576 < len
  · have g1 : (1048576 : Int) < (len : Int) := by omega
    go_enter Try.func9, Try.ntmps9
    go_wp2
    go_ret
    exact ⟨rfl, Below.refl _ _⟩
  have g1 : (len : Int) ≤ 1048576 := by omega
  by_cases k : 1048576 < len2
  · have k1 : (1048576 : Int) < (len2 : Int) := by omega
    go_enter Try.func9, Try.ntmps9
    go_wp2
    go_ret
    exact ⟨rfl, Below.refl _ _⟩
  have k1 : (len2 : Int) ≤ 1048576 := by omega
  clear k hn hn2
  clear g hm hm2
  go_enter Try.func9, Try.ntmps9
  go_wp2_with fail
  refine (draw_lhash a len cap zs w h).mono ?_
  rintro e w1 ⟨i, t, x, y, A, n, c, G, m, kk, p, q, s, z, b, ws, gs, rfl, hn, hm, I, J, _, _, B⟩
  have L : CellsAt (w1.alloc (.cells #[.int .i64 i, .int .i64 t, .int .i64 x, .int .i64 y, .slice A n c, .slice G m kk, .int .i64 p, .int .i64 q, .int .i64 s, .int .i64 z, .int .i64 b] 29)) w1.heap.size (lvs i t x y A n c G m kk p q s z b) := CellsAt.new _ _ _ _ rfl
  replace I := Lib.hid (I.alloc (.cells #[.int .i64 i, .int .i64 t, .int .i64 x, .int .i64 y, .slice A n c, .slice G m kk, .int .i64 p, .int .i64 q, .int .i64 s, .int .i64 z, .int .i64 b] 29))
  replace J := Lib.hid (J.alloc (.cells #[.int .i64 i, .int .i64 t, .int .i64 x, .int .i64 y, .slice A n c, .slice G m kk, .int .i64 p, .int .i64 q, .int .i64 s, .int .i64 z, .int .i64 b] 29))
  have H := Lib.hid (bl_alloc B (.cells #[.int .i64 i, .int .i64 t, .int .i64 x, .int .i64 y, .slice A n c, .slice G m kk, .int .i64 p, .int .i64 q, .int .i64 s, .int .i64 z, .int .i64 b] 29))
  have hN : n ≤ 281474976710656 := by omega
  have hM : m ≤ 281474976710656 := by omega
  clear B h
  have V := Lib.hid (fun (W : World) (Z : Boxes W A n ws) (Y : Boxes W G m gs) => implLvHash i t x y A n c G m kk p q s z b ws gs W Z Y hN hM)
  have S := Lib.hid (fun (W : World) (Z : Boxes W A n ws) (Y : Boxes W G m gs) => specLvHash i t x y A n c G m kk p q s z b ws gs W Z Y hN hM)
  cases hv : lvB i t x y ws gs p q s z b
  · rw [lh_no hv] at V S
    have Lc0 := L.cell 0 _ rfl
    have Lc1 := L.cell 1 _ rfl
    have Lc2 := L.cell 2 _ rfl
    have Lc3 := L.cell 3 _ rfl
    have Lc4 := L.cell 4 _ rfl
    have Lc5 := L.cell 5 _ rfl
    have Lc6 := L.cell 6 _ rfl
    have Lc7 := L.cell 7 _ rfl
    have Lc8 := L.cell 8 _ rfl
    have Lc9 := L.cell 9 _ rfl
    have Lc10 := L.cell 10 _ rfl
    have Ll := L.lt
    go_wp2_with fail
    refine (V.out _ I.out J.out).mono ?_
    rintro e w2 ⟨rfl, B⟩
    replace L := L.step B
    replace I := Lib.hid (I.out.step B)
    replace J := Lib.hid (J.out.step B)
    replace H := Lib.hid (bl_trans H.out B)
    clear B
    clear Lc0 Lc1 Lc2 Lc3 Lc4 Lc5 Lc6 Lc7 Lc8 Lc9 Lc10 Ll
    have Lc0 := L.cell 0 _ rfl
    have Lc1 := L.cell 1 _ rfl
    have Lc2 := L.cell 2 _ rfl
    have Lc3 := L.cell 3 _ rfl
    have Lc4 := L.cell 4 _ rfl
    have Lc5 := L.cell 5 _ rfl
    have Lc6 := L.cell 6 _ rfl
    have Lc7 := L.cell 7 _ rfl
    have Lc8 := L.cell 8 _ rfl
    have Lc9 := L.cell 9 _ rfl
    have Lc10 := L.cell 10 _ rfl
    have Ll := L.lt
    go_wp2_with fail
    refine (S.out _ I.out J.out).mono ?_
    rintro e w3 ⟨rfl, B⟩
    replace L := L.step B
    replace I := Lib.hid (I.out.step B)
    replace J := Lib.hid (J.out.step B)
    replace H := Lib.hid (bl_trans H.out B)
    clear B
    clear Lc0 Lc1 Lc2 Lc3 Lc4 Lc5 Lc6 Lc7 Lc8 Lc9 Lc10 Ll
    clear V S
    go_wp2
    go_ret
    exact ⟨rfl, H.out⟩
  have P := lh_pos hv
  have NE := Lib.hid (fun (hh : Int) (e : lhI i t x y ws gs p q s z b = hh) => e)
  generalize he : lhI i t x y ws gs p q s z b = hh at V S P
  replace he := Lib.hid he
  have Lc0 := L.cell 0 _ rfl
  have Lc1 := L.cell 1 _ rfl
  have Lc2 := L.cell 2 _ rfl
  have Lc3 := L.cell 3 _ rfl
  have Lc4 := L.cell 4 _ rfl
  have Lc5 := L.cell 5 _ rfl
  have Lc6 := L.cell 6 _ rfl
  have Lc7 := L.cell 7 _ rfl
  have Lc8 := L.cell 8 _ rfl
  have Lc9 := L.cell 9 _ rfl
  have Lc10 := L.cell 10 _ rfl
  have Ll := L.lt
  go_wp2_with fail
  refine (V.out _ I.out J.out).mono ?_
  rintro e w2 ⟨rfl, B⟩
  replace L := L.step B
  replace I := Lib.hid (I.out.step B)
  replace J := Lib.hid (J.out.step B)
  replace H := Lib.hid (bl_trans H.out B)
  clear B
  clear Lc0 Lc1 Lc2 Lc3 Lc4 Lc5 Lc6 Lc7 Lc8 Lc9 Lc10 Ll
  have Lc0 := L.cell 0 _ rfl
  have Lc1 := L.cell 1 _ rfl
  have Lc2 := L.cell 2 _ rfl
  have Lc3 := L.cell 3 _ rfl
  have Lc4 := L.cell 4 _ rfl
  have Lc5 := L.cell 5 _ rfl
  have Lc6 := L.cell 6 _ rfl
  have Lc7 := L.cell 7 _ rfl
  have Lc8 := L.cell 8 _ rfl
  have Lc9 := L.cell 9 _ rfl
  have Lc10 := L.cell 10 _ rfl
  have Ll := L.lt
  go_wp2_with fail
  refine (S.out _ I.out J.out).mono ?_
  rintro e w3 ⟨rfl, B⟩
  replace L := L.step B
  replace I := Lib.hid (I.out.step B)
  replace J := Lib.hid (J.out.step B)
  replace H := Lib.hid (bl_trans H.out B)
  clear B
  clear Lc0 Lc1 Lc2 Lc3 Lc4 Lc5 Lc6 Lc7 Lc8 Lc9 Lc10 Ll
  clear V S NE
  rcases Nat.eq_zero_or_pos m with rfl | hpos
  · have Lc0 := L.cell 0 _ rfl
    have Lc1 := L.cell 1 _ rfl
    have Lc2 := L.cell 2 _ rfl
    have Lc3 := L.cell 3 _ rfl
    have Lc4 := L.cell 4 _ rfl
    have Lc5 := L.cell 5 _ rfl
    have Lc6 := L.cell 6 _ rfl
    have Lc7 := L.cell 7 _ rfl
    have Lc8 := L.cell 8 _ rfl
    have Lc9 := L.cell 9 _ rfl
    have Lc10 := L.cell 10 _ rfl
    have Ll := L.lt
    go_wp2
    go_ret
    exact ⟨rfl, H.out⟩
  have mne : ((m : Int) == 0) = false := beq_eq_false_iff_ne.2 (by omega)
  have m1 : 0 ≤ (m : Int) - 1 := by omega
  have mN : ((m : Int) - 1).toNat = m - 1 := by omega
  have mk : (m : Int) - 1 ≤ (kk : Int) := by omega
  have mk2 : m - 1 ≤ kk := by omega
  have Lc0 := L.cell 0 _ rfl
  have Lc1 := L.cell 1 _ rfl
  have Lc2 := L.cell 2 _ rfl
  have Lc3 := L.cell 3 _ rfl
  have Lc4 := L.cell 4 _ rfl
  have Lc5 := L.cell 5 _ rfl
  have Lc6 := L.cell 6 _ rfl
  have Lc7 := L.cell 7 _ rfl
  have Lc8 := L.cell 8 _ rfl
  have Lc9 := L.cell 9 _ rfl
  have Lc10 := L.cell 10 _ rfl
  have Ll := L.lt
  go_upto_region 10 with fail
  refine wp_at (fun W' => CellsAt W' w1.heap.size (lvs i t x y A n c G m kk p q s z b) ∧ CellsAt W' w3.heap.size (lvs i t x y A n c G (m - 1) kk p q s z b) ∧ Boxes W' A n ws ∧ Boxes W' G m gs ∧ Below w.heap.size w W') ⟨L.alloc _, CellsAt.new w3 _ _ _ rfl, I.out.alloc _, J.out.alloc _, bl_alloc H.out _⟩ ?_
  rintro w4 ⟨L4, A4, I4, J4, H4⟩
  clear Lc0 Lc1 Lc2 Lc3 Lc4 Lc5 Lc6 Lc7 Lc8 Lc9 Lc10 Ll
  clear L I J H
  have I := Lib.hid I4
  have J := Lib.hid (J4.less (k := m - 1) (by omega))
  have H := Lib.hid H4
  clear I4 J4 H4
  have E := Lib.hid (fun (W : World) (Z : Boxes W A n ws) (Y : Boxes W G (m - 1) (gs.take (m - 1))) => implLvValid i t x y A n c G (m - 1) kk p q s z b ws (gs.take (m - 1)) W Z Y hN (by omega))
  have D := Lib.hid (fun (W : World) (Z : Boxes W A n ws) (Y : Boxes W G (m - 1) (gs.take (m - 1))) => implLvHash i t x y A n c G (m - 1) kk p q s z b ws (gs.take (m - 1)) W Z Y hN (by omega))
  have hv2 := lv_less hv (m - 1)
  have P2 := lh_pos hv2
  rw [hv2] at E
  generalize lhI i t x y ws (gs.take (m - 1)) p q s z b = ha at D P2
  have P3 : (0 : Int) ≤ (len2 : Int) := by omega
  have A4c0 := A4.cell 0 _ rfl
  have A4c1 := A4.cell 1 _ rfl
  have A4c2 := A4.cell 2 _ rfl
  have A4c3 := A4.cell 3 _ rfl
  have A4c4 := A4.cell 4 _ rfl
  have A4c5 := A4.cell 5 _ rfl
  have A4c6 := A4.cell 6 _ rfl
  have A4c7 := A4.cell 7 _ rfl
  have A4c8 := A4.cell 8 _ rfl
  have A4c9 := A4.cell 9 _ rfl
  have A4c10 := A4.cell 10 _ rfl
  have A4l := A4.lt
  go_wp2_with fail
  refine (E.out _ I.out J.out).mono ?_
  rintro e w5 ⟨rfl, B⟩
  replace A4 := A4.step B
  replace I := Lib.hid (I.out.step B)
  replace J := Lib.hid (J.out.step B)
  replace H := Lib.hid (bl_trans H.out B)
  clear B
  clear A4c0 A4c1 A4c2 A4c3 A4c4 A4c5 A4c6 A4c7 A4c8 A4c9 A4c10 A4l
  have A4c0 := A4.cell 0 _ rfl
  have A4c1 := A4.cell 1 _ rfl
  have A4c2 := A4.cell 2 _ rfl
  have A4c3 := A4.cell 3 _ rfl
  have A4c4 := A4.cell 4 _ rfl
  have A4c5 := A4.cell 5 _ rfl
  have A4c6 := A4.cell 6 _ rfl
  have A4c7 := A4.cell 7 _ rfl
  have A4c8 := A4.cell 8 _ rfl
  have A4c9 := A4.cell 9 _ rfl
  have A4c10 := A4.cell 10 _ rfl
  have A4l := A4.lt
  go_wp2_with fail
  refine (D.out _ I.out J.out).mono ?_
  rintro e w6 ⟨rfl, B⟩
  replace A4 := A4.step B
  replace I := Lib.hid (I.out.step B)
  replace J := Lib.hid (J.out.step B)
  replace H := Lib.hid (bl_trans H.out B)
  clear B
  clear A4c0 A4c1 A4c2 A4c3 A4c4 A4c5 A4c6 A4c7 A4c8 A4c9 A4c10 A4l
  go_wp2
  go_ret
  exact ⟨rfl, H.out⟩

end Go.Proofs.Ytmhmlmoohimfmaa
