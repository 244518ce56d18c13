/-
  The walk of FnStart.
-/
import Derived.Test.YtnoenjociioffabEngH
import Derived.Test.YtnoenjociioffabEngS
import Derived.Test.YtnoenjociioffabDrawLevC
import Derived.Test.YtnoenjociioffabEngOwn
import Derived.Deep.Cut
namespace Go.Proofs.Ytnoenjociioffab
open Go.RowKit
open M

theorem draw_estart (a : Option Addr) (len cap : Nat) (zs : List Int) (w : World) (h : IsRow .u8 w a len cap zs) : Calls Try.prog 11 #[.slice a len cap] w (DrawnL w) := by
  have D0 : CellsAt (w.alloc (.cells #[.int .i64 0, .int .i64 0, .int .i64 0, .int .i64 0, .slice none 0 0, .slice none 0 0, .int .i64 0, .int .i64 0, .int .i64 0, .int .i64 0, .int .i64 0] 29)) w.heap.size (lvs 0 0 0 0 none 0 0 none 0 0 0 0 0 0 0) := CellsAt.new w _ _ _ rfl
  have H := Lib.hid (bl_alloc (bl_refl w) (.cells #[.int .i64 0, .int .i64 0, .int .i64 0, .int .i64 0, .slice none 0 0, .slice none 0 0, .int .i64 0, .int .i64 0, .int .i64 0, .int .i64 0, .int .i64 0] 29))
  go_enter Try.func11, Try.ntmps11
  go_wp2_with fail
  refine (draw_lvalid a len cap zs _ (h.below (bl_alloc (bl_refl w) _))).mono ?_
  rintro e w1 ⟨i, t, x, y, A, n, c, G, m, kk, fp, fq, fs, fz, b, ws, gs, rfl, hn, hm, I, J, MA, MG, B⟩
  replace D0 := D0.step B
  replace H := Lib.hid (bl_trans H.out B)
  have MA2 := Lib.hid MA
  have MG2 := Lib.hid MG
  clear B MA MG
  go_wp2_with (refine store_new rfl 29 (.tmp 2) (.tmp 4) rfl w.heap.size rfl (lvs i t x y A n c G m kk fp fq fs fz b) rfl _ D0 (by simp) level_size rfl ?_)
  intro w2 K N
  go_wp2
  exact bodyPost_ret (v := lev i t x y A n c G m kk fp fq fs fz b) (res_cells rfl w.heap.size rfl (lvs i t x y A n c G m kk fp fq fs fz b) N Try.underlying29 rfl level_size) rfl ⟨i, t, x, y, A, n, c, G, m, kk, fp, fq, fs, fz, b, ws, gs, rfl, hn, hm, I.kept K (fun _ g off e => by have := MA2.out g off e; simp at this; omega), J.kept K (fun _ g off e => by have := MG2.out g off e; simp at this; omega), fun g off e => by have := MA2.out g off e; simp at this; omega, fun g off e => by have := MG2.out g off e; simp at this; omega, kp_below H.out K (by omega)⟩

set_option maxRecDepth 100000 in
set_option maxHeartbeats 4000000 in
theorem walk_FnStart (a : Option Addr) (len cap : Nat) (zs : List Int) (w : World) (h : IsRow .u8 w a len cap zs) :
    Calls Try.prog 3 #[.slice a len cap] w fun e w' => e = .returned (.bool true) ∧ Below w.heap.size w w' := by
  have hm := h.bytes.1
  have hm2 := h.bytes.2.1
  unfold maxLen at hm2
  by_cases g9 : 1048576 < len
  · have g1 : (1048576 : Int) < (len : Int) := by omega
    go_enter Try.func3, Try.ntmps3
    go_wp2
    go_ret
    exact ⟨rfl, Below.refl _ _⟩
  have g1d : decide ((1048576 : Int) < (len : Int)) = false := decide_eq_false (by omega)
  have g2d : decide (1048576 < len) = false := decide_eq_false (by omega)
  clear g9
  go_enter Try.func3, Try.ntmps3
  go_wp2_with fail
  refine (draw_estart a len cap zs w h).mono ?_
  rintro e w1 ⟨i, t, x, y, A, n, c, G, m, kk, fp, fq, fs, fz, b, ws, gs, rfl, hn, hm, I, J, _, _, B⟩
  have L : CellsAt (w1.alloc (.cells #[.int .i64 i, .int .i64 t, .int .i64 x, .int .i64 y, .slice A n c, .slice G m kk, .int .i64 fp, .int .i64 fq, .int .i64 fs, .int .i64 fz, .int .i64 b] 29)) w1.heap.size (lvs i t x y A n c G m kk fp fq fs fz b) := CellsAt.new _ _ _ _ rfl
  have H := Lib.hid (bl_alloc B (.cells #[.int .i64 i, .int .i64 t, .int .i64 x, .int .i64 y, .slice A n c, .slice G m kk, .int .i64 fp, .int .i64 fq, .int .i64 fs, .int .i64 fz, .int .i64 b] 29))
  have hN : n ≤ 281474976710656 := by omega
  have hM : m ≤ 281474976710656 := by omega
  replace I := Lib.hid (I.alloc (.cells #[.int .i64 i, .int .i64 t, .int .i64 x, .int .i64 y, .slice A n c, .slice G m kk, .int .i64 fp, .int .i64 fq, .int .i64 fs, .int .i64 fz, .int .i64 b] 29))
  replace J := Lib.hid (J.alloc (.cells #[.int .i64 i, .int .i64 t, .int .i64 x, .int .i64 y, .slice A n c, .slice G m kk, .int .i64 fp, .int .i64 fq, .int .i64 fs, .int .i64 fz, .int .i64 b] 29))
  have hgd := state_guard
  clear B h
  cases hv : lvB i t x y ws gs fp fq fs fz b
  · have C1 := Lib.hid (fun (W : World) (Z : Boxes W A n ws) (Y : Boxes W G m gs) => (show Calls Try.prog 12 #[lev i t x y A n c G m kk fp fq fs fz b] W (fun e w' => e = .returned (.tuple #[sta 0 0 0 0 0 0 0 false false, .bool false]) ∧ Below W.heap.size W w') from by have t := implEStart i t x y A n c G m kk fp fq fs fz b ws gs W Z Y hN hM; rw [hv] at t; exact t))
    have C2 := Lib.hid (fun (W : World) (Z : Boxes W A n ws) (Y : Boxes W G m gs) => (show Calls Try.prog 13 #[lev i t x y A n c G m kk fp fq fs fz b] W (fun e w' => e = .returned (.tuple #[sta 0 0 0 0 0 0 0 false false, .bool false]) ∧ Below W.heap.size W w') from by have t := specEStart i t x y A n c G m kk fp fq fs fz b ws gs W Z Y hN hM; rw [hv] at t; exact t))
    have hneq := fun W => neq_state 0 0 0 0 0 0 0 false false W
    have heq := fun W => eq_state 0 0 0 0 0 0 0 false false W
    clear hv
    have Lc0 := L.cell 0 _ rfl
    have Lc1 := L.cell 1 _ rfl
    have Lc2 := L.cell 2 _ rfl
    have Lc3 := L.cell 3 _ rfl
    have Lc4 := L.cell 4 _ rfl
    have Lc5 := L.cell 5 _ rfl
    have Lc6 := L.cell 6 _ rfl
    have Lc7 := L.cell 7 _ rfl
    have Lc8 := L.cell 8 _ rfl
    have Lc9 := L.cell 9 _ rfl
    have Lc10 := L.cell 10 _ rfl
    have Ll := L.lt
    go_wp2_with fail
    clear Lc0 Lc1 Lc2 Lc3 Lc4 Lc5 Lc6 Lc7 Lc8 Lc9 Lc10 Ll
    refine (C1.out _ I.out J.out).mono ?_
    rintro e w2 ⟨rfl, B⟩
    replace L := L.step B
    replace I := Lib.hid (I.out.step B)
    replace J := Lib.hid (J.out.step B)
    replace H := Lib.hid (bl_trans H.out B)
    clear B
    have Lc0 := L.cell 0 _ rfl
    have Lc1 := L.cell 1 _ rfl
    have Lc2 := L.cell 2 _ rfl
    have Lc3 := L.cell 3 _ rfl
    have Lc4 := L.cell 4 _ rfl
    have Lc5 := L.cell 5 _ rfl
    have Lc6 := L.cell 6 _ rfl
    have Lc7 := L.cell 7 _ rfl
    have Lc8 := L.cell 8 _ rfl
    have Lc9 := L.cell 9 _ rfl
    have Lc10 := L.cell 10 _ rfl
    have Ll := L.lt
    go_wp2_with fail
    clear Lc0 Lc1 Lc2 Lc3 Lc4 Lc5 Lc6 Lc7 Lc8 Lc9 Lc10 Ll
    replace L := L.alloc (.cells #[.int .i64 0, .int .i64 0, .int .i64 0, .int .i64 0, .int .i64 0, .int .i64 0, .int .i64 0, .bool false, .bool false] 32)
    replace I := Lib.hid (I.out.alloc (.cells #[.int .i64 0, .int .i64 0, .int .i64 0, .int .i64 0, .int .i64 0, .int .i64 0, .int .i64 0, .bool false, .bool false] 32))
    replace J := Lib.hid (J.out.alloc (.cells #[.int .i64 0, .int .i64 0, .int .i64 0, .int .i64 0, .int .i64 0, .int .i64 0, .int .i64 0, .bool false, .bool false] 32))
    have O : CellsAt (w2.alloc (.cells #[.int .i64 0, .int .i64 0, .int .i64 0, .int .i64 0, .int .i64 0, .int .i64 0, .int .i64 0, .bool false, .bool false] 32)) w2.heap.size (stv 0 0 0 0 0 0 0 false false) := CellsAt.new w2 _ _ _ rfl
    replace H := Lib.hid (bl_alloc H.out (.cells #[.int .i64 0, .int .i64 0, .int .i64 0, .int .i64 0, .int .i64 0, .int .i64 0, .int .i64 0, .bool false, .bool false] 32))
    refine (C2.out _ I.out J.out).mono ?_
    rintro e w3 ⟨rfl, B⟩
    replace L := L.step B
    replace O := O.step B
    replace I := Lib.hid (I.out.step B)
    replace J := Lib.hid (J.out.step B)
    replace H := Lib.hid (bl_trans H.out B)
    clear B
    have Lc0 := L.cell 0 _ rfl
    have Lc1 := L.cell 1 _ rfl
    have Lc2 := L.cell 2 _ rfl
    have Lc3 := L.cell 3 _ rfl
    have Lc4 := L.cell 4 _ rfl
    have Lc5 := L.cell 5 _ rfl
    have Lc6 := L.cell 6 _ rfl
    have Lc7 := L.cell 7 _ rfl
    have Lc8 := L.cell 8 _ rfl
    have Lc9 := L.cell 9 _ rfl
    have Lc10 := L.cell 10 _ rfl
    have Ll := L.lt
    have Oc0 := O.cell 0 _ rfl
    have Oc1 := O.cell 1 _ rfl
    have Oc2 := O.cell 2 _ rfl
    have Oc3 := O.cell 3 _ rfl
    have Oc4 := O.cell 4 _ rfl
    have Oc5 := O.cell 5 _ rfl
    have Oc6 := O.cell 6 _ rfl
    have Oc7 := O.cell 7 _ rfl
    have Oc8 := O.cell 8 _ rfl
    have Ol := O.lt
    go_wp2
    go_ret
    exact ⟨rfl, bl_alloc (H.out) _⟩
  have C1 := Lib.hid (fun (W : World) (Z : Boxes W A n ws) (Y : Boxes W G m gs) => (show Calls Try.prog 12 #[lev i t x y A n c G m kk fp fq fs fz b] W (fun e w' => e = .returned (.tuple #[sta 0 x y 0 0 0 0 false false, .bool true]) ∧ Below W.heap.size W w') from by have t := implEStart i t x y A n c G m kk fp fq fs fz b ws gs W Z Y hN hM; rw [hv] at t; exact t))
  have C2 := Lib.hid (fun (W : World) (Z : Boxes W A n ws) (Y : Boxes W G m gs) => (show Calls Try.prog 13 #[lev i t x y A n c G m kk fp fq fs fz b] W (fun e w' => e = .returned (.tuple #[sta 0 x y 0 0 0 0 false false, .bool true]) ∧ Below W.heap.size W w') from by have t := specEStart i t x y A n c G m kk fp fq fs fz b ws gs W Z Y hN hM; rw [hv] at t; exact t))
  have hneq := fun W => neq_state 0 x y 0 0 0 0 false false W
  have heq := fun W => eq_state 0 x y 0 0 0 0 false false W
  have C3 := fun (W : World) (Z : Boxes W A n ws) (Y : Boxes W G m gs) => implEValid i t x y A n c G m kk fp fq fs fz b ws gs 0 x y 0 0 0 0 false false W Z Y hN hM
  rw [start_ev hv] at C3
  have C3 := Lib.hid C3
  clear hv
  have Lc0 := L.cell 0 _ rfl
  have Lc1 := L.cell 1 _ rfl
  have Lc2 := L.cell 2 _ rfl
  have Lc3 := L.cell 3 _ rfl
  have Lc4 := L.cell 4 _ rfl
  have Lc5 := L.cell 5 _ rfl
  have Lc6 := L.cell 6 _ rfl
  have Lc7 := L.cell 7 _ rfl
  have Lc8 := L.cell 8 _ rfl
  have Lc9 := L.cell 9 _ rfl
  have Lc10 := L.cell 10 _ rfl
  have Ll := L.lt
  go_wp2_with fail
  clear Lc0 Lc1 Lc2 Lc3 Lc4 Lc5 Lc6 Lc7 Lc8 Lc9 Lc10 Ll
  refine (C1.out _ I.out J.out).mono ?_
  rintro e w2 ⟨rfl, B⟩
  replace L := L.step B
  replace I := Lib.hid (I.out.step B)
  replace J := Lib.hid (J.out.step B)
  replace H := Lib.hid (bl_trans H.out B)
  clear B
  have Lc0 := L.cell 0 _ rfl
  have Lc1 := L.cell 1 _ rfl
  have Lc2 := L.cell 2 _ rfl
  have Lc3 := L.cell 3 _ rfl
  have Lc4 := L.cell 4 _ rfl
  have Lc5 := L.cell 5 _ rfl
  have Lc6 := L.cell 6 _ rfl
  have Lc7 := L.cell 7 _ rfl
  have Lc8 := L.cell 8 _ rfl
  have Lc9 := L.cell 9 _ rfl
  have Lc10 := L.cell 10 _ rfl
  have Ll := L.lt
  go_wp2_with fail
  clear Lc0 Lc1 Lc2 Lc3 Lc4 Lc5 Lc6 Lc7 Lc8 Lc9 Lc10 Ll
  replace L := L.alloc (.cells #[.int .i64 0, .int .i64 x, .int .i64 y, .int .i64 0, .int .i64 0, .int .i64 0, .int .i64 0, .bool false, .bool false] 32)
  replace I := Lib.hid (I.out.alloc (.cells #[.int .i64 0, .int .i64 x, .int .i64 y, .int .i64 0, .int .i64 0, .int .i64 0, .int .i64 0, .bool false, .bool false] 32))
  replace J := Lib.hid (J.out.alloc (.cells #[.int .i64 0, .int .i64 x, .int .i64 y, .int .i64 0, .int .i64 0, .int .i64 0, .int .i64 0, .bool false, .bool false] 32))
  have O : CellsAt (w2.alloc (.cells #[.int .i64 0, .int .i64 x, .int .i64 y, .int .i64 0, .int .i64 0, .int .i64 0, .int .i64 0, .bool false, .bool false] 32)) w2.heap.size (stv 0 x y 0 0 0 0 false false) := CellsAt.new w2 _ _ _ rfl
  replace H := Lib.hid (bl_alloc H.out (.cells #[.int .i64 0, .int .i64 x, .int .i64 y, .int .i64 0, .int .i64 0, .int .i64 0, .int .i64 0, .bool false, .bool false] 32))
  refine (C2.out _ I.out J.out).mono ?_
  rintro e w3 ⟨rfl, B⟩
  replace L := L.step B
  replace O := O.step B
  replace I := Lib.hid (I.out.step B)
  replace J := Lib.hid (J.out.step B)
  replace H := Lib.hid (bl_trans H.out B)
  clear B
  have Lc0 := L.cell 0 _ rfl
  have Lc1 := L.cell 1 _ rfl
  have Lc2 := L.cell 2 _ rfl
  have Lc3 := L.cell 3 _ rfl
  have Lc4 := L.cell 4 _ rfl
  have Lc5 := L.cell 5 _ rfl
  have Lc6 := L.cell 6 _ rfl
  have Lc7 := L.cell 7 _ rfl
  have Lc8 := L.cell 8 _ rfl
  have Lc9 := L.cell 9 _ rfl
  have Lc10 := L.cell 10 _ rfl
  have Ll := L.lt
  have Oc0 := O.cell 0 _ rfl
  have Oc1 := O.cell 1 _ rfl
  have Oc2 := O.cell 2 _ rfl
  have Oc3 := O.cell 3 _ rfl
  have Oc4 := O.cell 4 _ rfl
  have Oc5 := O.cell 5 _ rfl
  have Oc6 := O.cell 6 _ rfl
  have Oc7 := O.cell 7 _ rfl
  have Oc8 := O.cell 8 _ rfl
  have Ol := O.lt
  go_wp2_with fail
  clear Lc0 Lc1 Lc2 Lc3 Lc4 Lc5 Lc6 Lc7 Lc8 Lc9 Lc10 Ll Oc0 Oc1 Oc2 Oc3 Oc4 Oc5 Oc6 Oc7 Oc8 Ol
  replace L := L.alloc (.cells #[.int .i64 0, .int .i64 x, .int .i64 y, .int .i64 0, .int .i64 0, .int .i64 0, .int .i64 0, .bool false, .bool false] 32)
  replace O := O.alloc (.cells #[.int .i64 0, .int .i64 x, .int .i64 y, .int .i64 0, .int .i64 0, .int .i64 0, .int .i64 0, .bool false, .bool false] 32)
  replace I := Lib.hid (I.out.alloc (.cells #[.int .i64 0, .int .i64 x, .int .i64 y, .int .i64 0, .int .i64 0, .int .i64 0, .int .i64 0, .bool false, .bool false] 32))
  replace J := Lib.hid (J.out.alloc (.cells #[.int .i64 0, .int .i64 x, .int .i64 y, .int .i64 0, .int .i64 0, .int .i64 0, .int .i64 0, .bool false, .bool false] 32))
  have Wn : CellsAt (w3.alloc (.cells #[.int .i64 0, .int .i64 x, .int .i64 y, .int .i64 0, .int .i64 0, .int .i64 0, .int .i64 0, .bool false, .bool false] 32)) w3.heap.size (stv 0 x y 0 0 0 0 false false) := CellsAt.new w3 _ _ _ rfl
  replace H := Lib.hid (bl_alloc H.out (.cells #[.int .i64 0, .int .i64 x, .int .i64 y, .int .i64 0, .int .i64 0, .int .i64 0, .int .i64 0, .bool false, .bool false] 32))
  refine (C3.out _ I.out J.out).mono ?_
  rintro e w4 ⟨rfl, B⟩
  replace L := L.step B
  replace O := O.step B
  replace Wn := Wn.step B
  replace I := Lib.hid (I.out.step B)
  replace J := Lib.hid (J.out.step B)
  replace H := Lib.hid (bl_trans H.out B)
  clear B
  have Lc0 := L.cell 0 _ rfl
  have Lc1 := L.cell 1 _ rfl
  have Lc2 := L.cell 2 _ rfl
  have Lc3 := L.cell 3 _ rfl
  have Lc4 := L.cell 4 _ rfl
  have Lc5 := L.cell 5 _ rfl
  have Lc6 := L.cell 6 _ rfl
  have Lc7 := L.cell 7 _ rfl
  have Lc8 := L.cell 8 _ rfl
  have Lc9 := L.cell 9 _ rfl
  have Lc10 := L.cell 10 _ rfl
  have Ll := L.lt
  have Oc0 := O.cell 0 _ rfl
  have Oc1 := O.cell 1 _ rfl
  have Oc2 := O.cell 2 _ rfl
  have Oc3 := O.cell 3 _ rfl
  have Oc4 := O.cell 4 _ rfl
  have Oc5 := O.cell 5 _ rfl
  have Oc6 := O.cell 6 _ rfl
  have Oc7 := O.cell 7 _ rfl
  have Oc8 := O.cell 8 _ rfl
  have Ol := O.lt
  have Wnc0 := Wn.cell 0 _ rfl
  have Wnc1 := Wn.cell 1 _ rfl
  have Wnc2 := Wn.cell 2 _ rfl
  have Wnc3 := Wn.cell 3 _ rfl
  have Wnc4 := Wn.cell 4 _ rfl
  have Wnc5 := Wn.cell 5 _ rfl
  have Wnc6 := Wn.cell 6 _ rfl
  have Wnc7 := Wn.cell 7 _ rfl
  have Wnc8 := Wn.cell 8 _ rfl
  have Wnl := Wn.lt
  go_wp2
  go_ret
  exact ⟨rfl, H.out⟩

end Go.Proofs.Ytnoenjociioffab
