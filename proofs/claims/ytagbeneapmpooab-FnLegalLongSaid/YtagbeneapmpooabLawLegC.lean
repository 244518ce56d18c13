/-
  The walk of FnLegalLong.
-/
import Derived.Test.YtagbeneapmpooabLegImpl
import Derived.Test.YtagbeneapmpooabDrawAny
import Derived.Test.YtagbeneapmpooabLegLaws
import Derived.Deep.Cut
namespace Go.Proofs.Ytagbeneapmpooab
open Go.RowKit
open M

set_option maxRecDepth 100000 in
set_option maxHeartbeats 4000000 in
theorem walk_FnLegalLong (a : Option Addr) (len cap : Nat) (zs : List Int) (a2 : Option Addr) (len2 cap2 : Nat) (zs2 : List Int) (w : World) (h : IsRow .u8 w a len cap zs) (h2 : IsRow .u8 w a2 len2 cap2 zs2) :
    Calls Try.prog 5 #[.slice a len cap, .slice a2 len2 cap2] w fun e w' => e = .returned (.bool true) ∧ Below w.heap.size w w' := by
  have hm := h.bytes.1
  have hm2 := h.bytes.2.1
  unfold maxLen at hm2
  have hn := h2.bytes.1
  have hn2 := h2.bytes.2.1
  unfold maxLen at hn2
  clear h2
  by_cases g : 1048576 < len
  · have g1 : (1048576 : Int) < (len : Int) := by omega
    go_enter Try.func5, Try.ntmps5
    go_wp2
    go_ret
    exact ⟨rfl, Below.refl _ _⟩
  have g1 : (len : Int) ≤ 1048576 := by omega
  by_cases k : 1048576 < len2
  · have k1 : (1048576 : Int) < (len2 : Int) := by omega
    go_enter Try.func5, Try.ntmps5
    go_wp2
    go_ret
    exact ⟨rfl, Below.refl _ _⟩
  have k1 : (len2 : Int) ≤ 1048576 := by omega
  clear k hn hn2
  clear g hm hm2
  go_enter Try.func5, Try.ntmps5
  go_wp2_with fail
  refine (draw_legal a len cap zs w h).mono ?_
  rintro e w1 ⟨i, t, x, y, A, n, c, G, m, kk, fp, fq, fs, fz, b, ws, gs, D, N, cc, xs, rfl, hn, hm, hN, I, J, Y, B⟩
  have L : CellsAt (w1.alloc (.cells #[.int .i64 i, .int .i64 t, .int .i64 x, .int .i64 y, .slice A n c, .slice G m kk, .int .i64 fp, .int .i64 fq, .int .i64 fs, .int .i64 fz, .int .i64 b] 29)) w1.heap.size (lvs i t x y A n c G m kk fp fq fs fz b) := CellsAt.new _ _ _ _ rfl
  have H := Lib.hid (bl_alloc B (.cells #[.int .i64 i, .int .i64 t, .int .i64 x, .int .i64 y, .slice A n c, .slice G m kk, .int .i64 fp, .int .i64 fq, .int .i64 fs, .int .i64 fz, .int .i64 b] 29))
  have hM1 : n ≤ 281474976710656 := by omega
  have hM2 : m ≤ 281474976710656 := by omega
  replace I := Lib.hid (I.alloc (.cells #[.int .i64 i, .int .i64 t, .int .i64 x, .int .i64 y, .slice A n c, .slice G m kk, .int .i64 fp, .int .i64 fq, .int .i64 fs, .int .i64 fz, .int .i64 b] 29))
  replace J := Lib.hid (J.alloc (.cells #[.int .i64 i, .int .i64 t, .int .i64 x, .int .i64 y, .slice A n c, .slice G m kk, .int .i64 fp, .int .i64 fq, .int .i64 fs, .int .i64 fz, .int .i64 b] 29))
  replace Y := Lib.hid (Y.alloc (.cells #[.int .i64 i, .int .i64 t, .int .i64 x, .int .i64 y, .slice A n c, .slice G m kk, .int .i64 fp, .int .i64 fq, .int .i64 fs, .int .i64 fz, .int .i64 b] 29))
  clear B h
  have V := (fun (W : World) (Z : Boxes W A n ws) (X : Boxes W G m gs) (U : Inputs W D N xs) => implILegal i t x y A n c G m kk fp fq fs fz b ws gs D N cc xs W Z X hM1 hM2 U (by omega))
  have S := (fun (W : World) (Z : Boxes W A n ws) (X : Boxes W G m gs) (U : Inputs W D N xs) => specILegal i t x y A n c G m kk fp fq fs fz b ws gs D N cc xs W Z X hM1 hM2 U (by omega))
  have T := fun (W : World) (Z : Boxes W A n ws) (X : Boxes W G m gs) => specLvValid i t x y A n c G m kk fp fq fs fz b ws gs W Z X hM1 hM2
  cases hv : lvB i t x y ws gs fp fq fs fz b
  · rw [il_no hv] at V S
    rw [hv] at T
    replace V := Lib.hid V
    replace S := Lib.hid S
    replace T := Lib.hid T
    clear hv
    have Lc0 := L.cell 0 _ rfl
    have Lc1 := L.cell 1 _ rfl
    have Lc2 := L.cell 2 _ rfl
    have Lc3 := L.cell 3 _ rfl
    have Lc4 := L.cell 4 _ rfl
    have Lc5 := L.cell 5 _ rfl
    have Lc6 := L.cell 6 _ rfl
    have Lc7 := L.cell 7 _ rfl
    have Lc8 := L.cell 8 _ rfl
    have Lc9 := L.cell 9 _ rfl
    have Lc10 := L.cell 10 _ rfl
    have Ll := L.lt
    go_wp2_with fail
    refine (V.out _ I.out J.out Y.out).mono ?_
    rintro e w2 ⟨rfl, B⟩
    replace L := L.step B
    replace I := Lib.hid (I.out.step B)
    replace J := Lib.hid (J.out.step B)
    replace Y := Lib.hid (Y.out.step B)
    replace H := Lib.hid (bl_trans H.out B)
    clear B
    clear Lc0 Lc1 Lc2 Lc3 Lc4 Lc5 Lc6 Lc7 Lc8 Lc9 Lc10 Ll
    have Lc0 := L.cell 0 _ rfl
    have Lc1 := L.cell 1 _ rfl
    have Lc2 := L.cell 2 _ rfl
    have Lc3 := L.cell 3 _ rfl
    have Lc4 := L.cell 4 _ rfl
    have Lc5 := L.cell 5 _ rfl
    have Lc6 := L.cell 6 _ rfl
    have Lc7 := L.cell 7 _ rfl
    have Lc8 := L.cell 8 _ rfl
    have Lc9 := L.cell 9 _ rfl
    have Lc10 := L.cell 10 _ rfl
    have Ll := L.lt
    go_wp2_with fail
    refine (S.out _ I.out J.out Y.out).mono ?_
    rintro e w3 ⟨rfl, B⟩
    replace L := L.step B
    replace I := Lib.hid (I.out.step B)
    replace J := Lib.hid (J.out.step B)
    replace Y := Lib.hid (Y.out.step B)
    replace H := Lib.hid (bl_trans H.out B)
    clear B
    clear Lc0 Lc1 Lc2 Lc3 Lc4 Lc5 Lc6 Lc7 Lc8 Lc9 Lc10 Ll
    have Lc0 := L.cell 0 _ rfl
    have Lc1 := L.cell 1 _ rfl
    have Lc2 := L.cell 2 _ rfl
    have Lc3 := L.cell 3 _ rfl
    have Lc4 := L.cell 4 _ rfl
    have Lc5 := L.cell 5 _ rfl
    have Lc6 := L.cell 6 _ rfl
    have Lc7 := L.cell 7 _ rfl
    have Lc8 := L.cell 8 _ rfl
    have Lc9 := L.cell 9 _ rfl
    have Lc10 := L.cell 10 _ rfl
    have Ll := L.lt
    go_wp2_with fail
    refine (T.out _ I.out J.out).mono ?_
    rintro e w4 ⟨rfl, B⟩
    replace L := L.step B
    replace I := Lib.hid (I.out.step B)
    replace J := Lib.hid (J.out.step B)
    replace Y := Lib.hid (Y.out.step B)
    replace H := Lib.hid (bl_trans H.out B)
    clear B
    clear Lc0 Lc1 Lc2 Lc3 Lc4 Lc5 Lc6 Lc7 Lc8 Lc9 Lc10 Ll
    go_wp2
    go_ret
    exact ⟨rfl, H.out⟩
  obtain ⟨t1, t60⟩ := lv_ticks hv
  rw [il_yes hv] at V S
  rw [hv] at T
  replace V := Lib.hid V
  replace S := Lib.hid S
  replace T := Lib.hid T
  generalize hgg : lgI t b xs = gg at *
  clear hgg
  obtain ⟨tn, htn⟩ := Int.eq_ofNat_of_zero_le (show 0 ≤ t by omega)
  obtain ⟨i0, hi, hz0, hz1, hz2⟩ := info_parts input_info
  obtain ⟨q, hq⟩ : ∃ q : Nat, (len2 : Int) % 3 = (q : Int) := ⟨len2 % 3, by omega⟩
  have hq3 : q < 3 := by omega
  have V0 := fun (g : Nat) => (fun (W : World) (Z : Boxes W A n ws) (X : Boxes W G m gs) (U : Inputs W (some ⟨g, 0, none⟩) (tn + q) (List.replicate (tn + q) iz)) => implILegal i t x y A n c G m kk fp fq fs fz b ws gs (some ⟨g, 0, none⟩) (tn + q) (tn + q) (List.replicate (tn + q) iz) W Z X hM1 hM2 U (by omega))
  rw [il_yes hv, lg_rolls b (tn + q) (by omega)] at V0
  replace htn := Lib.hid htn
  clear hv
  have Lc0 := L.cell 0 _ rfl
  have Lc1 := L.cell 1 _ rfl
  have Lc2 := L.cell 2 _ rfl
  have Lc3 := L.cell 3 _ rfl
  have Lc4 := L.cell 4 _ rfl
  have Lc5 := L.cell 5 _ rfl
  have Lc6 := L.cell 6 _ rfl
  have Lc7 := L.cell 7 _ rfl
  have Lc8 := L.cell 8 _ rfl
  have Lc9 := L.cell 9 _ rfl
  have Lc10 := L.cell 10 _ rfl
  have Ll := L.lt
  go_wp2_with fail
  refine (V.out _ I.out J.out Y.out).mono ?_
  rintro e w2 ⟨rfl, B⟩
  replace L := L.step B
  replace I := Lib.hid (I.out.step B)
  replace J := Lib.hid (J.out.step B)
  replace Y := Lib.hid (Y.out.step B)
  replace H := Lib.hid (bl_trans H.out B)
  clear B
  clear Lc0 Lc1 Lc2 Lc3 Lc4 Lc5 Lc6 Lc7 Lc8 Lc9 Lc10 Ll
  have Lc0 := L.cell 0 _ rfl
  have Lc1 := L.cell 1 _ rfl
  have Lc2 := L.cell 2 _ rfl
  have Lc3 := L.cell 3 _ rfl
  have Lc4 := L.cell 4 _ rfl
  have Lc5 := L.cell 5 _ rfl
  have Lc6 := L.cell 6 _ rfl
  have Lc7 := L.cell 7 _ rfl
  have Lc8 := L.cell 8 _ rfl
  have Lc9 := L.cell 9 _ rfl
  have Lc10 := L.cell 10 _ rfl
  have Ll := L.lt
  go_wp2_with fail
  refine (S.out _ I.out J.out Y.out).mono ?_
  rintro e w3 ⟨rfl, B⟩
  replace L := L.step B
  replace I := Lib.hid (I.out.step B)
  replace J := Lib.hid (J.out.step B)
  replace Y := Lib.hid (Y.out.step B)
  replace H := Lib.hid (bl_trans H.out B)
  clear B
  clear Lc0 Lc1 Lc2 Lc3 Lc4 Lc5 Lc6 Lc7 Lc8 Lc9 Lc10 Ll
  have Lc0 := L.cell 0 _ rfl
  have Lc1 := L.cell 1 _ rfl
  have Lc2 := L.cell 2 _ rfl
  have Lc3 := L.cell 3 _ rfl
  have Lc4 := L.cell 4 _ rfl
  have Lc5 := L.cell 5 _ rfl
  have Lc6 := L.cell 6 _ rfl
  have Lc7 := L.cell 7 _ rfl
  have Lc8 := L.cell 8 _ rfl
  have Lc9 := L.cell 9 _ rfl
  have Lc10 := L.cell 10 _ rfl
  have Ll := L.lt
  go_wp2_with fail
  refine (T.out _ I.out J.out).mono ?_
  rintro e w4 ⟨rfl, B⟩
  replace L := L.step B
  replace I := Lib.hid (I.out.step B)
  replace J := Lib.hid (J.out.step B)
  replace Y := Lib.hid (Y.out.step B)
  replace H := Lib.hid (bl_trans H.out B)
  clear B
  clear Lc0 Lc1 Lc2 Lc3 Lc4 Lc5 Lc6 Lc7 Lc8 Lc9 Lc10 Ll
  have Lc0 := L.cell 0 _ rfl
  have Lc1 := L.cell 1 _ rfl
  have Lc2 := L.cell 2 _ rfl
  have Lc3 := L.cell 3 _ rfl
  have Lc4 := L.cell 4 _ rfl
  have Lc5 := L.cell 5 _ rfl
  have Lc6 := L.cell 6 _ rfl
  have Lc7 := L.cell 7 _ rfl
  have Lc8 := L.cell 8 _ rfl
  have Lc9 := L.cell 9 _ rfl
  have Lc10 := L.cell 10 _ rfl
  have Ll := L.lt
  go_wp2_with (at_make; refine wpList_make_full _ rfl _ _ 30 rfl w.heap.size 37 i0 (inp 0 0 false) 3 Try.underlying30 hi hz0 hz1 .i64 .i64 _ _ (tn + q) rfl rfl (by have := htn.out; omega) (by have := htn.out; omega) (by rw [hz2]; have := htn.out; omega) (by unfold maxLen; have := htn.out; omega) (by have := H.out.size; omega) ?_)
  intro w5 O5 G5
  clear Lc0 Lc1 Lc2 Lc3 Lc4 Lc5 Lc6 Lc7 Lc8 Lc9 Lc10 Ll
  have U5 := Lib.hid (Inputs.made O5)
  replace L := L.grown G5 (by simp)
  replace I := Lib.hid (I.out.grown G5 (fun _ k off _ e => by cases e))
  replace J := Lib.hid (J.out.grown G5 (fun _ k off _ e => by cases e))
  replace H := Lib.hid (H.out.grown G5 H.out.size (fun k e => by cases e))
  clear O5 G5
  by_cases hq0 : q = 0
  · subst hq0
    rw [if_pos (by have := htn.out; omega)] at V0
    have nb : ((tn : Int) == t) = true := beq_iff_eq.2 htn.out.symm
    replace V0 := Lib.hid V0
    have Lc0 := L.cell 0 _ rfl
    have Lc1 := L.cell 1 _ rfl
    have Lc2 := L.cell 2 _ rfl
    have Lc3 := L.cell 3 _ rfl
    have Lc4 := L.cell 4 _ rfl
    have Lc5 := L.cell 5 _ rfl
    have Lc6 := L.cell 6 _ rfl
    have Lc7 := L.cell 7 _ rfl
    have Lc8 := L.cell 8 _ rfl
    have Lc9 := L.cell 9 _ rfl
    have Lc10 := L.cell 10 _ rfl
    have Ll := L.lt
    go_wp2_with fail
    refine (V0.out _ _ I.out J.out U5.out).mono ?_
    rintro e w6 ⟨rfl, B⟩
    replace L := L.step B
    replace I := Lib.hid (I.out.step B)
    replace J := Lib.hid (J.out.step B)
    replace H := Lib.hid (bl_trans H.out B)
    clear B
    clear Lc0 Lc1 Lc2 Lc3 Lc4 Lc5 Lc6 Lc7 Lc8 Lc9 Lc10 Ll
    have Lc0 := L.cell 0 _ rfl
    have Lc1 := L.cell 1 _ rfl
    have Lc2 := L.cell 2 _ rfl
    have Lc3 := L.cell 3 _ rfl
    have Lc4 := L.cell 4 _ rfl
    have Lc5 := L.cell 5 _ rfl
    have Lc6 := L.cell 6 _ rfl
    have Lc7 := L.cell 7 _ rfl
    have Lc8 := L.cell 8 _ rfl
    have Lc9 := L.cell 9 _ rfl
    have Lc10 := L.cell 10 _ rfl
    have Ll := L.lt
    go_wp2
    go_ret
    exact ⟨rfl, H.out⟩
  rw [if_neg (by have := htn.out; omega)] at V0
  have nb : ((tn : Int) + (q : Int) == t) = false := beq_eq_false_iff_ne.2 (by have := htn.out; omega)
  clear hq0
  replace V0 := Lib.hid V0
  have Lc0 := L.cell 0 _ rfl
  have Lc1 := L.cell 1 _ rfl
  have Lc2 := L.cell 2 _ rfl
  have Lc3 := L.cell 3 _ rfl
  have Lc4 := L.cell 4 _ rfl
  have Lc5 := L.cell 5 _ rfl
  have Lc6 := L.cell 6 _ rfl
  have Lc7 := L.cell 7 _ rfl
  have Lc8 := L.cell 8 _ rfl
  have Lc9 := L.cell 9 _ rfl
  have Lc10 := L.cell 10 _ rfl
  have Ll := L.lt
  go_wp2_with fail
  refine (V0.out _ _ I.out J.out U5.out).mono ?_
  rintro e w6 ⟨rfl, B⟩
  replace L := L.step B
  replace I := Lib.hid (I.out.step B)
  replace J := Lib.hid (J.out.step B)
  replace H := Lib.hid (bl_trans H.out B)
  clear B
  clear Lc0 Lc1 Lc2 Lc3 Lc4 Lc5 Lc6 Lc7 Lc8 Lc9 Lc10 Ll
  have Lc0 := L.cell 0 _ rfl
  have Lc1 := L.cell 1 _ rfl
  have Lc2 := L.cell 2 _ rfl
  have Lc3 := L.cell 3 _ rfl
  have Lc4 := L.cell 4 _ rfl
  have Lc5 := L.cell 5 _ rfl
  have Lc6 := L.cell 6 _ rfl
  have Lc7 := L.cell 7 _ rfl
  have Lc8 := L.cell 8 _ rfl
  have Lc9 := L.cell 9 _ rfl
  have Lc10 := L.cell 10 _ rfl
  have Ll := L.lt
  go_wp2
  go_ret
  exact ⟨rfl, H.out⟩

end Go.Proofs.Ytagbeneapmpooab
