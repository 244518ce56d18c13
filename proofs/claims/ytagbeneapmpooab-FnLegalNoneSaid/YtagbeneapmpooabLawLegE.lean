/-
  The walk of FnLegalNone.
-/
import Derived.Test.YtagbeneapmpooabLegImpl
import Derived.Test.YtagbeneapmpooabDrawAny
import Derived.Test.YtagbeneapmpooabLegLaws
import Derived.Deep.Cut
namespace Go.Proofs.Ytagbeneapmpooab
open Go.RowKit
open M

set_option maxRecDepth 100000 in
set_option maxHeartbeats 4000000 in
theorem walk_FnLegalNone (a : Option Addr) (len cap : Nat) (zs : List Int) (w : World) (h : IsRow .u8 w a len cap zs) :
    Calls Try.prog 7 #[.slice a len cap] w fun e w' => e = .returned (.bool true) ∧ Below w.heap.size w w' := by
  have hm := h.bytes.1
  have hm2 := h.bytes.2.1
  unfold maxLen at hm2
  by_cases g : 1048576 < len
  · have g1 : (1048576 : Int) < (len : Int) := by omega
    go_enter Try.func7, Try.ntmps7
    go_wp2
    go_ret
    exact ⟨rfl, Below.refl _ _⟩
  have g1 : (len : Int) ≤ 1048576 := by omega
  clear g hm hm2
  go_enter Try.func7, Try.ntmps7
  go_wp2_with fail
  refine (draw_legal a len cap zs w h).mono ?_
  rintro e w1 ⟨i, t, x, y, A, n, c, G, m, kk, fp, fq, fs, fz, b, ws, gs, D, N, cc, xs, rfl, hn, hm, hN, I, J, Y, B⟩
  have L : CellsAt (w1.alloc (.cells #[.int .i64 i, .int .i64 t, .int .i64 x, .int .i64 y, .slice A n c, .slice G m kk, .int .i64 fp, .int .i64 fq, .int .i64 fs, .int .i64 fz, .int .i64 b] 29)) w1.heap.size (lvs i t x y A n c G m kk fp fq fs fz b) := CellsAt.new _ _ _ _ rfl
  have H := Lib.hid (bl_alloc B (.cells #[.int .i64 i, .int .i64 t, .int .i64 x, .int .i64 y, .slice A n c, .slice G m kk, .int .i64 fp, .int .i64 fq, .int .i64 fs, .int .i64 fz, .int .i64 b] 29))
  have hM1 : n ≤ 281474976710656 := by omega
  have hM2 : m ≤ 281474976710656 := by omega
  replace I := Lib.hid (I.alloc (.cells #[.int .i64 i, .int .i64 t, .int .i64 x, .int .i64 y, .slice A n c, .slice G m kk, .int .i64 fp, .int .i64 fq, .int .i64 fs, .int .i64 fz, .int .i64 b] 29))
  replace J := Lib.hid (J.alloc (.cells #[.int .i64 i, .int .i64 t, .int .i64 x, .int .i64 y, .slice A n c, .slice G m kk, .int .i64 fp, .int .i64 fq, .int .i64 fs, .int .i64 fz, .int .i64 b] 29))
  replace Y := Lib.hid (Y.alloc (.cells #[.int .i64 i, .int .i64 t, .int .i64 x, .int .i64 y, .slice A n c, .slice G m kk, .int .i64 fp, .int .i64 fq, .int .i64 fs, .int .i64 fz, .int .i64 b] 29))
  clear B h
  have V := (fun (W : World) (Z : Boxes W A n ws) (X : Boxes W G m gs) (U : Inputs W D N xs) => implILegal i t x y A n c G m kk fp fq fs fz b ws gs D N cc xs W Z X hM1 hM2 U (by omega))
  have S := (fun (W : World) (Z : Boxes W A n ws) (X : Boxes W G m gs) (U : Inputs W D N xs) => specILegal i t x y A n c G m kk fp fq fs fz b ws gs D N cc xs W Z X hM1 hM2 U (by omega))
  have T := fun (W : World) (Z : Boxes W A n ws) (X : Boxes W G m gs) => specLvValid i t x y A n c G m kk fp fq fs fz b ws gs W Z X hM1 hM2
  cases hv : lvB i t x y ws gs fp fq fs fz b
  · rw [il_no hv] at V S
    rw [hv] at T
    replace V := Lib.hid V
    replace S := Lib.hid S
    replace T := Lib.hid T
    clear hv
    have Lc0 := L.cell 0 _ rfl
    have Lc1 := L.cell 1 _ rfl
    have Lc2 := L.cell 2 _ rfl
    have Lc3 := L.cell 3 _ rfl
    have Lc4 := L.cell 4 _ rfl
    have Lc5 := L.cell 5 _ rfl
    have Lc6 := L.cell 6 _ rfl
    have Lc7 := L.cell 7 _ rfl
    have Lc8 := L.cell 8 _ rfl
    have Lc9 := L.cell 9 _ rfl
    have Lc10 := L.cell 10 _ rfl
    have Ll := L.lt
    go_wp2_with fail
    refine (V.out _ I.out J.out Y.out).mono ?_
    rintro e w2 ⟨rfl, B⟩
    replace L := L.step B
    replace I := Lib.hid (I.out.step B)
    replace J := Lib.hid (J.out.step B)
    replace Y := Lib.hid (Y.out.step B)
    replace H := Lib.hid (bl_trans H.out B)
    clear B
    clear Lc0 Lc1 Lc2 Lc3 Lc4 Lc5 Lc6 Lc7 Lc8 Lc9 Lc10 Ll
    have Lc0 := L.cell 0 _ rfl
    have Lc1 := L.cell 1 _ rfl
    have Lc2 := L.cell 2 _ rfl
    have Lc3 := L.cell 3 _ rfl
    have Lc4 := L.cell 4 _ rfl
    have Lc5 := L.cell 5 _ rfl
    have Lc6 := L.cell 6 _ rfl
    have Lc7 := L.cell 7 _ rfl
    have Lc8 := L.cell 8 _ rfl
    have Lc9 := L.cell 9 _ rfl
    have Lc10 := L.cell 10 _ rfl
    have Ll := L.lt
    go_wp2_with fail
    refine (S.out _ I.out J.out Y.out).mono ?_
    rintro e w3 ⟨rfl, B⟩
    replace L := L.step B
    replace I := Lib.hid (I.out.step B)
    replace J := Lib.hid (J.out.step B)
    replace Y := Lib.hid (Y.out.step B)
    replace H := Lib.hid (bl_trans H.out B)
    clear B
    clear Lc0 Lc1 Lc2 Lc3 Lc4 Lc5 Lc6 Lc7 Lc8 Lc9 Lc10 Ll
    have Lc0 := L.cell 0 _ rfl
    have Lc1 := L.cell 1 _ rfl
    have Lc2 := L.cell 2 _ rfl
    have Lc3 := L.cell 3 _ rfl
    have Lc4 := L.cell 4 _ rfl
    have Lc5 := L.cell 5 _ rfl
    have Lc6 := L.cell 6 _ rfl
    have Lc7 := L.cell 7 _ rfl
    have Lc8 := L.cell 8 _ rfl
    have Lc9 := L.cell 9 _ rfl
    have Lc10 := L.cell 10 _ rfl
    have Ll := L.lt
    go_wp2_with fail
    refine (T.out _ I.out J.out).mono ?_
    rintro e w4 ⟨rfl, B⟩
    replace L := L.step B
    replace I := Lib.hid (I.out.step B)
    replace J := Lib.hid (J.out.step B)
    replace Y := Lib.hid (Y.out.step B)
    replace H := Lib.hid (bl_trans H.out B)
    clear B
    clear Lc0 Lc1 Lc2 Lc3 Lc4 Lc5 Lc6 Lc7 Lc8 Lc9 Lc10 Ll
    go_wp2
    go_ret
    exact ⟨rfl, H.out⟩
  obtain ⟨t1, t60⟩ := lv_ticks hv
  rw [il_yes hv] at V S
  rw [hv] at T
  replace V := Lib.hid V
  replace S := Lib.hid S
  replace T := Lib.hid T
  have ge := lg_ge t b xs
  have V0 := fun (g : Nat) => (fun (W : World) (Z : Boxes W A n ws) (X : Boxes W G m gs) (U : Inputs W (some ⟨g, 0, none⟩) 0 []) => implILegal i t x y A n c G m kk fp fq fs fz b ws gs (some ⟨g, 0, none⟩) 0 0 [] W Z X hM1 hM2 U (by omega))
  have V1 := fun (g : Nat) => (fun (W : World) (Z : Boxes W A n ws) (X : Boxes W G m gs) (U : Inputs W (some ⟨g, 0, none⟩) 1 [⟨0, 0, false⟩]) => implILegal i t x y A n c G m kk fp fq fs fz b ws gs (some ⟨g, 0, none⟩) 1 1 [⟨0, 0, false⟩] W Z X hM1 hM2 U (by omega))
  rw [il_yes hv, lg_one b t1] at V1
  rw [il_yes hv] at V0
  have e0 : lgI t b [] = -1 := rfl
  rw [e0] at V0
  generalize lgI t b xs = gg at *
  replace V0 := Lib.hid V0
  replace V1 := Lib.hid V1
  clear hv e0
  have Lc0 := L.cell 0 _ rfl
  have Lc1 := L.cell 1 _ rfl
  have Lc2 := L.cell 2 _ rfl
  have Lc3 := L.cell 3 _ rfl
  have Lc4 := L.cell 4 _ rfl
  have Lc5 := L.cell 5 _ rfl
  have Lc6 := L.cell 6 _ rfl
  have Lc7 := L.cell 7 _ rfl
  have Lc8 := L.cell 8 _ rfl
  have Lc9 := L.cell 9 _ rfl
  have Lc10 := L.cell 10 _ rfl
  have Ll := L.lt
  go_wp2_with fail
  refine (V.out _ I.out J.out Y.out).mono ?_
  rintro e w2 ⟨rfl, B⟩
  replace L := L.step B
  replace I := Lib.hid (I.out.step B)
  replace J := Lib.hid (J.out.step B)
  replace Y := Lib.hid (Y.out.step B)
  replace H := Lib.hid (bl_trans H.out B)
  clear B
  clear Lc0 Lc1 Lc2 Lc3 Lc4 Lc5 Lc6 Lc7 Lc8 Lc9 Lc10 Ll
  have Lc0 := L.cell 0 _ rfl
  have Lc1 := L.cell 1 _ rfl
  have Lc2 := L.cell 2 _ rfl
  have Lc3 := L.cell 3 _ rfl
  have Lc4 := L.cell 4 _ rfl
  have Lc5 := L.cell 5 _ rfl
  have Lc6 := L.cell 6 _ rfl
  have Lc7 := L.cell 7 _ rfl
  have Lc8 := L.cell 8 _ rfl
  have Lc9 := L.cell 9 _ rfl
  have Lc10 := L.cell 10 _ rfl
  have Ll := L.lt
  go_wp2_with fail
  refine (S.out _ I.out J.out Y.out).mono ?_
  rintro e w3 ⟨rfl, B⟩
  replace L := L.step B
  replace I := Lib.hid (I.out.step B)
  replace J := Lib.hid (J.out.step B)
  replace Y := Lib.hid (Y.out.step B)
  replace H := Lib.hid (bl_trans H.out B)
  clear B
  clear Lc0 Lc1 Lc2 Lc3 Lc4 Lc5 Lc6 Lc7 Lc8 Lc9 Lc10 Ll
  have Lc0 := L.cell 0 _ rfl
  have Lc1 := L.cell 1 _ rfl
  have Lc2 := L.cell 2 _ rfl
  have Lc3 := L.cell 3 _ rfl
  have Lc4 := L.cell 4 _ rfl
  have Lc5 := L.cell 5 _ rfl
  have Lc6 := L.cell 6 _ rfl
  have Lc7 := L.cell 7 _ rfl
  have Lc8 := L.cell 8 _ rfl
  have Lc9 := L.cell 9 _ rfl
  have Lc10 := L.cell 10 _ rfl
  have Ll := L.lt
  go_wp2_with fail
  refine (T.out _ I.out J.out).mono ?_
  rintro e w4 ⟨rfl, B⟩
  replace L := L.step B
  replace I := Lib.hid (I.out.step B)
  replace J := Lib.hid (J.out.step B)
  replace Y := Lib.hid (Y.out.step B)
  replace H := Lib.hid (bl_trans H.out B)
  clear B
  clear Lc0 Lc1 Lc2 Lc3 Lc4 Lc5 Lc6 Lc7 Lc8 Lc9 Lc10 Ll
  have Lc0 := L.cell 0 _ rfl
  have Lc1 := L.cell 1 _ rfl
  have Lc2 := L.cell 2 _ rfl
  have Lc3 := L.cell 3 _ rfl
  have Lc4 := L.cell 4 _ rfl
  have Lc5 := L.cell 5 _ rfl
  have Lc6 := L.cell 6 _ rfl
  have Lc7 := L.cell 7 _ rfl
  have Lc8 := L.cell 8 _ rfl
  have Lc9 := L.cell 9 _ rfl
  have Lc10 := L.cell 10 _ rfl
  have Ll := L.lt
  go_wp2_with fail
  refine (V0.out _ _ (I.out.alloc _) (J.out.alloc _) (Inputs.nil _ _)).mono ?_
  rintro e w5 ⟨rfl, B⟩
  clear Lc0 Lc1 Lc2 Lc3 Lc4 Lc5 Lc6 Lc7 Lc8 Lc9 Lc10 Ll
  replace L := (L.alloc _).step B
  replace I := Lib.hid ((I.out.alloc _).step B)
  replace J := Lib.hid ((J.out.alloc _).step B)
  replace Y := Lib.hid ((Y.out.alloc _).step B)
  replace H := Lib.hid (bl_trans (bl_alloc H.out _) B)
  clear B
  have Lc0 := L.cell 0 _ rfl
  have Lc1 := L.cell 1 _ rfl
  have Lc2 := L.cell 2 _ rfl
  have Lc3 := L.cell 3 _ rfl
  have Lc4 := L.cell 4 _ rfl
  have Lc5 := L.cell 5 _ rfl
  have Lc6 := L.cell 6 _ rfl
  have Lc7 := L.cell 7 _ rfl
  have Lc8 := L.cell 8 _ rfl
  have Lc9 := L.cell 9 _ rfl
  have Lc10 := L.cell 10 _ rfl
  have Ll := L.lt
  go_wp2_with fail
  refine (V1.out _ _ (I.out.alloc _) (J.out.alloc _) (Inputs.one _ _ 0 0 false _ rfl)).mono ?_
  rintro e w6 ⟨rfl, B⟩
  clear Lc0 Lc1 Lc2 Lc3 Lc4 Lc5 Lc6 Lc7 Lc8 Lc9 Lc10 Ll
  replace L := (L.alloc _).step B
  replace I := Lib.hid ((I.out.alloc _).step B)
  replace J := Lib.hid ((J.out.alloc _).step B)
  replace Y := Lib.hid ((Y.out.alloc _).step B)
  replace H := Lib.hid (bl_trans (bl_alloc H.out _) B)
  clear B
  go_wp2
  go_ret
  exact ⟨rfl, H.out⟩

end Go.Proofs.Ytagbeneapmpooab
