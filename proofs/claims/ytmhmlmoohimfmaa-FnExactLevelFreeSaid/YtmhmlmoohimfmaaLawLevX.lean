/-
  The walks of the exact laws of chapter 11: at every argument the program answers as the model, and writes into no argument.
-/
import Derived.Test.YtmhmlmoohimfmaaToLevB
import Derived.Deep.RegionHeld3
namespace Go.Proofs.Ytmhmlmoohimfmaa
open Go.RowKit
open M

theorem wp_at' {P : Program} {code : Code} {Q : Exit → Act → World → Prop} {a : Act} {W : World} (S : World → Prop) (hS : S W) (h : ∀ W', S W' → code.wp P Q a W') : code.wp P Q a W := h W hS

set_option maxRecDepth 100000 in
set_option maxHeartbeats 4000000 in
theorem eqLevel_same (i t x y : Int) (n m : Nat) (p q s z b : Int) (ws gs : List Bx) (u v u' v' : Nat) (w : World) (I : Boxes w (some ⟨u, 0, none⟩) n ws) (J : Boxes w (some ⟨v, 0, none⟩) m gs) (I2 : Boxes w (some ⟨u', 0, none⟩) n ws) (J2 : Boxes w (some ⟨v', 0, none⟩) m gs) (h1 : n ≤ 1048576) (h2 : m ≤ 1048576) :
    Calls Try.prog 31 #[lev i t x y (some ⟨u, 0, none⟩) n n (some ⟨v, 0, none⟩) m m p q s z b, lev i t x y (some ⟨u', 0, none⟩) n n (some ⟨v', 0, none⟩) m m p q s z b] w fun e w' => e = .returned (.bool true) ∧ Below w.heap.size w w' := by
  have I := Lib.hid I
  have J := Lib.hid J
  have I2 := Lib.hid I2
  have J2 := Lib.hid J2
  go_enter Try.func31, Try.ntmps31
  go_wp2_with fail
  refine (eqVec_same x y _).mono ?_
  rintro e w1 ⟨rfl, B⟩
  have P : CellsAt w1 w.heap.size (lvs i t x y (some ⟨u, 0, none⟩) n n (some ⟨v, 0, none⟩) m m p q s z b) := ((CellsAt.new w _ _ _ rfl).alloc _).step B
  have O : CellsAt w1 (w.heap.size + 1) (lvs i t x y (some ⟨u', 0, none⟩) n n (some ⟨v', 0, none⟩) m m p q s z b) := (CellsAt.new _ _ _ _ (by simp)).step B
  replace I := Lib.hid (((I.out.alloc _).alloc _).step B)
  replace J := Lib.hid (((J.out.alloc _).alloc _).step B)
  replace I2 := Lib.hid (((I2.out.alloc _).alloc _).step B)
  replace J2 := Lib.hid (((J2.out.alloc _).alloc _).step B)
  have H := Lib.hid (bl_trans (bl_alloc (bl_alloc (bl_refl w) _) _) B)
  clear B
  have Pc0 := P.cell 0 _ rfl
  have Pc1 := P.cell 1 _ rfl
  have Pc2 := P.cell 2 _ rfl
  have Pc3 := P.cell 3 _ rfl
  have Pc4 := P.cell 4 _ rfl
  have Pc5 := P.cell 5 _ rfl
  have Pc6 := P.cell 6 _ rfl
  have Pc7 := P.cell 7 _ rfl
  have Pc8 := P.cell 8 _ rfl
  have Pc9 := P.cell 9 _ rfl
  have Pc10 := P.cell 10 _ rfl
  have Pl := P.lt
  have Oc0 := O.cell 0 _ rfl
  have Oc1 := O.cell 1 _ rfl
  have Oc2 := O.cell 2 _ rfl
  have Oc3 := O.cell 3 _ rfl
  have Oc4 := O.cell 4 _ rfl
  have Oc5 := O.cell 5 _ rfl
  have Oc6 := O.cell 6 _ rfl
  have Oc7 := O.cell 7 _ rfl
  have Oc8 := O.cell 8 _ rfl
  have Oc9 := O.cell 9 _ rfl
  have Oc10 := O.cell 10 _ rfl
  have Ol := O.lt
  go_wp2_with fail
  refine (eqBoxS_same _ _ n n n ws _ I.out I2.out h1).mono ?_
  rintro e w2 ⟨rfl, B⟩
  clear Pc0 Pc1 Pc2 Pc3 Pc4 Pc5 Pc6 Pc7 Pc8 Pc9 Pc10 Pl Oc0 Oc1 Oc2 Oc3 Oc4 Oc5 Oc6 Oc7 Oc8 Oc9 Oc10 Ol
  replace P := P.step B
  replace O := O.step B
  replace I := Lib.hid (I.out.step B)
  replace J := Lib.hid (J.out.step B)
  replace I2 := Lib.hid (I2.out.step B)
  replace J2 := Lib.hid (J2.out.step B)
  replace H := Lib.hid (bl_trans H.out B)
  clear B
  have Pc0 := P.cell 0 _ rfl
  have Pc1 := P.cell 1 _ rfl
  have Pc2 := P.cell 2 _ rfl
  have Pc3 := P.cell 3 _ rfl
  have Pc4 := P.cell 4 _ rfl
  have Pc5 := P.cell 5 _ rfl
  have Pc6 := P.cell 6 _ rfl
  have Pc7 := P.cell 7 _ rfl
  have Pc8 := P.cell 8 _ rfl
  have Pc9 := P.cell 9 _ rfl
  have Pc10 := P.cell 10 _ rfl
  have Pl := P.lt
  have Oc0 := O.cell 0 _ rfl
  have Oc1 := O.cell 1 _ rfl
  have Oc2 := O.cell 2 _ rfl
  have Oc3 := O.cell 3 _ rfl
  have Oc4 := O.cell 4 _ rfl
  have Oc5 := O.cell 5 _ rfl
  have Oc6 := O.cell 6 _ rfl
  have Oc7 := O.cell 7 _ rfl
  have Oc8 := O.cell 8 _ rfl
  have Oc9 := O.cell 9 _ rfl
  have Oc10 := O.cell 10 _ rfl
  have Ol := O.lt
  go_wp2_with fail
  refine (eqBoxS_same _ _ m m m gs _ J.out J2.out h2).mono ?_
  rintro e w3 ⟨rfl, B⟩
  clear Pc0 Pc1 Pc2 Pc3 Pc4 Pc5 Pc6 Pc7 Pc8 Pc9 Pc10 Pl Oc0 Oc1 Oc2 Oc3 Oc4 Oc5 Oc6 Oc7 Oc8 Oc9 Oc10 Ol
  replace P := P.step B
  replace O := O.step B
  replace I := Lib.hid (I.out.step B)
  replace J := Lib.hid (J.out.step B)
  replace I2 := Lib.hid (I2.out.step B)
  replace J2 := Lib.hid (J2.out.step B)
  replace H := Lib.hid (bl_trans H.out B)
  clear B
  have Pc0 := P.cell 0 _ rfl
  have Pc1 := P.cell 1 _ rfl
  have Pc2 := P.cell 2 _ rfl
  have Pc3 := P.cell 3 _ rfl
  have Pc4 := P.cell 4 _ rfl
  have Pc5 := P.cell 5 _ rfl
  have Pc6 := P.cell 6 _ rfl
  have Pc7 := P.cell 7 _ rfl
  have Pc8 := P.cell 8 _ rfl
  have Pc9 := P.cell 9 _ rfl
  have Pc10 := P.cell 10 _ rfl
  have Pl := P.lt
  have Oc0 := O.cell 0 _ rfl
  have Oc1 := O.cell 1 _ rfl
  have Oc2 := O.cell 2 _ rfl
  have Oc3 := O.cell 3 _ rfl
  have Oc4 := O.cell 4 _ rfl
  have Oc5 := O.cell 5 _ rfl
  have Oc6 := O.cell 6 _ rfl
  have Oc7 := O.cell 7 _ rfl
  have Oc8 := O.cell 8 _ rfl
  have Oc9 := O.cell 9 _ rfl
  have Oc10 := O.cell 10 _ rfl
  have Ol := O.lt
  go_wp2_with fail
  refine (eqBox_same p q s z _).mono ?_
  rintro e w4 ⟨rfl, B⟩
  clear Pc0 Pc1 Pc2 Pc3 Pc4 Pc5 Pc6 Pc7 Pc8 Pc9 Pc10 Pl Oc0 Oc1 Oc2 Oc3 Oc4 Oc5 Oc6 Oc7 Oc8 Oc9 Oc10 Ol
  replace P := P.step B
  replace O := O.step B
  replace I := Lib.hid (I.out.step B)
  replace J := Lib.hid (J.out.step B)
  replace I2 := Lib.hid (I2.out.step B)
  replace J2 := Lib.hid (J2.out.step B)
  replace H := Lib.hid (bl_trans H.out B)
  clear B
  have Pc0 := P.cell 0 _ rfl
  have Pc1 := P.cell 1 _ rfl
  have Pc2 := P.cell 2 _ rfl
  have Pc3 := P.cell 3 _ rfl
  have Pc4 := P.cell 4 _ rfl
  have Pc5 := P.cell 5 _ rfl
  have Pc6 := P.cell 6 _ rfl
  have Pc7 := P.cell 7 _ rfl
  have Pc8 := P.cell 8 _ rfl
  have Pc9 := P.cell 9 _ rfl
  have Pc10 := P.cell 10 _ rfl
  have Pl := P.lt
  have Oc0 := O.cell 0 _ rfl
  have Oc1 := O.cell 1 _ rfl
  have Oc2 := O.cell 2 _ rfl
  have Oc3 := O.cell 3 _ rfl
  have Oc4 := O.cell 4 _ rfl
  have Oc5 := O.cell 5 _ rfl
  have Oc6 := O.cell 6 _ rfl
  have Oc7 := O.cell 7 _ rfl
  have Oc8 := O.cell 8 _ rfl
  have Oc9 := O.cell 9 _ rfl
  have Oc10 := O.cell 10 _ rfl
  have Ol := O.lt
  go_wp2
  go_ret
  exact ⟨rfl, H.out⟩

theorem lawlevel_size : (Try.prog.info? 48).map (·.size) = some 11 := by kernel_rfl
theorem lawvec_size : (Try.prog.info? 43).map (·.size) = some 2 := by kernel_rfl

set_option maxRecDepth 100000 in
set_option maxHeartbeats 4000000 in
theorem walk_FnExactLevelValid (i t x y : Int) (A : Option Addr) (n c : Nat) (G : Option Addr) (m kk : Nat) (p q s z b : Int) (ws gs : List Bx) (w : World) (I : Boxes w A n ws) (J : Boxes w G m gs) (hN0 : n ≤ 9223372036854775807) (hM0 : m ≤ 9223372036854775807) :
    Calls Try.prog 11 #[lev i t x y A n c G m kk p q s z b] w fun e w' => e = .returned (.bool true) ∧ Below w.heap.size w w' := by
  have I := Lib.hid I
  have J := Lib.hid J
  by_cases big : 1048576 < n + m
  · have C := Lib.hid (fun W => szLev_no i t x y A n c G m kk p q s z b W big hN0 hM0)
    go_enter Try.func11, Try.ntmps11
    go_wp2_with fail
    refine (C.out _).mono ?_
    rintro e w1 ⟨rfl, B⟩
    have H := Lib.hid (bl_trans (bl_alloc (bl_refl w) _) B)
    clear B
    go_wp2
    go_ret
    exact ⟨rfl, H.out⟩
  have C := Lib.hid (fun W => szLev_ok i t x y A n c G m kk p q s z b W (by omega))
  have h1 : n ≤ 1048576 := by omega
  have h2 : m ≤ 1048576 := by omega
  have g0 : (0 : Int) ≤ 1048576 - n - m := by omega
  have hN : n ≤ 281474976710656 := by omega
  have hM : m ≤ 281474976710656 := by omega
  clear big hN0 hM0
  go_enter Try.func11, Try.ntmps11
  go_wp2_with fail
  refine (C.out _).mono ?_
  rintro e w1 ⟨rfl, B⟩
  have P : CellsAt w1 w.heap.size (lvs i t x y A n c G m kk p q s z b) := (CellsAt.new w _ _ _ rfl).step B
  replace I := Lib.hid ((I.out.alloc _).step B)
  replace J := Lib.hid ((J.out.alloc _).step B)
  have H := Lib.hid (bl_trans (bl_alloc (bl_refl w) _) B)
  clear B C
  have Pc0 := P.cell 0 _ rfl
  have Pc1 := P.cell 1 _ rfl
  have Pc2 := P.cell 2 _ rfl
  have Pc3 := P.cell 3 _ rfl
  have Pc4 := P.cell 4 _ rfl
  have Pc5 := P.cell 5 _ rfl
  have Pc6 := P.cell 6 _ rfl
  have Pc7 := P.cell 7 _ rfl
  have Pc8 := P.cell 8 _ rfl
  have Pc9 := P.cell 9 _ rfl
  have Pc10 := P.cell 10 _ rfl
  have Pl := P.lt
  go_wp2_with fail
  refine (toLevel_any i t x y A n c G m kk p q s z b ws gs _ I.out J.out h1 h2).mono ?_
  rintro e w2 ⟨u1, v1, rfl, I1, J1, B⟩
  clear Pc0 Pc1 Pc2 Pc3 Pc4 Pc5 Pc6 Pc7 Pc8 Pc9 Pc10 Pl
  replace P := P.step B
  replace I := Lib.hid (I.out.step B)
  replace J := Lib.hid (J.out.step B)
  replace H := Lib.hid (bl_trans H.out B)
  clear B
  replace I1 := Lib.hid I1
  replace J1 := Lib.hid J1
  have S := Lib.hid (fun (W : World) (Z : Boxes W (some ⟨u1, 0, none⟩) n ws) (Y : Boxes W (some ⟨v1, 0, none⟩) m gs) => specLvValid i t x y (some ⟨u1, 0, none⟩) n n (some ⟨v1, 0, none⟩) m m p q s z b ws gs W Z Y hN hM)
  have Pc0 := P.cell 0 _ rfl
  have Pc1 := P.cell 1 _ rfl
  have Pc2 := P.cell 2 _ rfl
  have Pc3 := P.cell 3 _ rfl
  have Pc4 := P.cell 4 _ rfl
  have Pc5 := P.cell 5 _ rfl
  have Pc6 := P.cell 6 _ rfl
  have Pc7 := P.cell 7 _ rfl
  have Pc8 := P.cell 8 _ rfl
  have Pc9 := P.cell 9 _ rfl
  have Pc10 := P.cell 10 _ rfl
  have Pl := P.lt
  go_wp2_with fail
  refine (S.out _ I1.out J1.out).mono ?_
  rintro e w3 ⟨rfl, B⟩
  clear Pc0 Pc1 Pc2 Pc3 Pc4 Pc5 Pc6 Pc7 Pc8 Pc9 Pc10 Pl
  replace P := P.step B
  replace I := Lib.hid (I.out.step B)
  replace J := Lib.hid (J.out.step B)
  replace I1 := Lib.hid (I1.out.step B)
  replace J1 := Lib.hid (J1.out.step B)
  replace H := Lib.hid (bl_trans H.out B)
  clear B
  clear S I1 J1
  have Pc0 := P.cell 0 _ rfl
  have Pc1 := P.cell 1 _ rfl
  have Pc2 := P.cell 2 _ rfl
  have Pc3 := P.cell 3 _ rfl
  have Pc4 := P.cell 4 _ rfl
  have Pc5 := P.cell 5 _ rfl
  have Pc6 := P.cell 6 _ rfl
  have Pc7 := P.cell 7 _ rfl
  have Pc8 := P.cell 8 _ rfl
  have Pc9 := P.cell 9 _ rfl
  have Pc10 := P.cell 10 _ rfl
  have Pl := P.lt
  go_wp2_with fail
  refine (toLevel_any i t x y A n c G m kk p q s z b ws gs _ I.out J.out h1 h2).mono ?_
  rintro e w4 ⟨u2, v2, rfl, I2, J2, B⟩
  clear Pc0 Pc1 Pc2 Pc3 Pc4 Pc5 Pc6 Pc7 Pc8 Pc9 Pc10 Pl
  replace P := P.step B
  replace I := Lib.hid (I.out.step B)
  replace J := Lib.hid (J.out.step B)
  replace H := Lib.hid (bl_trans H.out B)
  clear B
  replace I2 := Lib.hid I2
  replace J2 := Lib.hid J2
  have X : CellsAt (w4.alloc (.cells #[.int .i64 i, .int .i64 t, .int .i64 x, .int .i64 y, .slice (some ⟨u2, 0, none⟩) n n, .slice (some ⟨v2, 0, none⟩) m m, .int .i64 p, .int .i64 q, .int .i64 s, .int .i64 z, .int .i64 b] 29)) w4.heap.size (lvs i t x y (some ⟨u2, 0, none⟩) n n (some ⟨v2, 0, none⟩) m m p q s z b) := CellsAt.new _ _ _ _ rfl
  replace P := P.alloc (.cells #[.int .i64 i, .int .i64 t, .int .i64 x, .int .i64 y, .slice (some ⟨u2, 0, none⟩) n n, .slice (some ⟨v2, 0, none⟩) m m, .int .i64 p, .int .i64 q, .int .i64 s, .int .i64 z, .int .i64 b] 29)
  replace I := Lib.hid (I.out.alloc (.cells #[.int .i64 i, .int .i64 t, .int .i64 x, .int .i64 y, .slice (some ⟨u2, 0, none⟩) n n, .slice (some ⟨v2, 0, none⟩) m m, .int .i64 p, .int .i64 q, .int .i64 s, .int .i64 z, .int .i64 b] 29))
  replace J := Lib.hid (J.out.alloc (.cells #[.int .i64 i, .int .i64 t, .int .i64 x, .int .i64 y, .slice (some ⟨u2, 0, none⟩) n n, .slice (some ⟨v2, 0, none⟩) m m, .int .i64 p, .int .i64 q, .int .i64 s, .int .i64 z, .int .i64 b] 29))
  replace I2 := Lib.hid (I2.out.alloc (.cells #[.int .i64 i, .int .i64 t, .int .i64 x, .int .i64 y, .slice (some ⟨u2, 0, none⟩) n n, .slice (some ⟨v2, 0, none⟩) m m, .int .i64 p, .int .i64 q, .int .i64 s, .int .i64 z, .int .i64 b] 29))
  replace J2 := Lib.hid (J2.out.alloc (.cells #[.int .i64 i, .int .i64 t, .int .i64 x, .int .i64 y, .slice (some ⟨u2, 0, none⟩) n n, .slice (some ⟨v2, 0, none⟩) m m, .int .i64 p, .int .i64 q, .int .i64 s, .int .i64 z, .int .i64 b] 29))
  replace H := Lib.hid (bl_alloc H.out (.cells #[.int .i64 i, .int .i64 t, .int .i64 x, .int .i64 y, .slice (some ⟨u2, 0, none⟩) n n, .slice (some ⟨v2, 0, none⟩) m m, .int .i64 p, .int .i64 q, .int .i64 s, .int .i64 z, .int .i64 b] 29))
  have V := Lib.hid (fun (W : World) (Z : Boxes W (some ⟨u2, 0, none⟩) n ws) (Y : Boxes W (some ⟨v2, 0, none⟩) m gs) => implLvValid i t x y (some ⟨u2, 0, none⟩) n n (some ⟨v2, 0, none⟩) m m p q s z b ws gs W Z Y hN hM)
  have Pc0 := P.cell 0 _ rfl
  have Pc1 := P.cell 1 _ rfl
  have Pc2 := P.cell 2 _ rfl
  have Pc3 := P.cell 3 _ rfl
  have Pc4 := P.cell 4 _ rfl
  have Pc5 := P.cell 5 _ rfl
  have Pc6 := P.cell 6 _ rfl
  have Pc7 := P.cell 7 _ rfl
  have Pc8 := P.cell 8 _ rfl
  have Pc9 := P.cell 9 _ rfl
  have Pc10 := P.cell 10 _ rfl
  have Pl := P.lt
  have Xc0 := X.cell 0 _ rfl
  have Xc1 := X.cell 1 _ rfl
  have Xc2 := X.cell 2 _ rfl
  have Xc3 := X.cell 3 _ rfl
  have Xc4 := X.cell 4 _ rfl
  have Xc5 := X.cell 5 _ rfl
  have Xc6 := X.cell 6 _ rfl
  have Xc7 := X.cell 7 _ rfl
  have Xc8 := X.cell 8 _ rfl
  have Xc9 := X.cell 9 _ rfl
  have Xc10 := X.cell 10 _ rfl
  have Xl := X.lt
  go_wp2_with fail
  refine (V.out _ I2.out J2.out).mono ?_
  rintro e w5 ⟨rfl, B⟩
  clear Pc0 Pc1 Pc2 Pc3 Pc4 Pc5 Pc6 Pc7 Pc8 Pc9 Pc10 Pl Xc0 Xc1 Xc2 Xc3 Xc4 Xc5 Xc6 Xc7 Xc8 Xc9 Xc10 Xl
  replace P := P.step B
  replace X := X.step B
  replace I := Lib.hid (I.out.step B)
  replace J := Lib.hid (J.out.step B)
  replace I2 := Lib.hid (I2.out.step B)
  replace J2 := Lib.hid (J2.out.step B)
  replace H := Lib.hid (bl_trans H.out B)
  clear B
  clear V
  generalize lvB i t x y ws gs p q s z b = bb at *
  cases bb
  all_goals
    have Pc0 := P.cell 0 _ rfl
    have Pc1 := P.cell 1 _ rfl
    have Pc2 := P.cell 2 _ rfl
    have Pc3 := P.cell 3 _ rfl
    have Pc4 := P.cell 4 _ rfl
    have Pc5 := P.cell 5 _ rfl
    have Pc6 := P.cell 6 _ rfl
    have Pc7 := P.cell 7 _ rfl
    have Pc8 := P.cell 8 _ rfl
    have Pc9 := P.cell 9 _ rfl
    have Pc10 := P.cell 10 _ rfl
    have Pl := P.lt
    have Xc0 := X.cell 0 _ rfl
    have Xc1 := X.cell 1 _ rfl
    have Xc2 := X.cell 2 _ rfl
    have Xc3 := X.cell 3 _ rfl
    have Xc4 := X.cell 4 _ rfl
    have Xc5 := X.cell 5 _ rfl
    have Xc6 := X.cell 6 _ rfl
    have Xc7 := X.cell 7 _ rfl
    have Xc8 := X.cell 8 _ rfl
    have Xc9 := X.cell 9 _ rfl
    have Xc10 := X.cell 10 _ rfl
    have Xl := X.lt
    go_wp2_with fail
    clear Pc0 Pc1 Pc2 Pc3 Pc4 Pc5 Pc6 Pc7 Pc8 Pc9 Pc10 Pl Xc0 Xc1 Xc2 Xc3 Xc4 Xc5 Xc6 Xc7 Xc8 Xc9 Xc10 Xl
    refine wp_region_held_drew (S := fun w' => CellsAt w' w.heap.size (lvs i t x y A n c G m kk p q s z b) ∧ CellsAt w' w4.heap.size (lvs i t x y (some ⟨u2, 0, none⟩) n n (some ⟨v2, 0, none⟩) m m p q s z b)) (by kernel_rfl) ⟨(by repeat (first | with_reducible exact Pn | with_reducible exact P | with_reducible refine CellsAt.alloc ?_ _ | with_reducible refine CellsAt.drew ?_)), (by repeat (first | with_reducible exact Xn | with_reducible exact X | with_reducible refine CellsAt.alloc ?_ _ | with_reducible refine CellsAt.drew ?_))⟩ (fun hHeld => ?_)
    refine wpAnyH_take (i := 0) (oi := _) (v := .agg (lvs i t x y (some ⟨u2, 0, none⟩) n n (some ⟨v2, 0, none⟩) m m p q s z b).toArray) rfl (by kernel_rfl) (by kernel_rfl) (by kernel_rfl) (fun _ _ _ h => h) (yieldsIf_load_mid (by rfl) 29 (.tmp 5) rfl w4.heap.size 0 rfl (lvs i t x y (some ⟨u2, 0, none⟩) n n (some ⟨v2, 0, none⟩) m m p q s z b) _ (fun W hS => hS.2.range) Try.underlying29 rfl level_size) hHeld ?_
    try simp only [Act.put, List.getElem_toArray, List.getElem_cons_zero, List.setIfInBounds_toArray, List.set_cons_zero, List.set_cons_succ]
    refine wpAnyH_take (i := 1) (oi := _) (v := .agg (lvs i t x y A n c G m kk p q s z b).toArray) rfl (by kernel_rfl) (by kernel_rfl) (by kernel_rfl) (fun _ _ _ h => h) (yieldsIf_load_mid (by rfl) 48 (.tmp 1) rfl w.heap.size 0 rfl (lvs i t x y A n c G m kk p q s z b) _ (fun W hS => hS.1.range) Try.underlying48 rfl lawlevel_size) hHeld ?_
    try simp only [Act.put, List.getElem_toArray, List.getElem_cons_succ, List.getElem_cons_zero, List.setIfInBounds_toArray, List.set_cons_zero, List.set_cons_succ]
    refine wpAnyH_ready (rs := [2]) (by kernel_rfl) (by simp) ?_
    apply AllReadyH.cons rfl ?_ AllReadyH.nil
    intro K hK
    go_simp
    go_at_call 30
    refine (toLevel_any i t x y A n c G m kk p q s z b ws gs _ I.out.drew J.out.drew h1 h2).mono ?_
    rintro e wn ⟨u3, v3, rfl, I3, J3, B⟩
    have Pn := CellsAt.step (by first | with_reducible exact P.drew | with_reducible exact P) B
    have Xn := CellsAt.step (by first | with_reducible exact X.drew | with_reducible exact X) B
    have I2n := Lib.hid (Boxes.step (by first | with_reducible exact I2.out.drew | with_reducible exact I2.out) B)
    have J2n := Lib.hid (Boxes.step (by first | with_reducible exact J2.out.drew | with_reducible exact J2.out) B)
    have Hn := Lib.hid (bl_trans (by first | with_reducible exact bl_drew1 H.out | with_reducible exact H.out) B)
    replace I3 := Lib.hid I3
    replace J3 := Lib.hid J3
    clear B
    clear hHeld
    go_wp2_with fail
    refine hK.out _ _ ⟨(by repeat (first | with_reducible exact Pn | with_reducible exact P | with_reducible refine CellsAt.alloc ?_ _ | with_reducible refine CellsAt.drew ?_)), (by repeat (first | with_reducible exact Xn | with_reducible exact X | with_reducible refine CellsAt.alloc ?_ _ | with_reducible refine CellsAt.drew ?_))⟩ (fun hHeld => ?_)
    clear hK K
    try simp only [Act.put, List.getElem_toArray, List.getElem_cons_succ, List.getElem_cons_zero, List.setIfInBounds_toArray, List.set_cons_zero, List.set_cons_succ]
    refine wpAnyH_ready (rs := [3]) (by kernel_rfl) (by simp) ?_
    apply AllReadyH.cons rfl ?_ AllReadyH.nil
    intro K hK
    go_simp
    go_at_call 31
    refine (eqLevel_same i t x y n m p q s z b ws gs u2 v2 u3 v3 _ I2n.out J2n.out I3.out J3.out h1 h2).mono ?_
    rintro e wm ⟨rfl, B⟩
    have Pn := CellsAt.step (by first | with_reducible exact Pn.drew | with_reducible exact Pn) B
    have Xn := CellsAt.step (by first | with_reducible exact Xn.drew | with_reducible exact Xn) B
    have Hn := Lib.hid (bl_trans (by first | with_reducible exact bl_drew1 Hn.out | with_reducible exact Hn.out) B)
    clear B
    clear hHeld
    go_wp2_with fail
    refine hK.out _ _ ⟨(by repeat (first | with_reducible exact Pn | with_reducible exact P | with_reducible refine CellsAt.alloc ?_ _ | with_reducible refine CellsAt.drew ?_)), (by repeat (first | with_reducible exact Xn | with_reducible exact X | with_reducible refine CellsAt.alloc ?_ _ | with_reducible refine CellsAt.drew ?_))⟩ (fun hHeld => ?_)
    clear hK K
    try simp only [Act.put, List.getElem_toArray, List.getElem_cons_succ, List.getElem_cons_zero, List.setIfInBounds_toArray, List.set_cons_zero, List.set_cons_succ]
    refine wpAnyH_take (i := 4) (oi := _) (v := ?_) rfl (by kernel_rfl) (by kernel_rfl) (by kernel_rfl) (fun _ _ _ h => h) (Or.inl ⟨by rfl, ?_⟩) hHeld ?_
    rotate_left
    · intro w hSw
      try dsimp only at hSw
      go_simp
      all_goals with_reducible rfl
    try simp only [Act.put, List.getElem_toArray, List.getElem_cons_succ, List.getElem_cons_zero, List.setIfInBounds_toArray, List.set_cons_zero, List.set_cons_succ]
    refine wpAnyH_done (by kernel_rfl) ?_ _
    go_wp2
    go_ret
    exact ⟨rfl, Hn.out⟩

set_option maxRecDepth 100000 in
set_option maxHeartbeats 4000000 in
theorem walk_FnExactLevelHash (i t x y : Int) (A : Option Addr) (n c : Nat) (G : Option Addr) (m kk : Nat) (p q s z b : Int) (ws gs : List Bx) (w : World) (I : Boxes w A n ws) (J : Boxes w G m gs) (hN0 : n ≤ 9223372036854775807) (hM0 : m ≤ 9223372036854775807) :
    Calls Try.prog 14 #[lev i t x y A n c G m kk p q s z b] w fun e w' => e = .returned (.bool true) ∧ Below w.heap.size w w' := by
  have I := Lib.hid I
  have J := Lib.hid J
  by_cases big : 1048576 < n + m
  · have C := Lib.hid (fun W => szLev_no i t x y A n c G m kk p q s z b W big hN0 hM0)
    go_enter Try.func14, Try.ntmps14
    go_wp2_with fail
    refine (C.out _).mono ?_
    rintro e w1 ⟨rfl, B⟩
    have H := Lib.hid (bl_trans (bl_alloc (bl_refl w) _) B)
    clear B
    go_wp2
    go_ret
    exact ⟨rfl, H.out⟩
  have C := Lib.hid (fun W => szLev_ok i t x y A n c G m kk p q s z b W (by omega))
  have h1 : n ≤ 1048576 := by omega
  have h2 : m ≤ 1048576 := by omega
  have g0 : (0 : Int) ≤ 1048576 - n - m := by omega
  have hN : n ≤ 281474976710656 := by omega
  have hM : m ≤ 281474976710656 := by omega
  clear big hN0 hM0
  go_enter Try.func14, Try.ntmps14
  go_wp2_with fail
  refine (C.out _).mono ?_
  rintro e w1 ⟨rfl, B⟩
  have P : CellsAt w1 w.heap.size (lvs i t x y A n c G m kk p q s z b) := (CellsAt.new w _ _ _ rfl).step B
  replace I := Lib.hid ((I.out.alloc _).step B)
  replace J := Lib.hid ((J.out.alloc _).step B)
  have H := Lib.hid (bl_trans (bl_alloc (bl_refl w) _) B)
  clear B C
  have Pc0 := P.cell 0 _ rfl
  have Pc1 := P.cell 1 _ rfl
  have Pc2 := P.cell 2 _ rfl
  have Pc3 := P.cell 3 _ rfl
  have Pc4 := P.cell 4 _ rfl
  have Pc5 := P.cell 5 _ rfl
  have Pc6 := P.cell 6 _ rfl
  have Pc7 := P.cell 7 _ rfl
  have Pc8 := P.cell 8 _ rfl
  have Pc9 := P.cell 9 _ rfl
  have Pc10 := P.cell 10 _ rfl
  have Pl := P.lt
  go_wp2_with fail
  refine (toLevel_any i t x y A n c G m kk p q s z b ws gs _ I.out J.out h1 h2).mono ?_
  rintro e w2 ⟨u1, v1, rfl, I1, J1, B⟩
  clear Pc0 Pc1 Pc2 Pc3 Pc4 Pc5 Pc6 Pc7 Pc8 Pc9 Pc10 Pl
  replace P := P.step B
  replace I := Lib.hid (I.out.step B)
  replace J := Lib.hid (J.out.step B)
  replace H := Lib.hid (bl_trans H.out B)
  clear B
  replace I1 := Lib.hid I1
  replace J1 := Lib.hid J1
  have S := Lib.hid (fun (W : World) (Z : Boxes W (some ⟨u1, 0, none⟩) n ws) (Y : Boxes W (some ⟨v1, 0, none⟩) m gs) => specLvHash i t x y (some ⟨u1, 0, none⟩) n n (some ⟨v1, 0, none⟩) m m p q s z b ws gs W Z Y hN hM)
  have Pc0 := P.cell 0 _ rfl
  have Pc1 := P.cell 1 _ rfl
  have Pc2 := P.cell 2 _ rfl
  have Pc3 := P.cell 3 _ rfl
  have Pc4 := P.cell 4 _ rfl
  have Pc5 := P.cell 5 _ rfl
  have Pc6 := P.cell 6 _ rfl
  have Pc7 := P.cell 7 _ rfl
  have Pc8 := P.cell 8 _ rfl
  have Pc9 := P.cell 9 _ rfl
  have Pc10 := P.cell 10 _ rfl
  have Pl := P.lt
  go_wp2_with fail
  refine (S.out _ I1.out J1.out).mono ?_
  rintro e w3 ⟨rfl, B⟩
  clear Pc0 Pc1 Pc2 Pc3 Pc4 Pc5 Pc6 Pc7 Pc8 Pc9 Pc10 Pl
  replace P := P.step B
  replace I := Lib.hid (I.out.step B)
  replace J := Lib.hid (J.out.step B)
  replace I1 := Lib.hid (I1.out.step B)
  replace J1 := Lib.hid (J1.out.step B)
  replace H := Lib.hid (bl_trans H.out B)
  clear B
  clear S I1 J1
  have Pc0 := P.cell 0 _ rfl
  have Pc1 := P.cell 1 _ rfl
  have Pc2 := P.cell 2 _ rfl
  have Pc3 := P.cell 3 _ rfl
  have Pc4 := P.cell 4 _ rfl
  have Pc5 := P.cell 5 _ rfl
  have Pc6 := P.cell 6 _ rfl
  have Pc7 := P.cell 7 _ rfl
  have Pc8 := P.cell 8 _ rfl
  have Pc9 := P.cell 9 _ rfl
  have Pc10 := P.cell 10 _ rfl
  have Pl := P.lt
  go_wp2_with fail
  refine (toLevel_any i t x y A n c G m kk p q s z b ws gs _ I.out J.out h1 h2).mono ?_
  rintro e w4 ⟨u2, v2, rfl, I2, J2, B⟩
  clear Pc0 Pc1 Pc2 Pc3 Pc4 Pc5 Pc6 Pc7 Pc8 Pc9 Pc10 Pl
  replace P := P.step B
  replace I := Lib.hid (I.out.step B)
  replace J := Lib.hid (J.out.step B)
  replace H := Lib.hid (bl_trans H.out B)
  clear B
  replace I2 := Lib.hid I2
  replace J2 := Lib.hid J2
  have X : CellsAt (w4.alloc (.cells #[.int .i64 i, .int .i64 t, .int .i64 x, .int .i64 y, .slice (some ⟨u2, 0, none⟩) n n, .slice (some ⟨v2, 0, none⟩) m m, .int .i64 p, .int .i64 q, .int .i64 s, .int .i64 z, .int .i64 b] 29)) w4.heap.size (lvs i t x y (some ⟨u2, 0, none⟩) n n (some ⟨v2, 0, none⟩) m m p q s z b) := CellsAt.new _ _ _ _ rfl
  replace P := P.alloc (.cells #[.int .i64 i, .int .i64 t, .int .i64 x, .int .i64 y, .slice (some ⟨u2, 0, none⟩) n n, .slice (some ⟨v2, 0, none⟩) m m, .int .i64 p, .int .i64 q, .int .i64 s, .int .i64 z, .int .i64 b] 29)
  replace I := Lib.hid (I.out.alloc (.cells #[.int .i64 i, .int .i64 t, .int .i64 x, .int .i64 y, .slice (some ⟨u2, 0, none⟩) n n, .slice (some ⟨v2, 0, none⟩) m m, .int .i64 p, .int .i64 q, .int .i64 s, .int .i64 z, .int .i64 b] 29))
  replace J := Lib.hid (J.out.alloc (.cells #[.int .i64 i, .int .i64 t, .int .i64 x, .int .i64 y, .slice (some ⟨u2, 0, none⟩) n n, .slice (some ⟨v2, 0, none⟩) m m, .int .i64 p, .int .i64 q, .int .i64 s, .int .i64 z, .int .i64 b] 29))
  replace I2 := Lib.hid (I2.out.alloc (.cells #[.int .i64 i, .int .i64 t, .int .i64 x, .int .i64 y, .slice (some ⟨u2, 0, none⟩) n n, .slice (some ⟨v2, 0, none⟩) m m, .int .i64 p, .int .i64 q, .int .i64 s, .int .i64 z, .int .i64 b] 29))
  replace J2 := Lib.hid (J2.out.alloc (.cells #[.int .i64 i, .int .i64 t, .int .i64 x, .int .i64 y, .slice (some ⟨u2, 0, none⟩) n n, .slice (some ⟨v2, 0, none⟩) m m, .int .i64 p, .int .i64 q, .int .i64 s, .int .i64 z, .int .i64 b] 29))
  replace H := Lib.hid (bl_alloc H.out (.cells #[.int .i64 i, .int .i64 t, .int .i64 x, .int .i64 y, .slice (some ⟨u2, 0, none⟩) n n, .slice (some ⟨v2, 0, none⟩) m m, .int .i64 p, .int .i64 q, .int .i64 s, .int .i64 z, .int .i64 b] 29))
  have V := Lib.hid (fun (W : World) (Z : Boxes W (some ⟨u2, 0, none⟩) n ws) (Y : Boxes W (some ⟨v2, 0, none⟩) m gs) => implLvHash i t x y (some ⟨u2, 0, none⟩) n n (some ⟨v2, 0, none⟩) m m p q s z b ws gs W Z Y hN hM)
  have Pc0 := P.cell 0 _ rfl
  have Pc1 := P.cell 1 _ rfl
  have Pc2 := P.cell 2 _ rfl
  have Pc3 := P.cell 3 _ rfl
  have Pc4 := P.cell 4 _ rfl
  have Pc5 := P.cell 5 _ rfl
  have Pc6 := P.cell 6 _ rfl
  have Pc7 := P.cell 7 _ rfl
  have Pc8 := P.cell 8 _ rfl
  have Pc9 := P.cell 9 _ rfl
  have Pc10 := P.cell 10 _ rfl
  have Pl := P.lt
  have Xc0 := X.cell 0 _ rfl
  have Xc1 := X.cell 1 _ rfl
  have Xc2 := X.cell 2 _ rfl
  have Xc3 := X.cell 3 _ rfl
  have Xc4 := X.cell 4 _ rfl
  have Xc5 := X.cell 5 _ rfl
  have Xc6 := X.cell 6 _ rfl
  have Xc7 := X.cell 7 _ rfl
  have Xc8 := X.cell 8 _ rfl
  have Xc9 := X.cell 9 _ rfl
  have Xc10 := X.cell 10 _ rfl
  have Xl := X.lt
  go_wp2_with fail
  refine (V.out _ I2.out J2.out).mono ?_
  rintro e w5 ⟨rfl, B⟩
  clear Pc0 Pc1 Pc2 Pc3 Pc4 Pc5 Pc6 Pc7 Pc8 Pc9 Pc10 Pl Xc0 Xc1 Xc2 Xc3 Xc4 Xc5 Xc6 Xc7 Xc8 Xc9 Xc10 Xl
  replace P := P.step B
  replace X := X.step B
  replace I := Lib.hid (I.out.step B)
  replace J := Lib.hid (J.out.step B)
  replace I2 := Lib.hid (I2.out.step B)
  replace J2 := Lib.hid (J2.out.step B)
  replace H := Lib.hid (bl_trans H.out B)
  clear B
  clear V
  generalize lhI i t x y ws gs p q s z b = hh at *
  have Pc0 := P.cell 0 _ rfl
  have Pc1 := P.cell 1 _ rfl
  have Pc2 := P.cell 2 _ rfl
  have Pc3 := P.cell 3 _ rfl
  have Pc4 := P.cell 4 _ rfl
  have Pc5 := P.cell 5 _ rfl
  have Pc6 := P.cell 6 _ rfl
  have Pc7 := P.cell 7 _ rfl
  have Pc8 := P.cell 8 _ rfl
  have Pc9 := P.cell 9 _ rfl
  have Pc10 := P.cell 10 _ rfl
  have Pl := P.lt
  have Xc0 := X.cell 0 _ rfl
  have Xc1 := X.cell 1 _ rfl
  have Xc2 := X.cell 2 _ rfl
  have Xc3 := X.cell 3 _ rfl
  have Xc4 := X.cell 4 _ rfl
  have Xc5 := X.cell 5 _ rfl
  have Xc6 := X.cell 6 _ rfl
  have Xc7 := X.cell 7 _ rfl
  have Xc8 := X.cell 8 _ rfl
  have Xc9 := X.cell 9 _ rfl
  have Xc10 := X.cell 10 _ rfl
  have Xl := X.lt
  go_wp2_with fail
  clear Pc0 Pc1 Pc2 Pc3 Pc4 Pc5 Pc6 Pc7 Pc8 Pc9 Pc10 Pl Xc0 Xc1 Xc2 Xc3 Xc4 Xc5 Xc6 Xc7 Xc8 Xc9 Xc10 Xl
  refine wp_region_held_drew (S := fun w' => CellsAt w' w.heap.size (lvs i t x y A n c G m kk p q s z b) ∧ CellsAt w' w4.heap.size (lvs i t x y (some ⟨u2, 0, none⟩) n n (some ⟨v2, 0, none⟩) m m p q s z b)) (by kernel_rfl) ⟨(by repeat (first | with_reducible exact Pn | with_reducible exact P | with_reducible refine CellsAt.alloc ?_ _ | with_reducible refine CellsAt.drew ?_)), (by repeat (first | with_reducible exact Xn | with_reducible exact X | with_reducible refine CellsAt.alloc ?_ _ | with_reducible refine CellsAt.drew ?_))⟩ (fun hHeld => ?_)
  refine wpAnyH_take (i := 0) (oi := _) (v := .agg (lvs i t x y (some ⟨u2, 0, none⟩) n n (some ⟨v2, 0, none⟩) m m p q s z b).toArray) rfl (by kernel_rfl) (by kernel_rfl) (by kernel_rfl) (fun _ _ _ h => h) (yieldsIf_load_mid (by rfl) 29 (.tmp 5) rfl w4.heap.size 0 rfl (lvs i t x y (some ⟨u2, 0, none⟩) n n (some ⟨v2, 0, none⟩) m m p q s z b) _ (fun W hS => hS.2.range) Try.underlying29 rfl level_size) hHeld ?_
  try simp only [Act.put, List.getElem_toArray, List.getElem_cons_zero, List.setIfInBounds_toArray, List.set_cons_zero, List.set_cons_succ]
  refine wpAnyH_take (i := 1) (oi := _) (v := .agg (lvs i t x y A n c G m kk p q s z b).toArray) rfl (by kernel_rfl) (by kernel_rfl) (by kernel_rfl) (fun _ _ _ h => h) (yieldsIf_load_mid (by rfl) 48 (.tmp 1) rfl w.heap.size 0 rfl (lvs i t x y A n c G m kk p q s z b) _ (fun W hS => hS.1.range) Try.underlying48 rfl lawlevel_size) hHeld ?_
  try simp only [Act.put, List.getElem_toArray, List.getElem_cons_succ, List.getElem_cons_zero, List.setIfInBounds_toArray, List.set_cons_zero, List.set_cons_succ]
  refine wpAnyH_ready (rs := [2]) (by kernel_rfl) (by simp) ?_
  apply AllReadyH.cons rfl ?_ AllReadyH.nil
  intro K hK
  go_simp
  go_at_call 30
  refine (toLevel_any i t x y A n c G m kk p q s z b ws gs _ I.out.drew J.out.drew h1 h2).mono ?_
  rintro e wn ⟨u3, v3, rfl, I3, J3, B⟩
  have Pn := CellsAt.step (by first | with_reducible exact P.drew | with_reducible exact P) B
  have Xn := CellsAt.step (by first | with_reducible exact X.drew | with_reducible exact X) B
  have I2n := Lib.hid (Boxes.step (by first | with_reducible exact I2.out.drew | with_reducible exact I2.out) B)
  have J2n := Lib.hid (Boxes.step (by first | with_reducible exact J2.out.drew | with_reducible exact J2.out) B)
  have Hn := Lib.hid (bl_trans (by first | with_reducible exact bl_drew1 H.out | with_reducible exact H.out) B)
  replace I3 := Lib.hid I3
  replace J3 := Lib.hid J3
  clear B
  clear hHeld
  go_wp2_with fail
  refine hK.out _ _ ⟨(by repeat (first | with_reducible exact Pn | with_reducible exact P | with_reducible refine CellsAt.alloc ?_ _ | with_reducible refine CellsAt.drew ?_)), (by repeat (first | with_reducible exact Xn | with_reducible exact X | with_reducible refine CellsAt.alloc ?_ _ | with_reducible refine CellsAt.drew ?_))⟩ (fun hHeld => ?_)
  clear hK K
  try simp only [Act.put, List.getElem_toArray, List.getElem_cons_succ, List.getElem_cons_zero, List.setIfInBounds_toArray, List.set_cons_zero, List.set_cons_succ]
  refine wpAnyH_ready (rs := [3]) (by kernel_rfl) (by simp) ?_
  apply AllReadyH.cons rfl ?_ AllReadyH.nil
  intro K hK
  go_simp
  go_at_call 31
  refine (eqLevel_same i t x y n m p q s z b ws gs u2 v2 u3 v3 _ I2n.out J2n.out I3.out J3.out h1 h2).mono ?_
  rintro e wm ⟨rfl, B⟩
  have Pn := CellsAt.step (by first | with_reducible exact Pn.drew | with_reducible exact Pn) B
  have Xn := CellsAt.step (by first | with_reducible exact Xn.drew | with_reducible exact Xn) B
  have Hn := Lib.hid (bl_trans (by first | with_reducible exact bl_drew1 Hn.out | with_reducible exact Hn.out) B)
  clear B
  clear hHeld
  go_wp2_with fail
  refine hK.out _ _ ⟨(by repeat (first | with_reducible exact Pn | with_reducible exact P | with_reducible refine CellsAt.alloc ?_ _ | with_reducible refine CellsAt.drew ?_)), (by repeat (first | with_reducible exact Xn | with_reducible exact X | with_reducible refine CellsAt.alloc ?_ _ | with_reducible refine CellsAt.drew ?_))⟩ (fun hHeld => ?_)
  clear hK K
  try simp only [Act.put, List.getElem_toArray, List.getElem_cons_succ, List.getElem_cons_zero, List.setIfInBounds_toArray, List.set_cons_zero, List.set_cons_succ]
  refine wpAnyH_take (i := 4) (oi := _) (v := ?_) rfl (by kernel_rfl) (by kernel_rfl) (by kernel_rfl) (fun _ _ _ h => h) (Or.inl ⟨by rfl, ?_⟩) hHeld ?_
  rotate_left
  · intro w hSw
    try dsimp only at hSw
    go_simp
    all_goals with_reducible rfl
  try simp only [Act.put, List.getElem_toArray, List.getElem_cons_succ, List.getElem_cons_zero, List.setIfInBounds_toArray, List.set_cons_zero, List.set_cons_succ]
  refine wpAnyH_done (by kernel_rfl) ?_ _
  go_wp2
  go_ret
  exact ⟨rfl, Hn.out⟩

set_option maxRecDepth 100000 in
set_option maxHeartbeats 4000000 in
theorem walk_FnExactLevelBans (i t x y : Int) (A : Option Addr) (n c : Nat) (G : Option Addr) (m kk : Nat) (p q s z b : Int) (ws gs : List Bx) (z0 : Int) (w : World) (I : Boxes w A n ws) (J : Boxes w G m gs) (hN0 : n ≤ 9223372036854775807) (hM0 : m ≤ 9223372036854775807) :
    Calls Try.prog 13 #[lev i t x y A n c G m kk p q s z b, .int .i64 z0] w fun e w' => e = .returned (.bool true) ∧ Below w.heap.size w w' := by
  have I := Lib.hid I
  have J := Lib.hid J
  by_cases big : 1048576 < n + m
  · have C := Lib.hid (fun W => szLev_no i t x y A n c G m kk p q s z b W big hN0 hM0)
    go_enter Try.func13, Try.ntmps13
    go_wp2_with fail
    refine (C.out _).mono ?_
    rintro e w1 ⟨rfl, B⟩
    have H := Lib.hid (bl_trans (bl_alloc (bl_refl w) _) B)
    clear B
    go_wp2
    go_ret
    exact ⟨rfl, H.out⟩
  have C := Lib.hid (fun W => szLev_ok i t x y A n c G m kk p q s z b W (by omega))
  have h1 : n ≤ 1048576 := by omega
  have h2 : m ≤ 1048576 := by omega
  have g0 : (0 : Int) ≤ 1048576 - n - m := by omega
  have hN : n ≤ 281474976710656 := by omega
  have hM : m ≤ 281474976710656 := by omega
  clear big hN0 hM0
  go_enter Try.func13, Try.ntmps13
  go_wp2_with fail
  refine (C.out _).mono ?_
  rintro e w1 ⟨rfl, B⟩
  have P : CellsAt w1 w.heap.size (lvs i t x y A n c G m kk p q s z b) := (CellsAt.new w _ _ _ rfl).step B
  replace I := Lib.hid ((I.out.alloc _).step B)
  replace J := Lib.hid ((J.out.alloc _).step B)
  have H := Lib.hid (bl_trans (bl_alloc (bl_refl w) _) B)
  clear B C
  have Pc0 := P.cell 0 _ rfl
  have Pc1 := P.cell 1 _ rfl
  have Pc2 := P.cell 2 _ rfl
  have Pc3 := P.cell 3 _ rfl
  have Pc4 := P.cell 4 _ rfl
  have Pc5 := P.cell 5 _ rfl
  have Pc6 := P.cell 6 _ rfl
  have Pc7 := P.cell 7 _ rfl
  have Pc8 := P.cell 8 _ rfl
  have Pc9 := P.cell 9 _ rfl
  have Pc10 := P.cell 10 _ rfl
  have Pl := P.lt
  go_wp2_with fail
  refine (toLevel_any i t x y A n c G m kk p q s z b ws gs _ I.out J.out h1 h2).mono ?_
  rintro e w2 ⟨u1, v1, rfl, I1, J1, B⟩
  clear Pc0 Pc1 Pc2 Pc3 Pc4 Pc5 Pc6 Pc7 Pc8 Pc9 Pc10 Pl
  replace P := P.step B
  replace I := Lib.hid (I.out.step B)
  replace J := Lib.hid (J.out.step B)
  replace H := Lib.hid (bl_trans H.out B)
  clear B
  replace I1 := Lib.hid I1
  replace J1 := Lib.hid J1
  have S := Lib.hid (fun (W : World) (Z : Boxes W (some ⟨u1, 0, none⟩) n ws) (Y : Boxes W (some ⟨v1, 0, none⟩) m gs) => specLvBans i t x y (some ⟨u1, 0, none⟩) n n (some ⟨v1, 0, none⟩) m m p q s z b ws gs z0 W Z Y hN hM)
  have Pc0 := P.cell 0 _ rfl
  have Pc1 := P.cell 1 _ rfl
  have Pc2 := P.cell 2 _ rfl
  have Pc3 := P.cell 3 _ rfl
  have Pc4 := P.cell 4 _ rfl
  have Pc5 := P.cell 5 _ rfl
  have Pc6 := P.cell 6 _ rfl
  have Pc7 := P.cell 7 _ rfl
  have Pc8 := P.cell 8 _ rfl
  have Pc9 := P.cell 9 _ rfl
  have Pc10 := P.cell 10 _ rfl
  have Pl := P.lt
  go_wp2_with fail
  refine (S.out _ I1.out J1.out).mono ?_
  rintro e w3 ⟨rfl, B⟩
  clear Pc0 Pc1 Pc2 Pc3 Pc4 Pc5 Pc6 Pc7 Pc8 Pc9 Pc10 Pl
  replace P := P.step B
  replace I := Lib.hid (I.out.step B)
  replace J := Lib.hid (J.out.step B)
  replace I1 := Lib.hid (I1.out.step B)
  replace J1 := Lib.hid (J1.out.step B)
  replace H := Lib.hid (bl_trans H.out B)
  clear B
  clear S I1 J1
  have Pc0 := P.cell 0 _ rfl
  have Pc1 := P.cell 1 _ rfl
  have Pc2 := P.cell 2 _ rfl
  have Pc3 := P.cell 3 _ rfl
  have Pc4 := P.cell 4 _ rfl
  have Pc5 := P.cell 5 _ rfl
  have Pc6 := P.cell 6 _ rfl
  have Pc7 := P.cell 7 _ rfl
  have Pc8 := P.cell 8 _ rfl
  have Pc9 := P.cell 9 _ rfl
  have Pc10 := P.cell 10 _ rfl
  have Pl := P.lt
  go_wp2_with fail
  refine (toLevel_any i t x y A n c G m kk p q s z b ws gs _ I.out J.out h1 h2).mono ?_
  rintro e w4 ⟨u2, v2, rfl, I2, J2, B⟩
  clear Pc0 Pc1 Pc2 Pc3 Pc4 Pc5 Pc6 Pc7 Pc8 Pc9 Pc10 Pl
  replace P := P.step B
  replace I := Lib.hid (I.out.step B)
  replace J := Lib.hid (J.out.step B)
  replace H := Lib.hid (bl_trans H.out B)
  clear B
  replace I2 := Lib.hid I2
  replace J2 := Lib.hid J2
  have X : CellsAt (w4.alloc (.cells #[.int .i64 i, .int .i64 t, .int .i64 x, .int .i64 y, .slice (some ⟨u2, 0, none⟩) n n, .slice (some ⟨v2, 0, none⟩) m m, .int .i64 p, .int .i64 q, .int .i64 s, .int .i64 z, .int .i64 b] 29)) w4.heap.size (lvs i t x y (some ⟨u2, 0, none⟩) n n (some ⟨v2, 0, none⟩) m m p q s z b) := CellsAt.new _ _ _ _ rfl
  replace P := P.alloc (.cells #[.int .i64 i, .int .i64 t, .int .i64 x, .int .i64 y, .slice (some ⟨u2, 0, none⟩) n n, .slice (some ⟨v2, 0, none⟩) m m, .int .i64 p, .int .i64 q, .int .i64 s, .int .i64 z, .int .i64 b] 29)
  replace I := Lib.hid (I.out.alloc (.cells #[.int .i64 i, .int .i64 t, .int .i64 x, .int .i64 y, .slice (some ⟨u2, 0, none⟩) n n, .slice (some ⟨v2, 0, none⟩) m m, .int .i64 p, .int .i64 q, .int .i64 s, .int .i64 z, .int .i64 b] 29))
  replace J := Lib.hid (J.out.alloc (.cells #[.int .i64 i, .int .i64 t, .int .i64 x, .int .i64 y, .slice (some ⟨u2, 0, none⟩) n n, .slice (some ⟨v2, 0, none⟩) m m, .int .i64 p, .int .i64 q, .int .i64 s, .int .i64 z, .int .i64 b] 29))
  replace I2 := Lib.hid (I2.out.alloc (.cells #[.int .i64 i, .int .i64 t, .int .i64 x, .int .i64 y, .slice (some ⟨u2, 0, none⟩) n n, .slice (some ⟨v2, 0, none⟩) m m, .int .i64 p, .int .i64 q, .int .i64 s, .int .i64 z, .int .i64 b] 29))
  replace J2 := Lib.hid (J2.out.alloc (.cells #[.int .i64 i, .int .i64 t, .int .i64 x, .int .i64 y, .slice (some ⟨u2, 0, none⟩) n n, .slice (some ⟨v2, 0, none⟩) m m, .int .i64 p, .int .i64 q, .int .i64 s, .int .i64 z, .int .i64 b] 29))
  replace H := Lib.hid (bl_alloc H.out (.cells #[.int .i64 i, .int .i64 t, .int .i64 x, .int .i64 y, .slice (some ⟨u2, 0, none⟩) n n, .slice (some ⟨v2, 0, none⟩) m m, .int .i64 p, .int .i64 q, .int .i64 s, .int .i64 z, .int .i64 b] 29))
  have V := Lib.hid (fun (W : World) (Z : Boxes W (some ⟨u2, 0, none⟩) n ws) (Y : Boxes W (some ⟨v2, 0, none⟩) m gs) => implLvBans i t x y (some ⟨u2, 0, none⟩) n n (some ⟨v2, 0, none⟩) m m p q s z b ws gs z0 W Z Y hN hM)
  have Pc0 := P.cell 0 _ rfl
  have Pc1 := P.cell 1 _ rfl
  have Pc2 := P.cell 2 _ rfl
  have Pc3 := P.cell 3 _ rfl
  have Pc4 := P.cell 4 _ rfl
  have Pc5 := P.cell 5 _ rfl
  have Pc6 := P.cell 6 _ rfl
  have Pc7 := P.cell 7 _ rfl
  have Pc8 := P.cell 8 _ rfl
  have Pc9 := P.cell 9 _ rfl
  have Pc10 := P.cell 10 _ rfl
  have Pl := P.lt
  have Xc0 := X.cell 0 _ rfl
  have Xc1 := X.cell 1 _ rfl
  have Xc2 := X.cell 2 _ rfl
  have Xc3 := X.cell 3 _ rfl
  have Xc4 := X.cell 4 _ rfl
  have Xc5 := X.cell 5 _ rfl
  have Xc6 := X.cell 6 _ rfl
  have Xc7 := X.cell 7 _ rfl
  have Xc8 := X.cell 8 _ rfl
  have Xc9 := X.cell 9 _ rfl
  have Xc10 := X.cell 10 _ rfl
  have Xl := X.lt
  go_wp2_with fail
  refine (V.out _ I2.out J2.out).mono ?_
  rintro e w5 ⟨rfl, B⟩
  clear Pc0 Pc1 Pc2 Pc3 Pc4 Pc5 Pc6 Pc7 Pc8 Pc9 Pc10 Pl Xc0 Xc1 Xc2 Xc3 Xc4 Xc5 Xc6 Xc7 Xc8 Xc9 Xc10 Xl
  replace P := P.step B
  replace X := X.step B
  replace I := Lib.hid (I.out.step B)
  replace J := Lib.hid (J.out.step B)
  replace I2 := Lib.hid (I2.out.step B)
  replace J2 := Lib.hid (J2.out.step B)
  replace H := Lib.hid (bl_trans H.out B)
  clear B
  clear V
  generalize lbB i t x y ws gs p q s z b z0 = bb at *
  cases bb
  all_goals
    have Pc0 := P.cell 0 _ rfl
    have Pc1 := P.cell 1 _ rfl
    have Pc2 := P.cell 2 _ rfl
    have Pc3 := P.cell 3 _ rfl
    have Pc4 := P.cell 4 _ rfl
    have Pc5 := P.cell 5 _ rfl
    have Pc6 := P.cell 6 _ rfl
    have Pc7 := P.cell 7 _ rfl
    have Pc8 := P.cell 8 _ rfl
    have Pc9 := P.cell 9 _ rfl
    have Pc10 := P.cell 10 _ rfl
    have Pl := P.lt
    have Xc0 := X.cell 0 _ rfl
    have Xc1 := X.cell 1 _ rfl
    have Xc2 := X.cell 2 _ rfl
    have Xc3 := X.cell 3 _ rfl
    have Xc4 := X.cell 4 _ rfl
    have Xc5 := X.cell 5 _ rfl
    have Xc6 := X.cell 6 _ rfl
    have Xc7 := X.cell 7 _ rfl
    have Xc8 := X.cell 8 _ rfl
    have Xc9 := X.cell 9 _ rfl
    have Xc10 := X.cell 10 _ rfl
    have Xl := X.lt
    go_wp2_with fail
    clear Pc0 Pc1 Pc2 Pc3 Pc4 Pc5 Pc6 Pc7 Pc8 Pc9 Pc10 Pl Xc0 Xc1 Xc2 Xc3 Xc4 Xc5 Xc6 Xc7 Xc8 Xc9 Xc10 Xl
    refine wp_region_held_drew (S := fun w' => CellsAt w' w.heap.size (lvs i t x y A n c G m kk p q s z b) ∧ CellsAt w' w4.heap.size (lvs i t x y (some ⟨u2, 0, none⟩) n n (some ⟨v2, 0, none⟩) m m p q s z b)) (by kernel_rfl) ⟨(by repeat (first | with_reducible exact Pn | with_reducible exact P | with_reducible refine CellsAt.alloc ?_ _ | with_reducible refine CellsAt.drew ?_)), (by repeat (first | with_reducible exact Xn | with_reducible exact X | with_reducible refine CellsAt.alloc ?_ _ | with_reducible refine CellsAt.drew ?_))⟩ (fun hHeld => ?_)
    refine wpAnyH_take (i := 0) (oi := _) (v := .agg (lvs i t x y (some ⟨u2, 0, none⟩) n n (some ⟨v2, 0, none⟩) m m p q s z b).toArray) rfl (by kernel_rfl) (by kernel_rfl) (by kernel_rfl) (fun _ _ _ h => h) (yieldsIf_load_mid (by rfl) 29 (.tmp 7) rfl w4.heap.size 0 rfl (lvs i t x y (some ⟨u2, 0, none⟩) n n (some ⟨v2, 0, none⟩) m m p q s z b) _ (fun W hS => hS.2.range) Try.underlying29 rfl level_size) hHeld ?_
    try simp only [Act.put, List.getElem_toArray, List.getElem_cons_zero, List.setIfInBounds_toArray, List.set_cons_zero, List.set_cons_succ]
    refine wpAnyH_take (i := 1) (oi := _) (v := .agg (lvs i t x y A n c G m kk p q s z b).toArray) rfl (by kernel_rfl) (by kernel_rfl) (by kernel_rfl) (fun _ _ _ h => h) (yieldsIf_load_mid (by rfl) 48 (.tmp 2) rfl w.heap.size 0 rfl (lvs i t x y A n c G m kk p q s z b) _ (fun W hS => hS.1.range) Try.underlying48 rfl lawlevel_size) hHeld ?_
    try simp only [Act.put, List.getElem_toArray, List.getElem_cons_succ, List.getElem_cons_zero, List.setIfInBounds_toArray, List.set_cons_zero, List.set_cons_succ]
    refine wpAnyH_ready (rs := [2]) (by kernel_rfl) (by simp) ?_
    apply AllReadyH.cons rfl ?_ AllReadyH.nil
    intro K hK
    go_simp
    go_at_call 30
    refine (toLevel_any i t x y A n c G m kk p q s z b ws gs _ I.out.drew J.out.drew h1 h2).mono ?_
    rintro e wn ⟨u3, v3, rfl, I3, J3, B⟩
    have Pn := CellsAt.step (by first | with_reducible exact P.drew | with_reducible exact P) B
    have Xn := CellsAt.step (by first | with_reducible exact X.drew | with_reducible exact X) B
    have I2n := Lib.hid (Boxes.step (by first | with_reducible exact I2.out.drew | with_reducible exact I2.out) B)
    have J2n := Lib.hid (Boxes.step (by first | with_reducible exact J2.out.drew | with_reducible exact J2.out) B)
    have Hn := Lib.hid (bl_trans (by first | with_reducible exact bl_drew1 H.out | with_reducible exact H.out) B)
    replace I3 := Lib.hid I3
    replace J3 := Lib.hid J3
    clear B
    clear hHeld
    go_wp2_with fail
    refine hK.out _ _ ⟨(by repeat (first | with_reducible exact Pn | with_reducible exact P | with_reducible refine CellsAt.alloc ?_ _ | with_reducible refine CellsAt.drew ?_)), (by repeat (first | with_reducible exact Xn | with_reducible exact X | with_reducible refine CellsAt.alloc ?_ _ | with_reducible refine CellsAt.drew ?_))⟩ (fun hHeld => ?_)
    clear hK K
    try simp only [Act.put, List.getElem_toArray, List.getElem_cons_succ, List.getElem_cons_zero, List.setIfInBounds_toArray, List.set_cons_zero, List.set_cons_succ]
    refine wpAnyH_ready (rs := [3]) (by kernel_rfl) (by simp) ?_
    apply AllReadyH.cons rfl ?_ AllReadyH.nil
    intro K hK
    go_simp
    go_at_call 31
    refine (eqLevel_same i t x y n m p q s z b ws gs u2 v2 u3 v3 _ I2n.out J2n.out I3.out J3.out h1 h2).mono ?_
    rintro e wm ⟨rfl, B⟩
    have Pn := CellsAt.step (by first | with_reducible exact Pn.drew | with_reducible exact Pn) B
    have Xn := CellsAt.step (by first | with_reducible exact Xn.drew | with_reducible exact Xn) B
    have Hn := Lib.hid (bl_trans (by first | with_reducible exact bl_drew1 Hn.out | with_reducible exact Hn.out) B)
    clear B
    clear hHeld
    go_wp2_with fail
    refine hK.out _ _ ⟨(by repeat (first | with_reducible exact Pn | with_reducible exact P | with_reducible refine CellsAt.alloc ?_ _ | with_reducible refine CellsAt.drew ?_)), (by repeat (first | with_reducible exact Xn | with_reducible exact X | with_reducible refine CellsAt.alloc ?_ _ | with_reducible refine CellsAt.drew ?_))⟩ (fun hHeld => ?_)
    clear hK K
    try simp only [Act.put, List.getElem_toArray, List.getElem_cons_succ, List.getElem_cons_zero, List.setIfInBounds_toArray, List.set_cons_zero, List.set_cons_succ]
    refine wpAnyH_take (i := 4) (oi := _) (v := ?_) rfl (by kernel_rfl) (by kernel_rfl) (by kernel_rfl) (fun _ _ _ h => h) (Or.inl ⟨by rfl, ?_⟩) hHeld ?_
    rotate_left
    · intro w hSw
      try dsimp only at hSw
      go_simp
      all_goals with_reducible rfl
    try simp only [Act.put, List.getElem_toArray, List.getElem_cons_succ, List.getElem_cons_zero, List.setIfInBounds_toArray, List.set_cons_zero, List.set_cons_succ]
    refine wpAnyH_done (by kernel_rfl) ?_ _
    go_wp2
    go_ret
    exact ⟨rfl, Hn.out⟩

end Go.Proofs.Ytmhmlmoohimfmaa
