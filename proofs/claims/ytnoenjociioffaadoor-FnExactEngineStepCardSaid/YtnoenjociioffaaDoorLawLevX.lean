/-
  The walks of the exact laws of chapter 11: at every argument the program answers as the model, and writes into no argument.
-/
import Derived.Test.YtnoenjociioffaaDoorToLevB
import Derived.Deep.RegionHeld3
namespace Go.Proofs.YtnoenjociioffaaDoor
open Go.RowKit
open M

theorem wp_at' {P : Program} {code : Code} {Q : Exit → Act → World → Prop} {a : Act} {W : World} (S : World → Prop) (hS : S W) (h : ∀ W', S W' → code.wp P Q a W') : code.wp P Q a W := h W hS

set_option maxRecDepth 100000 in
set_option maxHeartbeats 4000000 in
theorem eqLevel_same (i t x y : Int) (n m : Nat) (p q s z b : Int) (ws gs : List Bx) (u v u' v' : Nat) (w : World) (I : Boxes w (some ⟨u, 0, none⟩) n ws) (J : Boxes w (some ⟨v, 0, none⟩) m gs) (I2 : Boxes w (some ⟨u', 0, none⟩) n ws) (J2 : Boxes w (some ⟨v', 0, none⟩) m gs) (h1 : n ≤ 1048576) (h2 : m ≤ 1048576) :
    Calls Tryd.prog 38 #[lev i t x y (some ⟨u, 0, none⟩) n n (some ⟨v, 0, none⟩) m m p q s z b, lev i t x y (some ⟨u', 0, none⟩) n n (some ⟨v', 0, none⟩) m m p q s z b] w fun e w' => e = .returned (.bool true) ∧ Below w.heap.size w w' := by
  have I := Lib.hid I
  have J := Lib.hid J
  have I2 := Lib.hid I2
  have J2 := Lib.hid J2
  go_enter Tryd.func38, Tryd.ntmps38
  go_wp2_with fail
  refine (eqVec_same x y _).mono ?_
  rintro e w1 ⟨rfl, B⟩
  have P : CellsAt w1 w.heap.size (lvs i t x y (some ⟨u, 0, none⟩) n n (some ⟨v, 0, none⟩) m m p q s z b) := ((CellsAt.new w _ _ _ rfl).alloc _).step B
  have O : CellsAt w1 (w.heap.size + 1) (lvs i t x y (some ⟨u', 0, none⟩) n n (some ⟨v', 0, none⟩) m m p q s z b) := (CellsAt.new _ _ _ _ (by simp)).step B
  replace I := Lib.hid (((I.out.alloc _).alloc _).step B)
  replace J := Lib.hid (((J.out.alloc _).alloc _).step B)
  replace I2 := Lib.hid (((I2.out.alloc _).alloc _).step B)
  replace J2 := Lib.hid (((J2.out.alloc _).alloc _).step B)
  have H := Lib.hid (bl_trans (bl_alloc (bl_alloc (bl_refl w) _) _) B)
  clear B
  have Pc0 := P.cell 0 _ rfl
  have Pc1 := P.cell 1 _ rfl
  have Pc2 := P.cell 2 _ rfl
  have Pc3 := P.cell 3 _ rfl
  have Pc4 := P.cell 4 _ rfl
  have Pc5 := P.cell 5 _ rfl
  have Pc6 := P.cell 6 _ rfl
  have Pc7 := P.cell 7 _ rfl
  have Pc8 := P.cell 8 _ rfl
  have Pc9 := P.cell 9 _ rfl
  have Pc10 := P.cell 10 _ rfl
  have Pl := P.lt
  have Oc0 := O.cell 0 _ rfl
  have Oc1 := O.cell 1 _ rfl
  have Oc2 := O.cell 2 _ rfl
  have Oc3 := O.cell 3 _ rfl
  have Oc4 := O.cell 4 _ rfl
  have Oc5 := O.cell 5 _ rfl
  have Oc6 := O.cell 6 _ rfl
  have Oc7 := O.cell 7 _ rfl
  have Oc8 := O.cell 8 _ rfl
  have Oc9 := O.cell 9 _ rfl
  have Oc10 := O.cell 10 _ rfl
  have Ol := O.lt
  go_wp2_with fail
  refine (eqBoxS_same _ _ n n n ws _ I.out I2.out h1).mono ?_
  rintro e w2 ⟨rfl, B⟩
  clear Pc0 Pc1 Pc2 Pc3 Pc4 Pc5 Pc6 Pc7 Pc8 Pc9 Pc10 Pl Oc0 Oc1 Oc2 Oc3 Oc4 Oc5 Oc6 Oc7 Oc8 Oc9 Oc10 Ol
  replace P := P.step B
  replace O := O.step B
  replace I := Lib.hid (I.out.step B)
  replace J := Lib.hid (J.out.step B)
  replace I2 := Lib.hid (I2.out.step B)
  replace J2 := Lib.hid (J2.out.step B)
  replace H := Lib.hid (bl_trans H.out B)
  clear B
  have Pc0 := P.cell 0 _ rfl
  have Pc1 := P.cell 1 _ rfl
  have Pc2 := P.cell 2 _ rfl
  have Pc3 := P.cell 3 _ rfl
  have Pc4 := P.cell 4 _ rfl
  have Pc5 := P.cell 5 _ rfl
  have Pc6 := P.cell 6 _ rfl
  have Pc7 := P.cell 7 _ rfl
  have Pc8 := P.cell 8 _ rfl
  have Pc9 := P.cell 9 _ rfl
  have Pc10 := P.cell 10 _ rfl
  have Pl := P.lt
  have Oc0 := O.cell 0 _ rfl
  have Oc1 := O.cell 1 _ rfl
  have Oc2 := O.cell 2 _ rfl
  have Oc3 := O.cell 3 _ rfl
  have Oc4 := O.cell 4 _ rfl
  have Oc5 := O.cell 5 _ rfl
  have Oc6 := O.cell 6 _ rfl
  have Oc7 := O.cell 7 _ rfl
  have Oc8 := O.cell 8 _ rfl
  have Oc9 := O.cell 9 _ rfl
  have Oc10 := O.cell 10 _ rfl
  have Ol := O.lt
  go_wp2_with fail
  refine (eqBoxS_same _ _ m m m gs _ J.out J2.out h2).mono ?_
  rintro e w3 ⟨rfl, B⟩
  clear Pc0 Pc1 Pc2 Pc3 Pc4 Pc5 Pc6 Pc7 Pc8 Pc9 Pc10 Pl Oc0 Oc1 Oc2 Oc3 Oc4 Oc5 Oc6 Oc7 Oc8 Oc9 Oc10 Ol
  replace P := P.step B
  replace O := O.step B
  replace I := Lib.hid (I.out.step B)
  replace J := Lib.hid (J.out.step B)
  replace I2 := Lib.hid (I2.out.step B)
  replace J2 := Lib.hid (J2.out.step B)
  replace H := Lib.hid (bl_trans H.out B)
  clear B
  have Pc0 := P.cell 0 _ rfl
  have Pc1 := P.cell 1 _ rfl
  have Pc2 := P.cell 2 _ rfl
  have Pc3 := P.cell 3 _ rfl
  have Pc4 := P.cell 4 _ rfl
  have Pc5 := P.cell 5 _ rfl
  have Pc6 := P.cell 6 _ rfl
  have Pc7 := P.cell 7 _ rfl
  have Pc8 := P.cell 8 _ rfl
  have Pc9 := P.cell 9 _ rfl
  have Pc10 := P.cell 10 _ rfl
  have Pl := P.lt
  have Oc0 := O.cell 0 _ rfl
  have Oc1 := O.cell 1 _ rfl
  have Oc2 := O.cell 2 _ rfl
  have Oc3 := O.cell 3 _ rfl
  have Oc4 := O.cell 4 _ rfl
  have Oc5 := O.cell 5 _ rfl
  have Oc6 := O.cell 6 _ rfl
  have Oc7 := O.cell 7 _ rfl
  have Oc8 := O.cell 8 _ rfl
  have Oc9 := O.cell 9 _ rfl
  have Oc10 := O.cell 10 _ rfl
  have Ol := O.lt
  go_wp2_with fail
  refine (eqBox_same p q s z _).mono ?_
  rintro e w4 ⟨rfl, B⟩
  clear Pc0 Pc1 Pc2 Pc3 Pc4 Pc5 Pc6 Pc7 Pc8 Pc9 Pc10 Pl Oc0 Oc1 Oc2 Oc3 Oc4 Oc5 Oc6 Oc7 Oc8 Oc9 Oc10 Ol
  replace P := P.step B
  replace O := O.step B
  replace I := Lib.hid (I.out.step B)
  replace J := Lib.hid (J.out.step B)
  replace I2 := Lib.hid (I2.out.step B)
  replace J2 := Lib.hid (J2.out.step B)
  replace H := Lib.hid (bl_trans H.out B)
  clear B
  have Pc0 := P.cell 0 _ rfl
  have Pc1 := P.cell 1 _ rfl
  have Pc2 := P.cell 2 _ rfl
  have Pc3 := P.cell 3 _ rfl
  have Pc4 := P.cell 4 _ rfl
  have Pc5 := P.cell 5 _ rfl
  have Pc6 := P.cell 6 _ rfl
  have Pc7 := P.cell 7 _ rfl
  have Pc8 := P.cell 8 _ rfl
  have Pc9 := P.cell 9 _ rfl
  have Pc10 := P.cell 10 _ rfl
  have Pl := P.lt
  have Oc0 := O.cell 0 _ rfl
  have Oc1 := O.cell 1 _ rfl
  have Oc2 := O.cell 2 _ rfl
  have Oc3 := O.cell 3 _ rfl
  have Oc4 := O.cell 4 _ rfl
  have Oc5 := O.cell 5 _ rfl
  have Oc6 := O.cell 6 _ rfl
  have Oc7 := O.cell 7 _ rfl
  have Oc8 := O.cell 8 _ rfl
  have Oc9 := O.cell 9 _ rfl
  have Oc10 := O.cell 10 _ rfl
  have Ol := O.lt
  go_wp2
  go_ret
  exact ⟨rfl, H.out⟩

theorem lawlevel_size : (Tryd.prog.info? 55).map (·.size) = some 11 := by kernel_rfl
theorem lawvec_size : (Tryd.prog.info? 50).map (·.size) = some 2 := by kernel_rfl

end Go.Proofs.YtnoenjociioffaaDoor
