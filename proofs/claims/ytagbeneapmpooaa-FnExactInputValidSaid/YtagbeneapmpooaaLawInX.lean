/-
  The walks of the exact laws of chapter 12 on single inputs: at every argument the program answers as the model.
-/
import Derived.Test.YtagbeneapmpooaaInImpl
import Derived.Test.YtagbeneapmpooaaToIn
namespace Go.Proofs.Ytagbeneapmpooaa
open Go.RowKit
open M

set_option maxHeartbeats 1000000 in
theorem walk_FnExactInputValid (s p : Int) (z : Bool) (w : World) : Calls Try.prog 10 #[inp s p z] w fun e w' => e = .returned (.bool true) ∧ Below w.heap.size w w' := by
  have V := fun W => implIValid s p z W
  have S := fun W => specIValid s p z W
  generalize inV s p z = rr at *
  have V := Lib.hid V
  have S := Lib.hid S
  go_enter Try.func10, Try.ntmps10
  go_wp2_with fail
  refine (toInput_any s p z _).mono ?_
  rintro e w1 ⟨rfl, B⟩
  have P : CellsAt w1 w.heap.size (ins s p z) := (CellsAt.new w _ _ _ rfl).step B
  have H := Lib.hid (bl_trans (bl_alloc (bl_refl w) _) B)
  clear B
  have Pc0 := P.cell 0 _ rfl
  have Pc1 := P.cell 1 _ rfl
  have Pc2 := P.cell 2 _ rfl
  have Pl := P.lt
  go_wp2_with fail
  refine (S.out _).mono ?_
  rintro e w2 ⟨rfl, B⟩
  clear Pc0 Pc1 Pc2 Pl
  replace P := P.step B
  replace H := Lib.hid (bl_trans H.out B)
  clear B
  have Pc0 := P.cell 0 _ rfl
  have Pc1 := P.cell 1 _ rfl
  have Pc2 := P.cell 2 _ rfl
  have Pl := P.lt
  go_wp2_with fail
  refine (toInput_any s p z _).mono ?_
  rintro e w3 ⟨rfl, B⟩
  clear Pc0 Pc1 Pc2 Pl
  replace P := P.step B
  replace H := Lib.hid (bl_trans H.out B)
  clear B
  have Pc0 := P.cell 0 _ rfl
  have Pc1 := P.cell 1 _ rfl
  have Pc2 := P.cell 2 _ rfl
  have Pl := P.lt
  go_wp2_with fail
  refine (V.out _).mono ?_
  rintro e w4 ⟨rfl, B⟩
  clear Pc0 Pc1 Pc2 Pl
  replace P := P.step B
  replace H := Lib.hid (bl_trans H.out B)
  clear B
  cases rr
  all_goals
    go_wp2
    go_ret
    exact ⟨rfl, H.out⟩

set_option maxHeartbeats 1000000 in
theorem walk_FnExactInputCode (s p : Int) (z : Bool) (w : World) : Calls Try.prog 11 #[inp s p z] w fun e w' => e = .returned (.bool true) ∧ Below w.heap.size w w' := by
  have V := fun W => implICode s p z W
  have S := fun W => specICode s p z W
  generalize icI s p z = rr at *
  have V := Lib.hid V
  have S := Lib.hid S
  go_enter Try.func11, Try.ntmps11
  go_wp2_with fail
  refine (toInput_any s p z _).mono ?_
  rintro e w1 ⟨rfl, B⟩
  have P : CellsAt w1 w.heap.size (ins s p z) := (CellsAt.new w _ _ _ rfl).step B
  have H := Lib.hid (bl_trans (bl_alloc (bl_refl w) _) B)
  clear B
  have Pc0 := P.cell 0 _ rfl
  have Pc1 := P.cell 1 _ rfl
  have Pc2 := P.cell 2 _ rfl
  have Pl := P.lt
  go_wp2_with fail
  refine (S.out _).mono ?_
  rintro e w2 ⟨rfl, B⟩
  clear Pc0 Pc1 Pc2 Pl
  replace P := P.step B
  replace H := Lib.hid (bl_trans H.out B)
  clear B
  have Pc0 := P.cell 0 _ rfl
  have Pc1 := P.cell 1 _ rfl
  have Pc2 := P.cell 2 _ rfl
  have Pl := P.lt
  go_wp2_with fail
  refine (toInput_any s p z _).mono ?_
  rintro e w3 ⟨rfl, B⟩
  clear Pc0 Pc1 Pc2 Pl
  replace P := P.step B
  replace H := Lib.hid (bl_trans H.out B)
  clear B
  have Pc0 := P.cell 0 _ rfl
  have Pc1 := P.cell 1 _ rfl
  have Pc2 := P.cell 2 _ rfl
  have Pl := P.lt
  go_wp2_with fail
  refine (V.out _).mono ?_
  rintro e w4 ⟨rfl, B⟩
  clear Pc0 Pc1 Pc2 Pl
  replace P := P.step B
  replace H := Lib.hid (bl_trans H.out B)
  clear B
  go_wp2
  go_ret
  exact ⟨rfl, H.out⟩

set_option maxHeartbeats 1000000 in
theorem walk_FnExactInputOf (n : Int) (w : World) : Calls Try.prog 12 #[.int .i64 n] w fun e w' => e = .returned (.bool true) ∧ Below w.heap.size w w' := by
  have V := fun W => implIOf n W
  have S := fun W => specIOf n W
  generalize ofS n = gs at *
  generalize ofP n = gp at *
  generalize ofZ n = gz at *
  generalize inB n 0 9 = gb at *
  have V := Lib.hid V
  have S := Lib.hid S
  go_enter Try.func12, Try.ntmps12
  go_wp2_with fail
  refine (S.out _).mono ?_
  rintro e w1 ⟨rfl, B⟩
  have Y : CellsAt (w1.alloc (.cells #[.int .i64 gs, .int .i64 gp, .bool gz] 24)) w1.heap.size (ins gs gp gz) := CellsAt.new _ _ _ _ rfl
  have H := Lib.hid (bl_alloc B (.cells #[.int .i64 gs, .int .i64 gp, .bool gz] 24))
  clear B
  have Yc0 := Y.cell 0 _ rfl
  have Yc1 := Y.cell 1 _ rfl
  have Yc2 := Y.cell 2 _ rfl
  have Yl := Y.lt
  go_wp2_with fail
  refine (V.out _).mono ?_
  rintro e w2 ⟨rfl, B⟩
  clear Yc0 Yc1 Yc2 Yl
  replace Y := Y.step B
  replace H := Lib.hid (bl_trans H.out B)
  clear B
  have X : CellsAt (w2.alloc (.cells #[.int .i64 gs, .int .i64 gp, .bool gz] 24)) w2.heap.size (ins gs gp gz) := CellsAt.new _ _ _ _ rfl
  replace Y := Y.alloc (.cells #[.int .i64 gs, .int .i64 gp, .bool gz] 24)
  replace H := Lib.hid (bl_alloc H.out (.cells #[.int .i64 gs, .int .i64 gp, .bool gz] 24))
  have Yc0 := Y.cell 0 _ rfl
  have Yc1 := Y.cell 1 _ rfl
  have Yc2 := Y.cell 2 _ rfl
  have Yl := Y.lt
  have Xc0 := X.cell 0 _ rfl
  have Xc1 := X.cell 1 _ rfl
  have Xc2 := X.cell 2 _ rfl
  have Xl := X.lt
  go_wp2_with fail
  refine (eqInput_same gs gp gz _).mono ?_
  rintro e w3 ⟨rfl, B⟩
  clear Yc0 Yc1 Yc2 Yl Xc0 Xc1 Xc2 Xl
  replace Y := Y.step B
  replace X := X.step B
  replace H := Lib.hid (bl_trans H.out B)
  clear B
  cases gb
  all_goals
    go_wp2
    go_ret
    exact ⟨rfl, H.out⟩

end Go.Proofs.Ytagbeneapmpooaa
