/-
  Copies of states that an exact law makes, and how it compares them.
-/
import Derived.Test.YtnoenjociioffaaDoorEng
import Derived.Test.YtnoenjociioffaaDoorCelS
import Derived.Deep.DeepCutAuto
namespace Go.Proofs.YtnoenjociioffaaDoor
open Go.RowKit
open M

theorem lawst_size : (Tryd.prog.info? 57).map (·.size) = some 9 := by kernel_rfl
theorem copyVec (x y : Int) (w : World) : Calls Tryd.prog 66 #[vec x y] w fun e w' => e = .returned (vec x y) ∧ Below w.heap.size w w' := by
  go_enter Tryd.func66, Tryd.ntmps66
  go_wp2
  exact bodyPost_ret (v := vec x y) (by simp [results, Tryd.results66, go_sem]) rfl ⟨rfl, (by repeat (first | exact bl_refl _ | assumption | refine bl_alloc ?_ _ | refine bl_drew ?_ _ | refine bl_set ?_ _ _ _ (by omega)))⟩
theorem sameVec (x y : Int) (w : World) : Calls Tryd.prog 69 #[vec x y, vec x y] w fun e w' => e = .returned (.bool true) ∧ Below w.heap.size w w' := by
  go_enter Tryd.func69, Tryd.ntmps69
  go_wp2
  go_ret
  exact ⟨rfl, (by repeat (first | exact bl_refl _ | assumption | refine bl_alloc ?_ _ | refine bl_drew ?_ _ | refine bl_set ?_ _ _ _ (by omega)))⟩

set_option maxRecDepth 100000 in
set_option maxHeartbeats 2000000 in
theorem toState_any (k ax ay fx fy u g : Int) (d o : Bool) (w : World) : Calls Tryd.prog 35 #[sta k ax ay fx fy u g d o] w fun e w' => e = .returned (sta k ax ay fx fy u g d o) ∧ Below w.heap.size w w' := by
  go_enter Tryd.func35, Tryd.ntmps35
  go_wp2_with fail
  refine (copyVec ax ay _).mono ?_
  rintro e w1 ⟨rfl, B⟩
  have P : CellsAt w1 w.heap.size (stv k ax ay fx fy u g d o) := (((CellsAt.new w _ _ _ rfl).alloc _).alloc _).step B
  have D : CellsAt w1 (w.heap.size + 1) (stv 0 0 0 0 0 0 0 false false) := ((CellsAt.new _ _ _ _ (by simp)).alloc _).step B
  have O : CellsAt w1 (w.heap.size + 1 + 1) (stv k 0 0 0 0 0 0 false false) := (CellsAt.new _ _ _ _ (by simp)).step B
  have H := Lib.hid (bl_trans (bl_alloc (bl_alloc (bl_alloc (bl_refl w) _) _) _) B)
  clear B
  have Pc0 := P.cell 0 _ rfl
  have Pf0 := P.fr 0
  have Pc1 := P.cell 1 _ rfl
  have Pf1 := P.fr 1
  have Pc2 := P.cell 2 _ rfl
  have Pf2 := P.fr 2
  have Pc3 := P.cell 3 _ rfl
  have Pf3 := P.fr 3
  have Pc4 := P.cell 4 _ rfl
  have Pf4 := P.fr 4
  have Pc5 := P.cell 5 _ rfl
  have Pf5 := P.fr 5
  have Pc6 := P.cell 6 _ rfl
  have Pf6 := P.fr 6
  have Pc7 := P.cell 7 _ rfl
  have Pf7 := P.fr 7
  have Pc8 := P.cell 8 _ rfl
  have Pf8 := P.fr 8
  have Pl := P.lt
  have Oc0 := O.cell 0 _ rfl
  have Of0 := O.fr 0
  have Oc1 := O.cell 1 _ rfl
  have Of1 := O.fr 1
  have Oc2 := O.cell 2 _ rfl
  have Of2 := O.fr 2
  have Oc3 := O.cell 3 _ rfl
  have Of3 := O.fr 3
  have Oc4 := O.cell 4 _ rfl
  have Of4 := O.fr 4
  have Oc5 := O.cell 5 _ rfl
  have Of5 := O.fr 5
  have Oc6 := O.cell 6 _ rfl
  have Of6 := O.fr 6
  have Oc7 := O.cell 7 _ rfl
  have Of7 := O.fr 7
  have Oc8 := O.cell 8 _ rfl
  have Of8 := O.fr 8
  have Ol := O.lt
  go_wp2_with fail
  refine (copyVec fx fy _).mono ?_
  rintro e w2 ⟨rfl, B⟩
  clear Pc0 Pf0 Pc1 Pf1 Pc2 Pf2 Pc3 Pf3 Pc4 Pf4 Pc5 Pf5 Pc6 Pf6 Pc7 Pf7 Pc8 Pf8 Pl Oc0 Of0 Oc1 Of1 Oc2 Of2 Oc3 Of3 Oc4 Of4 Oc5 Of5 Oc6 Of6 Oc7 Of7 Oc8 Of8 Ol
  have P2 := ((P.far (by omega) _ _).far (by omega) _ _).step B
  have D2 := ((D.far (by omega) _ _).far (by omega) _ _).step B
  have O2 := ((O.set 1 (by simp) _).set 2 (by simp) _).step B
  have H2 := Lib.hid (bl_trans (bl_set (bl_set H.out _ _ _ (by omega)) _ _ _ (by omega)) B)
  clear B P D O H
  have P2c0 := P2.cell 0 _ rfl
  have P2f0 := P2.fr 0
  have P2c1 := P2.cell 1 _ rfl
  have P2f1 := P2.fr 1
  have P2c2 := P2.cell 2 _ rfl
  have P2f2 := P2.fr 2
  have P2c3 := P2.cell 3 _ rfl
  have P2f3 := P2.fr 3
  have P2c4 := P2.cell 4 _ rfl
  have P2f4 := P2.fr 4
  have P2c5 := P2.cell 5 _ rfl
  have P2f5 := P2.fr 5
  have P2c6 := P2.cell 6 _ rfl
  have P2f6 := P2.fr 6
  have P2c7 := P2.cell 7 _ rfl
  have P2f7 := P2.fr 7
  have P2c8 := P2.cell 8 _ rfl
  have P2f8 := P2.fr 8
  have P2l := P2.lt
  have O2c0 := O2.cell 0 _ rfl
  have O2f0 := O2.fr 0
  have O2c1 := O2.cell 1 _ rfl
  have O2f1 := O2.fr 1
  have O2c2 := O2.cell 2 _ rfl
  have O2f2 := O2.fr 2
  have O2c3 := O2.cell 3 _ rfl
  have O2f3 := O2.fr 3
  have O2c4 := O2.cell 4 _ rfl
  have O2f4 := O2.fr 4
  have O2c5 := O2.cell 5 _ rfl
  have O2f5 := O2.fr 5
  have O2c6 := O2.cell 6 _ rfl
  have O2f6 := O2.fr 6
  have O2c7 := O2.cell 7 _ rfl
  have O2f7 := O2.fr 7
  have O2c8 := O2.cell 8 _ rfl
  have O2f8 := O2.fr 8
  have O2l := O2.lt
  go_upto_region 9 with fail
  have O3 := (((((O2.set 3 (by simp) (.int .i64 fx)).set 4 (by simp) (.int .i64 fy)).set 5 (by simp) (.int .i64 u)).set 6 (by simp) (.int .i64 g)).set 7 (by simp) (.bool d)).set 8 (by simp) (.bool o)
  have D3 := ((((((D2.far (b' := w.heap.size + 1 + 1) (by omega) 3 (.int .i64 fx)).far (b' := w.heap.size + 1 + 1) (by omega) 4 (.int .i64 fy)).far (b' := w.heap.size + 1 + 1) (by omega) 5 (.int .i64 u)).far (b' := w.heap.size + 1 + 1) (by omega) 6 (.int .i64 g)).far (b' := w.heap.size + 1 + 1) (by omega) 7 (.bool d)).far (b' := w.heap.size + 1 + 1) (by omega) 8 (.bool o))
  have H3 := Lib.hid (bl_set (bl_set (bl_set (bl_set (bl_set (bl_set H2.out (w.heap.size + 1 + 1) 3 (.int .i64 fx) (by omega)) (w.heap.size + 1 + 1) 4 (.int .i64 fy) (by omega)) (w.heap.size + 1 + 1) 5 (.int .i64 u) (by omega)) (w.heap.size + 1 + 1) 6 (.int .i64 g) (by omega)) (w.heap.size + 1 + 1) 7 (.bool d) (by omega)) (w.heap.size + 1 + 1) 8 (.bool o) (by omega))
  clear P2c0 P2f0 P2c1 P2f1 P2c2 P2f2 P2c3 P2f3 P2c4 P2f4 P2c5 P2f5 P2c6 P2f6 P2c7 P2f7 P2c8 P2f8 P2l O2c0 O2f0 O2c1 O2f1 O2c2 O2f2 O2c3 O2f3 O2c4 O2f4 O2c5 O2f5 O2c6 O2f6 O2c7 O2f7 O2c8 O2f8 O2l P2 O2 D2 H2
  refine wp_region_lit ?_
  refine load_cells rfl 31 (.tmp 3) rfl (w.heap.size + 1 + 1) rfl (stv k ax ay fx fy u g d o) O3 Tryd.underlying31 rfl state_size ?_
  refine store_new rfl 31 (.tmp 2) (.tmp 27) rfl (w.heap.size + 1) rfl (stv k ax ay fx fy u g d o) rfl _ D3 (by simp) state_size rfl ?_
  intro w3 K N
  go_wp2
  exact bodyPost_ret (v := sta k ax ay fx fy u g d o) (res_cells rfl (w.heap.size + 1) rfl (stv k ax ay fx fy u g d o) N Tryd.underlying31 rfl state_size) rfl ⟨rfl, kp_below H3.out K (by omega)⟩

set_option maxRecDepth 100000 in
set_option maxHeartbeats 2000000 in
theorem eqState_same (k ax ay fx fy u g : Int) (d o : Bool) (w : World) : Calls Tryd.prog 37 #[sta k ax ay fx fy u g d o, sta k ax ay fx fy u g d o] w fun e w' => e = .returned (.bool true) ∧ Below w.heap.size w w' := by
  go_enter Tryd.func37, Tryd.ntmps37
  go_wp2_with fail
  refine (sameVec ax ay _).mono ?_
  rintro e w1 ⟨rfl, B⟩
  have P : CellsAt w1 w.heap.size (stv k ax ay fx fy u g d o) := ((CellsAt.new w _ _ _ rfl).alloc _).step B
  have O : CellsAt w1 (w.heap.size + 1) (stv k ax ay fx fy u g d o) := (CellsAt.new _ _ _ _ (by simp)).step B
  have H := Lib.hid (bl_trans (bl_alloc (bl_alloc (bl_refl w) _) _) B)
  clear B
  have Pc0 := P.cell 0 _ rfl
  have Pc1 := P.cell 1 _ rfl
  have Pc2 := P.cell 2 _ rfl
  have Pc3 := P.cell 3 _ rfl
  have Pc4 := P.cell 4 _ rfl
  have Pc5 := P.cell 5 _ rfl
  have Pc6 := P.cell 6 _ rfl
  have Pc7 := P.cell 7 _ rfl
  have Pc8 := P.cell 8 _ rfl
  have Pl := P.lt
  have Oc0 := O.cell 0 _ rfl
  have Oc1 := O.cell 1 _ rfl
  have Oc2 := O.cell 2 _ rfl
  have Oc3 := O.cell 3 _ rfl
  have Oc4 := O.cell 4 _ rfl
  have Oc5 := O.cell 5 _ rfl
  have Oc6 := O.cell 6 _ rfl
  have Oc7 := O.cell 7 _ rfl
  have Oc8 := O.cell 8 _ rfl
  have Ol := O.lt
  go_wp2_with fail
  refine (sameVec fx fy _).mono ?_
  rintro e w2 ⟨rfl, B⟩
  clear Pc0 Pc1 Pc2 Pc3 Pc4 Pc5 Pc6 Pc7 Pc8 Pl Oc0 Oc1 Oc2 Oc3 Oc4 Oc5 Oc6 Oc7 Oc8 Ol
  have P2 := P.step B
  have O2 := O.step B
  have H2 := Lib.hid (bl_trans H.out B)
  clear B P O H
  have P2c0 := P2.cell 0 _ rfl
  have P2c1 := P2.cell 1 _ rfl
  have P2c2 := P2.cell 2 _ rfl
  have P2c3 := P2.cell 3 _ rfl
  have P2c4 := P2.cell 4 _ rfl
  have P2c5 := P2.cell 5 _ rfl
  have P2c6 := P2.cell 6 _ rfl
  have P2c7 := P2.cell 7 _ rfl
  have P2c8 := P2.cell 8 _ rfl
  have P2l := P2.lt
  have O2c0 := O2.cell 0 _ rfl
  have O2c1 := O2.cell 1 _ rfl
  have O2c2 := O2.cell 2 _ rfl
  have O2c3 := O2.cell 3 _ rfl
  have O2c4 := O2.cell 4 _ rfl
  have O2c5 := O2.cell 5 _ rfl
  have O2c6 := O2.cell 6 _ rfl
  have O2c7 := O2.cell 7 _ rfl
  have O2c8 := O2.cell 8 _ rfl
  have O2l := O2.lt
  cases d <;> cases o
  all_goals
    go_wp2
    go_ret
    exact ⟨rfl, H2.out⟩

end Go.Proofs.YtnoenjociioffaaDoor
