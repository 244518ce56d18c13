/-
  The walks of the exact laws of chapter 13 on states alone: at every argument the program answers as the model.
-/
import Derived.Test.YtnoenjociioffabToSt
import Derived.Test.YtnoenjociioffabEngH
import Derived.Test.YtnoenjociioffabEngS
import Derived.Test.YtnoenjociioffabEngHash
import Derived.Test.YtnoenjociioffabEngOwn
namespace Go.Proofs.Ytnoenjociioffab
open Go.RowKit
open M

set_option maxRecDepth 100000 in
set_option maxHeartbeats 2000000 in
theorem walk_FnExactEngineSpeed (k ax ay fx fy u g : Int) (d o : Bool) (w : World) : Calls Try.prog 10 #[sta k ax ay fx fy u g d o] w fun e w' => e = .returned (.bool true) ∧ Below w.heap.size w w' := by
  have S := fun W => specESpeed k ax ay fx fy u g d o W
  have V := fun W => implESpeed k ax ay fx fy u g d o W
  generalize (if ownB k ax ay fx fy u g d o then vl fx fy else 0) = vv at *
  generalize ownB k ax ay fx fy u g d o = rr at *
  have V := Lib.hid V
  have S := Lib.hid S
  go_enter Try.func10, Try.ntmps10
  go_wp2_with fail
  refine (toState_any k ax ay fx fy u g d o _).mono ?_
  rintro e w1 ⟨rfl, B⟩
  have P : CellsAt w1 w.heap.size (stv k ax ay fx fy u g d o) := (CellsAt.new w _ _ _ rfl).step B
  have H := Lib.hid (bl_trans (bl_alloc (bl_refl w) _) B)
  clear B
  have Pc0 := P.cell 0 _ rfl
  have Pc1 := P.cell 1 _ rfl
  have Pc2 := P.cell 2 _ rfl
  have Pc3 := P.cell 3 _ rfl
  have Pc4 := P.cell 4 _ rfl
  have Pc5 := P.cell 5 _ rfl
  have Pc6 := P.cell 6 _ rfl
  have Pc7 := P.cell 7 _ rfl
  have Pc8 := P.cell 8 _ rfl
  have Pl := P.lt
  go_wp2_with fail
  refine (S.out _).mono ?_
  rintro e w2 ⟨rfl, B⟩
  clear Pc0 Pc1 Pc2 Pc3 Pc4 Pc5 Pc6 Pc7 Pc8 Pl
  replace P := P.step B
  replace H := Lib.hid (bl_trans H.out B)
  clear B
  have Pc0 := P.cell 0 _ rfl
  have Pc1 := P.cell 1 _ rfl
  have Pc2 := P.cell 2 _ rfl
  have Pc3 := P.cell 3 _ rfl
  have Pc4 := P.cell 4 _ rfl
  have Pc5 := P.cell 5 _ rfl
  have Pc6 := P.cell 6 _ rfl
  have Pc7 := P.cell 7 _ rfl
  have Pc8 := P.cell 8 _ rfl
  have Pl := P.lt
  go_wp2_with fail
  refine (toState_any k ax ay fx fy u g d o _).mono ?_
  rintro e w3 ⟨rfl, B⟩
  clear Pc0 Pc1 Pc2 Pc3 Pc4 Pc5 Pc6 Pc7 Pc8 Pl
  replace P := P.step B
  replace H := Lib.hid (bl_trans H.out B)
  clear B
  have Pc0 := P.cell 0 _ rfl
  have Pc1 := P.cell 1 _ rfl
  have Pc2 := P.cell 2 _ rfl
  have Pc3 := P.cell 3 _ rfl
  have Pc4 := P.cell 4 _ rfl
  have Pc5 := P.cell 5 _ rfl
  have Pc6 := P.cell 6 _ rfl
  have Pc7 := P.cell 7 _ rfl
  have Pc8 := P.cell 8 _ rfl
  have Pl := P.lt
  go_wp2_with fail
  refine (V.out _).mono ?_
  rintro e w4 ⟨rfl, B⟩
  clear Pc0 Pc1 Pc2 Pc3 Pc4 Pc5 Pc6 Pc7 Pc8 Pl
  replace P := P.step B
  replace H := Lib.hid (bl_trans H.out B)
  clear B
  have Pc0 := P.cell 0 _ rfl
  have Pc1 := P.cell 1 _ rfl
  have Pc2 := P.cell 2 _ rfl
  have Pc3 := P.cell 3 _ rfl
  have Pc4 := P.cell 4 _ rfl
  have Pc5 := P.cell 5 _ rfl
  have Pc6 := P.cell 6 _ rfl
  have Pc7 := P.cell 7 _ rfl
  have Pc8 := P.cell 8 _ rfl
  have Pl := P.lt
  cases rr
  all_goals
    go_wp2
    go_ret
    exact ⟨rfl, H.out⟩

set_option maxRecDepth 100000 in
set_option maxHeartbeats 2000000 in
theorem walk_FnExactEngineHash (k ax ay fx fy u g : Int) (d o : Bool) (w : World) : Calls Try.prog 9 #[sta k ax ay fx fy u g d o] w fun e w' => e = .returned (.bool true) ∧ Below w.heap.size w w' := by
  have S := fun W => specEHash k ax ay fx fy u g d o W
  have V := fun W => implEHash k ax ay fx fy u g d o W
  generalize ehI k ax ay fx fy u g d o = rr at *
  have V := Lib.hid V
  have S := Lib.hid S
  go_enter Try.func9, Try.ntmps9
  go_wp2_with fail
  refine (toState_any k ax ay fx fy u g d o _).mono ?_
  rintro e w1 ⟨rfl, B⟩
  have P : CellsAt w1 w.heap.size (stv k ax ay fx fy u g d o) := (CellsAt.new w _ _ _ rfl).step B
  have H := Lib.hid (bl_trans (bl_alloc (bl_refl w) _) B)
  clear B
  have Pc0 := P.cell 0 _ rfl
  have Pc1 := P.cell 1 _ rfl
  have Pc2 := P.cell 2 _ rfl
  have Pc3 := P.cell 3 _ rfl
  have Pc4 := P.cell 4 _ rfl
  have Pc5 := P.cell 5 _ rfl
  have Pc6 := P.cell 6 _ rfl
  have Pc7 := P.cell 7 _ rfl
  have Pc8 := P.cell 8 _ rfl
  have Pl := P.lt
  go_wp2_with fail
  refine (S.out _).mono ?_
  rintro e w2 ⟨rfl, B⟩
  clear Pc0 Pc1 Pc2 Pc3 Pc4 Pc5 Pc6 Pc7 Pc8 Pl
  replace P := P.step B
  replace H := Lib.hid (bl_trans H.out B)
  clear B
  have Pc0 := P.cell 0 _ rfl
  have Pc1 := P.cell 1 _ rfl
  have Pc2 := P.cell 2 _ rfl
  have Pc3 := P.cell 3 _ rfl
  have Pc4 := P.cell 4 _ rfl
  have Pc5 := P.cell 5 _ rfl
  have Pc6 := P.cell 6 _ rfl
  have Pc7 := P.cell 7 _ rfl
  have Pc8 := P.cell 8 _ rfl
  have Pl := P.lt
  go_wp2_with fail
  refine (toState_any k ax ay fx fy u g d o _).mono ?_
  rintro e w3 ⟨rfl, B⟩
  clear Pc0 Pc1 Pc2 Pc3 Pc4 Pc5 Pc6 Pc7 Pc8 Pl
  replace P := P.step B
  replace H := Lib.hid (bl_trans H.out B)
  clear B
  have Pc0 := P.cell 0 _ rfl
  have Pc1 := P.cell 1 _ rfl
  have Pc2 := P.cell 2 _ rfl
  have Pc3 := P.cell 3 _ rfl
  have Pc4 := P.cell 4 _ rfl
  have Pc5 := P.cell 5 _ rfl
  have Pc6 := P.cell 6 _ rfl
  have Pc7 := P.cell 7 _ rfl
  have Pc8 := P.cell 8 _ rfl
  have Pl := P.lt
  go_wp2_with fail
  refine (V.out _).mono ?_
  rintro e w4 ⟨rfl, B⟩
  clear Pc0 Pc1 Pc2 Pc3 Pc4 Pc5 Pc6 Pc7 Pc8 Pl
  replace P := P.step B
  replace H := Lib.hid (bl_trans H.out B)
  clear B
  have Pc0 := P.cell 0 _ rfl
  have Pc1 := P.cell 1 _ rfl
  have Pc2 := P.cell 2 _ rfl
  have Pc3 := P.cell 3 _ rfl
  have Pc4 := P.cell 4 _ rfl
  have Pc5 := P.cell 5 _ rfl
  have Pc6 := P.cell 6 _ rfl
  have Pc7 := P.cell 7 _ rfl
  have Pc8 := P.cell 8 _ rfl
  have Pl := P.lt
  go_wp2
  go_ret
  exact ⟨rfl, H.out⟩

end Go.Proofs.Ytnoenjociioffab
