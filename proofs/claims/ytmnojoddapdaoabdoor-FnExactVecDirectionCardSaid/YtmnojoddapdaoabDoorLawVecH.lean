/-
  The walk of the exact law of the directions: at every argument the program answers as the model, where its table holds what its declaration lays.
-/
import Derived.Test.YtmnojoddapdaoabDoorLawVecE
import Derived.Test.YtmnojoddapdaoabDoorVecDirB
namespace Go.Proofs.YtmnojoddapdaoabDoor
open Go.RowKit
open M

set_option maxHeartbeats 1000000 in
theorem walk_FnExactVecDirection (d : Int) (w : World) (hQ : Quarter w) : Calls Tryd.prog 4 #[.int .i64 d] w fun e w' => e = .returned (.bool true) ∧ Below w.heap.size w w' := by
  go_enter Tryd.func4, Tryd.ntmps4
  go_wp2_with fail
  refine (specVDir _ _).mono ?_
  rintro e w1 ⟨rfl, B1⟩
  have H1 := Lib.hid (bl_trans (bl_refl w) B1)
  clear B1
  have Q1 := hQ.step H1.out
  go_wp2_with fail
  refine (implVDir _ _ (Q1.alloc _)).mono ?_
  rintro e w2 ⟨rfl, B2⟩
  have H2 := Lib.hid (bl_trans (bl_alloc (H1.out) _) B2)
  have V1 : VecAt w2 (w1.heap.size) (dirX d) (dirY d) := (VecAt.new _ _ (dirX d) (dirY d) _ (by first | rfl | simp)).step B2
  clear B2 H1
  have c1a := V1.c0
  have c1b := V1.c1
  have l1 := V1.lt
  go_wp2_with fail
  refine (eqVec_same _ _ _).mono ?_
  rintro e w3 ⟨rfl, B3⟩
  have H3 := Lib.hid (bl_trans (bl_alloc (H2.out) _) B3)
  have V2 : VecAt w3 (w1.heap.size) (dirX d) (dirY d) := (V1.alloc _).step B3
  have V3 : VecAt w3 (w2.heap.size) (dirX d) (dirY d) := (VecAt.new _ _ (dirX d) (dirY d) _ (by first | rfl | simp)).step B3
  clear B3 H2 V1 c1a c1b l1
  have c2a := V2.c0
  have c2b := V2.c1
  have l2 := V2.lt
  have c3a := V3.c0
  have c3b := V3.c1
  have l3 := V3.lt
  go_wp2
  go_ret
  exact ⟨rfl, (by repeat (first | exact H3.out | refine bl_alloc ?_ _ | refine bl_drew ?_ _))⟩

end Go.Proofs.YtmnojoddapdaoabDoor
