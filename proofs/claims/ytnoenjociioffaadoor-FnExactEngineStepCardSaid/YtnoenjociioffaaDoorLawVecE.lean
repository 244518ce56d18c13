/-
  The walks of the exact laws of chapter 2: at every argument the program answers as the model.
-/
import Derived.Test.YtnoenjociioffaaDoorVecAt
import Derived.Deep.DeepCutAuto
namespace Go.Proofs.YtnoenjociioffaaDoor
open Go.RowKit
open M

theorem VecAt.drew {W : World} {b : Nat} {x y : Int} (h : VecAt W b x y) : VecAt W.drew b x y := ⟨h.c0, h.c1, h.lt⟩
theorem VecAt.keep {W w' : World} {b : Nat} {x y : Int} (h : VecAt W b x y) (B : Below W.drew.heap.size W.drew w') : VecAt w' b x y := h.drew.step B
theorem bl_keep {w W w' : World} (h : Below w.heap.size w W) (B : Below W.drew.heap.size W.drew w') : Below w.heap.size w w' := bl_trans h.drew B
theorem toVec_any (x y : Int) (w : World) : Calls Tryd.prog 66 #[vec x y] w fun e w' => e = .returned (vec x y) ∧ Below w.heap.size w w' := by
  go_enter Tryd.func66, Tryd.ntmps66
  go_wp2
  exact bodyPost_ret (v := vec x y) (by simp [results, Tryd.results66, go_sem]) rfl ⟨rfl, (by repeat (first | exact bl_refl _ | assumption | refine bl_alloc ?_ _ | refine bl_drew ?_ _ | refine bl_set ?_ _ _ _ (by omega)))⟩
theorem eqVec_same (x y : Int) (w : World) : Calls Tryd.prog 69 #[vec x y, vec x y] w fun e w' => e = .returned (.bool true) ∧ Below w.heap.size w w' := by
  go_enter Tryd.func69, Tryd.ntmps69
  go_wp2
  go_ret
  exact ⟨rfl, (by repeat (first | exact bl_refl _ | assumption | refine bl_alloc ?_ _ | refine bl_drew ?_ _ | refine bl_set ?_ _ _ _ (by omega)))⟩

end Go.Proofs.YtnoenjociioffaaDoor
