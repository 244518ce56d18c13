/-
  Copies of inputs that an exact law makes, and how it compares them.
-/
import Derived.Test.YtnoenjociioffaaDoorInRow
namespace Go.Proofs.YtnoenjociioffaaDoor
open Go.RowKit
open M

theorem lawin_size : (Tryd.prog.info? 58).map (·.size) = some 3 := by kernel_rfl
theorem toInput_any (s p : Int) (z : Bool) (w : World) : Calls Tryd.prog 36 #[inp s p z] w fun e w' => e = .returned (inp s p z) ∧ Below w.heap.size w w' := by
  go_enter Tryd.func36, Tryd.ntmps36
  go_wp2
  exact bodyPost_ret (v := inp s p z) (by simp [results, Tryd.results36, go_sem]) rfl ⟨rfl, (by repeat (first | exact bl_refl _ | refine bl_alloc ?_ _ | refine bl_set ?_ _ _ _ (by omega)))⟩

end Go.Proofs.YtnoenjociioffaaDoor
