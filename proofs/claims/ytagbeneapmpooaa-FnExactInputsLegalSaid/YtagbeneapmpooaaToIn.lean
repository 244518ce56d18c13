/-
  Copies of inputs that an exact law makes, and how it compares them.
-/
import Derived.Test.YtagbeneapmpooaaInRow
namespace Go.Proofs.Ytagbeneapmpooaa
open Go.RowKit
open M

theorem lawin_size : (Try.prog.info? 45).map (·.size) = some 3 := by kernel_rfl
theorem toInput_any (s p : Int) (z : Bool) (w : World) : Calls Try.prog 29 #[inp s p z] w fun e w' => e = .returned (inp s p z) ∧ Below w.heap.size w w' := by
  go_enter Try.func29, Try.ntmps29
  go_wp2
  exact bodyPost_ret (v := inp s p z) (by simp [results, Try.results29, go_sem]) rfl ⟨rfl, (by repeat (first | exact bl_refl _ | refine bl_alloc ?_ _ | refine bl_set ?_ _ _ _ (by omega)))⟩
theorem eqInput_same (s p : Int) (z : Bool) (w : World) : Calls Try.prog 30 #[inp s p z, inp s p z] w fun e w' => e = .returned (.bool true) ∧ Below w.heap.size w w' := by
  cases z
  all_goals
    go_enter Try.func30, Try.ntmps30
    go_wp2
    go_ret
    exact ⟨rfl, bl_alloc (bl_alloc (bl_refl w) _) _⟩

end Go.Proofs.Ytagbeneapmpooaa
