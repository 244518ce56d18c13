/-
  The walk of the exact law of the scalar product.
-/
import Derived.Test.YtmnojoddapdaoabLawVecE
namespace Go.Proofs.Ytmnojoddapdaoab
open Go.RowKit
open M

set_option maxHeartbeats 4000000 in
theorem walk_FnExactVecDot (x y u v : Int) (w : World) : Calls Try.prog 10 #[vec x y, vec u v] w fun e w' => e = .returned (.bool true) ∧ Below w.heap.size w w' := by
  go_enter Try.func10, Try.ntmps10
  have Va : VecAt ((w.alloc (.cells #[.int .i64 x, .int .i64 y] 36)).alloc (.cells #[.int .i64 u, .int .i64 v] 36)) w.heap.size x y := (VecAt.new _ _ x y _ rfl).alloc _
  have Vb : VecAt ((w.alloc (.cells #[.int .i64 x, .int .i64 y] 36)).alloc (.cells #[.int .i64 u, .int .i64 v] 36)) (w.heap.size + 1) u v := VecAt.new _ _ u v _ (by simp)
  have Hb := Lib.hid (bl_alloc (bl_alloc (bl_refl w) (.cells #[.int .i64 x, .int .i64 y] 36)) (.cells #[.int .i64 u, .int .i64 v] 36))
  go_wp2_with fail
  go_region_with (first | (go_at_call 24; refine (toVec_any _ _ _).mono ?_; rintro e w1 ⟨rfl, B1⟩; have Va : VecAt w1 (w.heap.size) x y := (by first | exact Va.keep B1 | exact Va.step B1); have Vb : VecAt w1 (w.heap.size + 1) u v := (by first | exact Vb.keep B1 | exact Vb.step B1); have Hb := Lib.hid (show Below w.heap.size w w1 from (by first | exact bl_keep Hb.out B1 | exact bl_trans Hb.out B1)); clear B1; have cVa := Va.c0; have dVa := Va.c1; have lVa := Va.lt; have cVb := Vb.c0; have dVb := Vb.c1; have lVb := Vb.lt) | (go_at_call 29; refine (specVDot _ _ _ _ _).mono ?_; rintro e w1 ⟨rfl, B1⟩; have Va : VecAt w1 (w.heap.size) x y := (by first | exact Va.keep B1 | exact Va.step B1); have Vb : VecAt w1 (w.heap.size + 1) u v := (by first | exact Vb.keep B1 | exact Vb.step B1); have Hb := Lib.hid (show Below w.heap.size w w1 from (by first | exact bl_keep Hb.out B1 | exact bl_trans Hb.out B1)); clear B1; have cVa := Va.c0; have dVa := Va.c1; have lVa := Va.lt; have cVb := Vb.c0; have dVb := Vb.c1; have lVb := Vb.lt))
  all_goals
    go_wp2_with fail
    go_region_with (first | (go_at_call 24; refine (toVec_any _ _ _).mono ?_; rintro e w1 ⟨rfl, B1⟩; have Va : VecAt w1 (w.heap.size) x y := (by first | exact Va.keep B1 | exact Va.step B1); have Vb : VecAt w1 (w.heap.size + 1) u v := (by first | exact Vb.keep B1 | exact Vb.step B1); have Hb := Lib.hid (show Below w.heap.size w w1 from (by first | exact bl_keep Hb.out B1 | exact bl_trans Hb.out B1)); clear B1; have cVa := Va.c0; have dVa := Va.c1; have lVa := Va.lt; have cVb := Vb.c0; have dVb := Vb.c1; have lVb := Vb.lt) | (go_at_call 23; refine (implVDot _ _ _ _ _).mono ?_; rintro e w1 ⟨rfl, B1⟩; have Va : VecAt w1 (w.heap.size) x y := (by first | exact Va.keep B1 | exact Va.step B1); have Vb : VecAt w1 (w.heap.size + 1) u v := (by first | exact Vb.keep B1 | exact Vb.step B1); have Hb := Lib.hid (show Below w.heap.size w w1 from (by first | exact bl_keep Hb.out B1 | exact bl_trans Hb.out B1)); clear B1; have cVa := Va.c0; have dVa := Va.c1; have lVa := Va.lt; have cVb := Vb.c0; have dVb := Vb.c1; have lVb := Vb.lt))
    all_goals
      go_wp2
      go_ret
      exact ⟨rfl, Hb.out⟩

end Go.Proofs.Ytmnojoddapdaoab
