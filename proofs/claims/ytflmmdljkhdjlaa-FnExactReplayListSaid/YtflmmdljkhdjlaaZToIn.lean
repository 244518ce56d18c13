import Derived.Test.YtflmmdljkhdjlaaZInRow
set_option linter.all false
set_option maxRecDepth 100000
set_option maxHeartbeats 8000000
namespace Go.Proofs.Ytflmmdljkhdjlaa
open Go.RowKit
open M
theorem LD(s p:Int)(z:Bool)(w:World):Calls Try.prog 73 #[BH s p z] w fun e w'=>e=.returned (BH s p z)/\Below w.heap.size w w':=by
 go_enter Try.func73,Try.ntmps73;go_wp2;exact bodyPost_ret (v:=BH s p z) (by simp[results,Try.results73,go_sem]) rfl ⟨rfl,(by repeat (first | exact Ac _ | refine Ab ?_ _ | refine Ar ?_ _ _ _ (by omega)))⟩
theorem LQ(s p:Int)(z:Bool)(w:World):Calls Try.prog 75 #[BH s p z,BH s p z] w fun e w'=>e=.returned (.bool true)/\Below w.heap.size w w':=by
 cases z
 all_goals
  go_enter Try.func75,Try.ntmps75;go_wp2;go_ret;exact⟨rfl,Ab (Ab (Ac w) _) _⟩
end Go.Proofs.Ytflmmdljkhdjlaa
