import Derived.Test.YtgghhedkephohaaZRdS
set_option linter.all false
set_option maxRecDepth 100000
set_option maxHeartbeats 8000000
namespace Go.Proofs.Ytgghhedkephohaa
open Go.RowKit
open M
theorem Cw(n k:Int)(w:World):Calls Try.prog 56 #[.int .i64 n,.int .i64 k] w fun e w'=>e=.returned (.bool (Di n 0 k))/\w=w':=by
 by_cases h0:0<=n
 . have d0:decide ((0:Int)<=n)=true:=decide_eq_true h0;by_cases h1:n<=k
   . have d1:decide (n<=k)=true:=decide_eq_true h1;go_enter Try.func56,Try.ntmps56;go_wp2;go_ret;exact⟨Av (DT ⟨h0,h1⟩).symm,rfl⟩
   . have d1:decide (n<=k)=false:=decide_eq_false h1;go_enter Try.func56,Try.ntmps56;go_wp2;go_ret;exact⟨Av (CX (fun h=>by omega)).symm,rfl⟩
 . have d0:decide ((0:Int)<=n)=false:=decide_eq_false h0;go_enter Try.func56,Try.ntmps56;go_wp2;go_ret;exact⟨Av (CX (fun h=>by omega)).symm,rfl⟩
end Go.Proofs.Ytgghhedkephohaa
