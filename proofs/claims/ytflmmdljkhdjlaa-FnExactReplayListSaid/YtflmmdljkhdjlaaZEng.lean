import Derived.Test.YtflmmdljkhdjlaaZFree2
import Derived.Test.YtflmmdljkhdjlaaZEngMath
import Derived.Deep.Cut
import Derived.Test.YtflmmdljkhdjlaaZInRow
set_option linter.all false
set_option maxRecDepth 100000
set_option maxHeartbeats 8000000
namespace Go.Proofs.Ytflmmdljkhdjlaa
open Go.RowKit
open M
abbrev Da(k ax ay fx fy u g:Int)(d o:Bool):Value:=.agg #[.int .i64 k,.int .i64 ax,.int .i64 ay,.int .i64 fx,.int .i64 fy,.int .i64 u,.int .i64 g,.bool d,.bool o]
theorem Av{P:Program}{code:Code}{Q:Exit->Act->World->Prop}{a:Act}{W:World}(S:World->Prop)(hS:S W)(h:∀ W',S W'->code.wp P Q a W'):code.wp P Q a W:=h W hS
open Go.RowKit
open M
open Go.RowKit
open M
end Go.Proofs.Ytflmmdljkhdjlaa
