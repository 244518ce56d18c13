import Derived.Test.YtflmmdljkhdjlaaZMul
import Derived.Laws.IdiomCopy
import Derived.Laws.MakeOwn
import Derived.Test.YtflmmdljkhdjlaaZRepV
import Derived.Test.YtflmmdljkhdjlaaZInEq
import Derived.Test.YtflmmdljkhdjlaaZLvT
set_option linter.all false
set_option maxRecDepth 100000
set_option maxHeartbeats 8000000
namespace Go.Proofs.Ytflmmdljkhdjlaa
open Go.RowKit
open M
open Go.RowKit
open M
open Go.RowKit
open M
theorem Es(l p s:Int)(A:Option Addr)(n c:Nat)(H:Option Addr)(m d:Nat)(t:Int)(xs:List In)(hs:List Int)(ns:List Int)(L:Nat)(hr:rlist ⟨l,p,s,xs,hs,t⟩=ns)(hL:ns.length=L)(w:World)(Y:Inputs w A n xs)(Z:Ints w H m hs)(hn:n<=281474976710656)(hm:m<=281474976710656):Calls Try.prog 27 #[Dp l p s A n c H m d t] w (fun e w'=>∃ A1 c1,e=.returned (.slice A1 L c1)/\Ints w' A1 L ns/\(∀ g off,A1=some ⟨g,off,none⟩->w.heap.size<=g)/\L<=c1/\Below w.heap.size w w'):=by
 subst hr;subst hL;refine(Hs l p s A n c H m d t xs hs w Y Z hn hm).mono ?_;rintro e w' ⟨v,rfl,O,B⟩;obtain⟨A,c,rfl,I⟩:=Ints.of_own O;refine⟨A,c,rfl,I,fun g off e=>?_,Bc O,B⟩;subst e;exact(O.lt g rfl).1
end Go.Proofs.Ytflmmdljkhdjlaa
