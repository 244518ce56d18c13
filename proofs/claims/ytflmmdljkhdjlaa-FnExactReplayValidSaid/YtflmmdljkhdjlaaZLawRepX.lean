import Derived.Test.YtflmmdljkhdjlaaZToPt
set_option linter.all false
set_option maxRecDepth 100000
set_option maxHeartbeats 8000000
namespace Go.Proofs.Ytflmmdljkhdjlaa
open Go.RowKit
open M
theorem C2(l p s:Int)(A:Option Addr)(n c:Nat)(H:Option Addr)(m d:Nat)(t:Int)(xs:List In)(hs:List Int)(ns:List Int)(L:Nat)(hr:rlist ⟨l,p,s,xs,hs,t⟩=ns)(hL:ns.length=L)(w:World)(Y:Inputs w A n xs)(Z:Ints w H m hs)(hn:n<=281474976710656)(hm:m<=281474976710656):Calls Try.prog 26 #[Dp l p s A n c H m d t] w fun e w'=>∃ A1 c1,e=.returned (.slice A1 L c1)/\Ints w' A1 L ns/\Mk w.heap.size w' A1 (L*1)/\Below w.heap.size w w':=by
 subst hr;subst hL;refine(Hx l p s A n c H m d t xs hs w Y Z hn hm).mono ?_;rintro e w' ⟨v,rfl,O,B⟩;obtain⟨A,c,rfl,I⟩:=Ints.of_own O;exact⟨A,c,rfl,I,Mk.of_own O (by decide),B⟩
end Go.Proofs.Ytflmmdljkhdjlaa
