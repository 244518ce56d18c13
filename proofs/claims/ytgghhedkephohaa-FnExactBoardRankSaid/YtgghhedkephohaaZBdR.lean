import Derived.Test.YtgghhedkephohaaZEnSame
set_option linter.all false
set_option maxRecDepth 100000
set_option maxHeartbeats 8000000
namespace Go.Proofs.Ytgghhedkephohaa
open Go.RowKit
open M
theorem AD(A:Option Addr)(n cap:Nat)(xs:List En)(pl r:Int)(hr:brank xs pl=r)(w:World)(Y:Ents w A n xs)(hn:n<=281474976710656):Calls Try.prog 26 #[.slice A n cap,.int .i64 pl] w fun e w'=>e=.returned (.int .i64 r)/\Below w.heap.size w w':=hr▸EE A n cap xs pl w Y hn
theorem AJ(A:Option Addr)(n cap:Nat)(xs:List En)(pl r:Int)(hr:brank xs pl=r)(w:World)(Y:Ents w A n xs)(hn:n<=281474976710656):Calls Try.prog 27 #[.slice A n cap,.int .i64 pl] w fun e w'=>e=.returned (.int .i64 r)/\Below w.heap.size w w':=hr▸ED A n cap xs pl w Y hn
theorem C4(A:Option Addr)(n cap:Nat)(xs:List En)(r:Int)(hr:Au xs=r)(w:World)(Y:Ents w A n xs)(hn:n<=281474976710656):Calls Try.prog 33 #[.slice A n cap] w fun e w'=>e=.returned (.int .i64 r)/\Below w.heap.size w w':=hr▸E7 A n cap xs w Y hn
theorem C5(A:Option Addr)(n cap:Nat)(xs:List En)(r:Int)(hr:Au xs=r)(w:World)(Y:Ents w A n xs)(hn:n<=281474976710656):Calls Try.prog 34 #[.slice A n cap] w fun e w'=>e=.returned (.int .i64 r)/\Below w.heap.size w w':=hr▸E5 A n cap xs w Y hn
theorem E2(A:Option Addr)(n cap:Nat)(xs:List En)(b:Bool)(hr:CL xs=b)(w:World)(Y:Ents w A n xs)(hn:n<=281474976710656):Calls Try.prog 23 #[.slice A n cap] w fun e w'=>e=.returned (.bool b)/\Below w.heap.size w w':=hr▸AL A n cap xs w Y hn
theorem Dz(A:Option Addr)(n cap:Nat)(xs:List En)(b:Bool)(hr:CL xs=b)(w:World)(Y:Ents w A n xs)(hn:n<=281474976710656):Calls Try.prog 31 #[.slice A n cap] w fun e w'=>e=.returned (.bool b)/\Below w.heap.size w w':=hr▸AN A n cap xs w Y hn
end Go.Proofs.Ytgghhedkephohaa
