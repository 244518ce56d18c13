import Derived.Test.YtgghhedkephohaaZEnSame
set_option linter.all false
set_option maxRecDepth 100000
set_option maxHeartbeats 8000000
namespace Go.Proofs.Ytgghhedkephohaa
open Go.RowKit
open M
def C3(w:World)(u:Value)(L:Nat)(ys:List En)(e:Ending)(w':World):Prop :=
 ∃(A:Option Addr) (c:Nat),e=.returned (.tuple #[.slice A L c,u])/\Ents w' A L ys/\(∀ g off,A=some ⟨g,off,none⟩->w.heap.size<=g)/\L<=c/\Below w.heap.size w w'
theorem Made.read{w:World}{u:Value}{ys:List En}{e:Ending}{w':World}{L:Nat}(hL:ys.length=L)(h:Made w u ys e w'):C3 w u L ys e w':=by
 subst hL;obtain⟨v,rfl,O,B⟩:=h;obtain⟨A,c,rfl,I,M⟩:=Ents.of_own O;exact⟨A,c,rfl,I,M,Be O,B⟩
theorem E2(A:Option Addr)(n cap:Nat)(xs:List En)(b:Bool)(hr:bdv xs=b)(w:World)(Y:Ents w A n xs)(hn:n<=281474976710656):Calls Try.prog 23 #[.slice A n cap] w fun e w'=>e=.returned (.bool b)/\Below w.heap.size w w':=hr▸AL A n cap xs w Y hn
theorem Dz(A:Option Addr)(n cap:Nat)(xs:List En)(b:Bool)(hr:bdv xs=b)(w:World)(Y:Ents w A n xs)(hn:n<=281474976710656):Calls Try.prog 31 #[.slice A n cap] w fun e w'=>e=.returned (.bool b)/\Below w.heap.size w w':=hr▸AN A n cap xs w Y hn
theorem AV(A:Option Addr)(n cap:Nat)(xs:List En)(pl r:Int)(hr:FW xs pl=r)(w:World)(Y:Ents w A n xs)(hn:n<=281474976710656):Calls Try.prog 24 #[.slice A n cap,.int .i64 pl] w fun e w'=>e=.returned (.int .i64 r)/\Below w.heap.size w w':=hr▸Db A n cap xs pl w Y hn
theorem An(A:Option Addr)(n cap:Nat)(xs:List En)(p s:Int)(ys:List En)(cd:Int)(L:Nat)(hq:Am xs ⟨p,s⟩=(ys,cd))(hL:ys.length=L)(w:World)(Y:Ents w A n xs)(hn:n<=1048576):Calls Try.prog 20 #[.slice A n cap,.agg #[.int .i64 p,.int .i64 s]] w (C3 w (.int .i64 cd) L ys):=by
 have t:=EB A n cap xs p s w Y hn;rw[hq] at t;exact t.mono fun _ _ h=>Made.read hL h
theorem AB(A:Option Addr)(n cap:Nat)(xs:List En)(p s:Int)(ys:List En)(cd:Int)(L:Nat)(hq:Am xs ⟨p,s⟩=(ys,cd))(hL:ys.length=L)(w:World)(Y:Ents w A n xs)(hn:n<=1048576):Calls Try.prog 21 #[.slice A n cap,.agg #[.int .i64 p,.int .i64 s]] w (C3 w (.int .i64 cd) L ys):=by
 have t:=C8 A n cap xs p s w Y hn;rw[hq] at t;exact t.mono fun _ _ h=>Made.read hL h
end Go.Proofs.Ytgghhedkephohaa
