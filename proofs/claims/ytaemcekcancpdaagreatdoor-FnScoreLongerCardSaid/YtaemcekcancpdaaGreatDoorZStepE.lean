import Derived.Test.YtaemcekcancpdaaGreatDoorZEngG
set_option linter.all false
set_option maxRecDepth 100000
set_option maxHeartbeats 8000000
namespace Go.Proofs.YtaemcekcancpdaaGreatDoor
open Go.RowKit
open M
theorem Ms(i t x y:Int)(A:Option Addr)(n c:Nat)(G:Option Addr)(m kk:Nat)(fp fq fs fz b:Int)(ws gs:List Bx)(k ax ay fx fy u g:Int)(d o:Bool)(s p:Int)(z:Bool){K' X' Y' P' Q' U' V':Int}{D' O':Bool}{r:Bool}(hE:esS i t x y ws gs fp fq fs fz b k ax ay fx fy u g d o s p z=⟨K',X',Y',P',Q',U',V',D',O'⟩)(hr:eoB i t x y ws gs fp fq fs fz b k ax ay fx fy u g d o s p z=r)(hn:n<=281474976710656)(hm:m<=281474976710656)(w:World)(I:Boxes w A n ws)(J:Boxes w G m gs)(R:Quarter w) :
 Calls Tryz.prog 56 #[CX i t x y A n c G m kk fp fq fs fz b,Cd k ax ay fx fy u g d o,DZ s p z] w fun e w'=>e=.returned (.tuple #[Cd K' X' Y' P' Q' U' V' D' O',.bool r])/\Below w.heap.size w w':=by
 refine(NR i t x y A n c G m kk fp fq fs fz b ws gs k ax ay fx fy u g d o s p z w I J hn hm R).mono ?_;rintro e w' ⟨⟨_,_,_,_,_,_,_,_,_,e1,rfl⟩,B⟩;rw[hE] at e1;injection e1 with a1 a2 a3 a4 a5 a6 a7 a8 a9;subst a1 a2 a3 a4 a5 a6 a7 a8 a9 hr;exact⟨rfl,B⟩
end Go.Proofs.YtaemcekcancpdaaGreatDoor
