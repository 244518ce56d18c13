import Derived.Test.YtflmmdljkhdjlaaZEng
set_option linter.all false
set_option maxRecDepth 100000
set_option maxHeartbeats 8000000
namespace Go.Proofs.Ytflmmdljkhdjlaa
open Go.RowKit
open M
def M.ownB(k ax ay fx fy u g:Int)(d o:Bool):Bool:=Aw k 0 60&&(AG ax ay&&(AG fx fy&&(decide (vl fx fy<=2000)&&(Aw u 0 15&&(Aw g 0 3&&!(d&&o))))))
open Go.RowKit
open M
def M.evB(i t x y:Int)(ws gs:List Bx)(fp fq fs fz b:Int)(k ax ay fx fy u g:Int)(d o:Bool):Bool:=BX i t x y ws gs fp fq fs fz b&&(ownB k ax ay fx fy u g d o&&(decide (k<=t)&&(decide (g<=gs.length)&&(Dm ws ax ay&&(!d||decide (g=gs.length))))))
open Go.RowKit
open M
def M.eoB(i t x y:Int)(ws gs:List Bx)(fp fq fs fz b:Int)(k ax ay fx fy u g:Int)(d o:Bool)(s p:Int)(z:Bool):Bool:=evB i t x y ws gs fp fq fs fz b k ax ay fx fy u g d o&&(Bp s p z&&!(decide (t<=k)&&(!d&&!o)))
def M.esS(i t x y:Int)(ws gs:List Bx)(fp fq fs fz b:Int)(k ax ay fx fy u g:Int)(d o:Bool)(s p:Int)(z:Bool):St:=if eoB i t x y ws gs fp fq fs fz b k ax ay fx fy u g d o s p z then Dk ws gs fp fq fs fz ⟨k,ax,ay,fx,fy,u,g,d,o⟩ ⟨s,p,z⟩ else ⟨0,0,0,0,0,0,0,false,false⟩
open Go.RowKit
open M
def M.flg(d o:Bool):Int:=if d then (if o then 3 else 1) else if o then 2 else 0
def M.stL(k ax ay fx fy u g:Int)(d o:Bool):List Int:=[k,ax,ay,fx,fy,u,g,flg d o]
def M.ehI(k ax ay fx fy u g:Int)(d o:Bool):Int:=if ownB k ax ay fx fy u g d o then HE 17 (stL k ax ay fx fy u g d o) else -1
end Go.Proofs.Ytflmmdljkhdjlaa
namespace Go.Proofs.Ytflmmdljkhdjlaa
namespace M
section
variable {i t x y:Int} {ws gs:List Bx} {fp fq fs fz b k ax ay fx fy u g:Int} {d o:Bool} {s p:Int} {z:Bool} {K X Y P Q U V:Int} {D O:Bool}
end
end M
end Go.Proofs.Ytflmmdljkhdjlaa
