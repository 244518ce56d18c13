import Derived.Test.YtbeohbhhmcjokaaZFree2
import Derived.Test.YtbeohbhhmcjokaaZLevH
import Derived.Deep.Cut
set_option linter.all false
set_option maxRecDepth 100000
set_option maxHeartbeats 8000000
namespace Go.Proofs.Ytbeohbhhmcjokaa
open Go.RowKit
open M
abbrev H8(k ax ay fx fy u g:Int)(d o:Bool):Value:=.agg #[.int .i64 k,.int .i64 ax,.int .i64 ay,.int .i64 fx,.int .i64 fy,.int .i64 u,.int .i64 g,.bool d,.bool o]
open Go.RowKit
open M
open Go.RowKit
open M
open Go.RowKit
open M
def M.ownB(k ax ay fx fy u g:Int)(d o:Bool):Bool:=Al k 0 60&&(Am ax ay&&(Am fx fy&&(decide (vl fx fy<=2000)&&(Al u 0 15&&(Al g 0 3&&!(d&&o))))))
open Go.RowKit
open M
def M.evB(i t x y:Int)(ws gs:List Bx)(fp fq fs fz b:Int)(k ax ay fx fy u g:Int)(d o:Bool):Bool:=AW i t x y ws gs fp fq fs fz b&&(ownB k ax ay fx fy u g d o&&(decide (k<=t)&&(decide (g<=gs.length)&&(Ca ws ax ay&&(!d||decide (g=gs.length))))))
open Go.RowKit
open M
def M.eoB(i t x y:Int)(ws gs:List Bx)(fp fq fs fz b:Int)(k ax ay fx fy u g:Int)(d o:Bool)(s p:Int)(z:Bool):Bool:=evB i t x y ws gs fp fq fs fz b k ax ay fx fy u g d o&&(HQ s p z&&!(decide (t<=k)&&(!d&&!o)))
def M.esS(i t x y:Int)(ws gs:List Bx)(fp fq fs fz b:Int)(k ax ay fx fy u g:Int)(d o:Bool)(s p:Int)(z:Bool):St:=if eoB i t x y ws gs fp fq fs fz b k ax ay fx fy u g d o s p z then Ij ws gs fp fq fs fz ⟨k,ax,ay,fx,fy,u,g,d,o⟩ ⟨s,p,z⟩ else ⟨0,0,0,0,0,0,0,false,false⟩
open Go.RowKit
open M
end Go.Proofs.Ytbeohbhhmcjokaa
namespace Go.Proofs.Ytbeohbhhmcjokaa
namespace M
section
variable {i t x y:Int} {ws gs:List Bx} {fp fq fs fz b k ax ay fx fy u g:Int} {d o:Bool} {s p:Int} {z:Bool} {K X Y P Q U V:Int} {D O:Bool}
end
end M
end Go.Proofs.Ytbeohbhhmcjokaa
