import Derived.Shelf.Bits.Mul64
import Derived.Test.YtgbiagonfbnooaaGreatDoorProg
set_option linter.all false
set_option maxRecDepth 100000
set_option maxHeartbeats 8000000
namespace Go.Proofs.YtgbiagonfbnooaaGreatDoor
open Go.Shelf
def MX:Go.Shelf.Ren:=⟨fun | 212=>76 | 263=>101 | 264=>102 | n=>n,fun | 46=>121 | 51=>147 | 146=>148 | 53=>150 | 148=>151 | n=>n,fun | n=>n⟩
theorem LG:Go.Proofs.Lays.n212 Tryz.prog MX:={
 mixed:=by kernel_rfl
 f212:=Tryz.func76.trans (congrArg some (by kernel_rfl))
 f263:=Tryz.func101.trans (congrArg some (by kernel_rfl))
 f264:=Tryz.func102.trans (congrArg some (by kernel_rfl))
 t46:=Tryz.underlying121
 a46:=Tryz.isAgg121
 z46:=Tryz.sizeOf121
 v46:=Tryz.zeroValue121
 t51:=Tryz.underlying147
 a51:=Tryz.isAgg147
 z51:=Tryz.sizeOf147
 v51:=Tryz.zeroValue147
 t146:=Tryz.underlying148
 a146:=Tryz.isAgg148
 z146:=Tryz.sizeOf148
 v146:=Tryz.zeroValue148
 t53:=Tryz.underlying150
 a53:=Tryz.isAgg150
 z53:=Tryz.sizeOf150
 v53:=Tryz.zeroValue150
 t148:=Tryz.underlying151
 a148:=Tryz.isAgg151
 z148:=Tryz.sizeOf151
 v148:=Tryz.zeroValue151 }
open Go.RowKit Go.Lib in
theorem Gk(x y:Nat)(hx:x<18446744073709551616)(hy:y<18446744073709551616)(w:World) :
 Calls Tryz.prog 76 #[.int .u64 x,.int .u64 y] w fun e w'=>e=.returned (.tuple #[.int .u64 ((x*y / 18446744073709551616:Nat):Int),.int .u64 ((x*y % 18446744073709551616:Nat):Int)])/\w'=w:=Go.Proofs.Any.bits_Mul LG x y hx hy w
theorem JU(m:Nat)(hm:m<=60)(w:World) :
 Calls Tryz.prog 76 #[.int .u64 1,.int .u64 m] w fun e w'=>e=.returned (.tuple #[.int .u64 0,.int .u64 m])/\w=w':=by
 refine(Gk 1 m (by omega) (by omega) w).mono ?_;rintro e w' ⟨rfl,rfl⟩;refine⟨?_,rfl⟩;have e1:1*m / 18446744073709551616=0:=by omega
 have e2:1*m % 18446744073709551616=m:=by omega
 rw[e1,e2];rfl
end Go.Proofs.YtgbiagonfbnooaaGreatDoor
