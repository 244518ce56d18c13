import Derived.Shelf.Bits.Mul64
import Derived.Test.YtflmmdljkhdjlaaProg
set_option linter.all false
set_option maxRecDepth 100000
set_option maxHeartbeats 8000000
namespace Go.Proofs.Ytflmmdljkhdjlaa
open Go.Shelf
def Kv:Go.Shelf.Ren:=⟨fun | 212=>84 | 263=>95 | 264=>96 | n=>n,fun | 46=>111 | 51=>127 | 146=>128 | 53=>130 | 148=>131 | n=>n,fun | n=>n⟩
theorem JD:Go.Proofs.Lays.n212 Try.prog Kv:={
 mixed:=by kernel_rfl
 f212:=Try.func84.trans (congrArg some (by kernel_rfl))
 f263:=Try.func95.trans (congrArg some (by kernel_rfl))
 f264:=Try.func96.trans (congrArg some (by kernel_rfl))
 t46:=Try.underlying111
 a46:=Try.isAgg111
 z46:=Try.sizeOf111
 v46:=Try.zeroValue111
 t51:=Try.underlying127
 a51:=Try.isAgg127
 z51:=Try.sizeOf127
 v51:=Try.zeroValue127
 t146:=Try.underlying128
 a146:=Try.isAgg128
 z146:=Try.sizeOf128
 v146:=Try.zeroValue128
 t53:=Try.underlying130
 a53:=Try.isAgg130
 z53:=Try.sizeOf130
 v53:=Try.zeroValue130
 t148:=Try.underlying131
 a148:=Try.isAgg131
 z148:=Try.sizeOf131
 v148:=Try.zeroValue131 }
open Go.RowKit Go.Lib in
theorem FU(x y:Nat)(hx:x<18446744073709551616)(hy:y<18446744073709551616)(w:World) :
 Calls Try.prog 84 #[.int .u64 x,.int .u64 y] w fun e w'=>e=.returned (.tuple #[.int .u64 ((x*y / 18446744073709551616:Nat):Int),.int .u64 ((x*y % 18446744073709551616:Nat):Int)])/\w'=w:=Go.Proofs.Any.bits_Mul JD x y hx hy w
theorem Iv(m:Nat)(hm:m<=60)(w:World) :
 Calls Try.prog 84 #[.int .u64 1,.int .u64 m] w fun e w'=>e=.returned (.tuple #[.int .u64 0,.int .u64 m])/\w=w':=by
 refine(FU 1 m (by omega) (by omega) w).mono ?_;rintro e w' ⟨rfl,rfl⟩;refine⟨?_,rfl⟩;have e1:1*m / 18446744073709551616=0:=by omega
 have e2:1*m % 18446744073709551616=m:=by omega
 rw[e1,e2];rfl
end Go.Proofs.Ytflmmdljkhdjlaa
