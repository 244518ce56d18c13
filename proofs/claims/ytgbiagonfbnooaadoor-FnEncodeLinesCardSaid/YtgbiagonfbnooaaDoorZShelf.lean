import Derived.Shelf.LaysC
import Derived.Shelf.LaysM
import Derived.Shelf.Small.Wraps
import Derived.Shelf.Strconv.AtoiAll
import Derived.Shelf.Strconv.Itoa3
import Derived.Shelf.Strings.Cut
import Derived.Shelf.Strings.Split
import Derived.Test.YtgbiagonfbnooaaDoorProg
set_option linter.all false
set_option maxRecDepth 100000
set_option maxHeartbeats 8000000
namespace Go.Proofs.YtgbiagonfbnooaaDoor
open Go.Shelf
open Go.RowKit in
def Dd:Go.Shelf.Ren:=⟨fun | 171=>45 | 243=>74 | 246=>102 | 283=>118 | 284=>119 | 285=>120 | 286=>121 | 129=>135 | 317=>134 | 318=>136 | 319=>137 | 320=>138 | 337=>152 | 338=>153 | n=>n,fun | 3=>3 | 9=>9 | 2=>2 | 4=>4 | 171=>169 | 0=>0 | 53=>162 | 37=>22 | 5=>5 | 173=>172 | 212=>185 | 51=>159 | 20=>20 | 213=>186 | 46=>134 | 232=>209 | 233=>210 | n=>n,fun | 17=>1 | 18=>7 | 19=>8 | n=>n⟩
theorem FP:Go.Proofs.LaysM.n171 Tryd.prog Dd:={
 mixed:=by kernel_rfl
 f129:=Tryd.func135.trans (congrArg some (by kernel_rfl))
 f171:=Tryd.func45.trans (congrArg some (by kernel_rfl))
 f243:=Tryd.func74.trans (congrArg some (by kernel_rfl))
 f246:=Tryd.func102.trans (congrArg some (by kernel_rfl))
 f283:=Tryd.func118.trans (congrArg some (by kernel_rfl))
 f284:=Tryd.func119.trans (congrArg some (by kernel_rfl))
 f285:=Tryd.func120.trans (congrArg some (by kernel_rfl))
 f286:=Tryd.func121.trans (congrArg some (by kernel_rfl))
 f317:=Tryd.func134.trans (congrArg some (by kernel_rfl))
 f318:=Tryd.func136.trans (congrArg some (by kernel_rfl))
 f319:=Tryd.func137.trans (congrArg some (by kernel_rfl))
 f320:=Tryd.func138.trans (congrArg some (by kernel_rfl))
 f337:=Tryd.func152.trans (congrArg some (by kernel_rfl))
 f338:=Tryd.func153.trans (congrArg some (by kernel_rfl))
 t0:=Tryd.underlying0
 a0:=Tryd.isAgg0
 z0:=Tryd.sizeOf0
 v0:=Tryd.zeroValue0
 t2:=Tryd.underlying2
 a2:=Tryd.isAgg2
 z2:=Tryd.sizeOf2
 v2:=Tryd.zeroValue2
 t3:=Tryd.underlying3
 a3:=Tryd.isAgg3
 z3:=Tryd.sizeOf3
 v3:=Tryd.zeroValue3
 t4:=Tryd.underlying4
 a4:=Tryd.isAgg4
 z4:=Tryd.sizeOf4
 v4:=Tryd.zeroValue4
 t5:=Tryd.underlying5
 a5:=Tryd.isAgg5
 z5:=Tryd.sizeOf5
 v5:=Tryd.zeroValue5
 t9:=Tryd.underlying9
 a9:=Tryd.isAgg9
 z9:=Tryd.sizeOf9
 v9:=Tryd.zeroValue9
 t20:=Tryd.underlying20
 a20:=Tryd.isAgg20
 z20:=Tryd.sizeOf20
 v20:=Tryd.zeroValue20
 t37:=Tryd.underlying22
 a37:=Tryd.isAgg22
 z37:=Tryd.sizeOf22
 v37:=Tryd.zeroValue22
 t46:=Tryd.underlying134
 a46:=Tryd.isAgg134
 z46:=Tryd.sizeOf134
 v46:=Tryd.zeroValue134
 t51:=Tryd.underlying159
 a51:=Tryd.isAgg159
 z51:=Tryd.sizeOf159
 v51:=Tryd.zeroValue159
 t53:=Tryd.underlying162
 a53:=Tryd.isAgg162
 z53:=Tryd.sizeOf162
 v53:=Tryd.zeroValue162
 t171:=Tryd.underlying169
 a171:=Tryd.isAgg169
 z171:=Tryd.sizeOf169
 v171:=Tryd.zeroValue169
 t173:=Tryd.underlying172
 a173:=Tryd.isAgg172
 z173:=Tryd.sizeOf172
 v173:=Tryd.zeroValue172
 t212:=Tryd.underlying185
 a212:=Tryd.isAgg185
 z212:=Tryd.sizeOf185
 v212:=Tryd.zeroValue185
 t213:=Tryd.underlying186
 a213:=Tryd.isAgg186
 z213:=Tryd.sizeOf186
 t232:=Tryd.underlying209
 a232:=Tryd.isAgg209
 z232:=Tryd.sizeOf209
 v232:=Tryd.zeroValue209
 t233:=Tryd.underlying210
 a233:=Tryd.isAgg210
 z233:=Tryd.sizeOf210
 v233:=Tryd.zeroValue210
 g17:=by kernel_rfl
 g18:=by kernel_rfl
 g19:=by kernel_rfl
 i0:=by kernel_rfl
 i2:=by kernel_rfl
 i3:=by kernel_rfl
 i4:=by kernel_rfl
 i5:=by kernel_rfl
 i9:=by kernel_rfl
 i20:=by kernel_rfl
 i37:=by kernel_rfl
 i46:=by kernel_rfl
 i51:=by kernel_rfl
 i53:=by kernel_rfl
 i171:=by kernel_rfl
 i173:=by kernel_rfl
 i212:=by kernel_rfl
 i232:=by kernel_rfl
 i233:=by kernel_rfl
 m17:=by kernel_rfl
 m18:=by kernel_rfl
 m19:=by kernel_rfl }
open Go.RowKit Go.Sort Go.Lib in
theorem De(n:Int)(h0:-9223372036854775808<=n)(h1:n<=9223372036854775807)(w:World)(htab:Lib.TabIs Tryd.prog w "internal/strconv.uint64pow10" .u64 Lib.pow10Tab) :
 Calls Tryd.prog 45 #[.int .i64 n] w fun e w'=>e=.returned (.string ⟨(Lib.itoa n).toArray⟩)/\∃ k os,w'=grow (w.drewN k) os:=Any.strconv_Itoa FP n h0 h1 w htab
end Go.Proofs.YtgbiagonfbnooaaDoor
