import Derived.Test.YtaemcekcancpdaaGreatDoorZRen2
import Derived.Test.YtaemcekcancpdaaGreatDoorProg
set_option linter.all false
set_option maxRecDepth 100000
set_option maxHeartbeats 8000000
namespace Go.Proofs.YtaemcekcancpdaaGreatDoor
open Ren
noncomputable def Ck(f:Nat):Bool:=Nat.testBit 255212424227811164450984521336077900288 f
noncomputable def Cn(n:Nat):Bool:=Nat.beq n 0
theorem Tq{f:Nat}(h:Ck f=true):f<133:=by
 by_cases hf:f<133
 . exact hf
 . exfalso
   unfold Ck at h;rw[Nat.testBit_lt_two_pow (Nat.lt_of_lt_of_le (show 255212424227811164450984521336077900288<2 ^ 133 by decide) (Nat.pow_le_pow_right (by decide) (Nat.le_of_not_lt hf)))] at h;cases h
theorem Se:(List.range 133).all (fun f=>!Ck f||Lr Tryz.prog Ck Cn f)=true:=by kernel_rfl
theorem Tr(f:FuncId)(h:Ck f=true):Lr Tryz.prog Ck Cn f=true:=by
 have:=List.all_eq_true.1 Se f (List.mem_range.2 (Tq h))
 rwa [h,Bool.not_true,Bool.false_or] at this
noncomputable abbrev XR:Ctx:=Fv Tryz.prog Ck Cn
abbrev gR:Nat->Prop:=Sz Cn
theorem AJ:Lawful XR:=RY Tr
theorem AK:CodeLaws XR gR:=OC
theorem Av:XR.C (.refuse ""):=rfl
end Go.Proofs.YtaemcekcancpdaaGreatDoor
