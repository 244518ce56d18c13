import Derived.Test.YtaemcekcancpdabGreatDoorZRen2
import Derived.Test.YtaemcekcancpdabGreatDoorProg
set_option linter.all false
set_option maxRecDepth 100000
set_option maxHeartbeats 8000000
namespace Go.Proofs.YtaemcekcancpdabGreatDoor
open Ren
noncomputable def CH(f:Nat):Bool:=Nat.testBit 68508063474457937811291019762927499737995090432 f
noncomputable def CO(n:Nat):Bool:=Nat.beq n 0
theorem TX{f:Nat}(h:CH f=true):f<161:=by
 by_cases hf:f<161
 . exact hf
 . exfalso
   unfold CH at h;rw[Nat.testBit_lt_two_pow (Nat.lt_of_lt_of_le (show 68508063474457937811291019762927499737995090432<2 ^ 161 by decide) (Nat.pow_le_pow_right (by decide) (Nat.le_of_not_lt hf)))] at h;cases h
theorem SA:(List.range 161).all (fun f=>!CH f||Ly Tryz.prog CH CO f)=true:=by kernel_rfl
theorem TY(f:FuncId)(h:CH f=true):Ly Tryz.prog CH CO f=true:=by
 have:=List.all_eq_true.1 SA f (List.mem_range.2 (TX h))
 rwa [h,Bool.not_true,Bool.false_or] at this
noncomputable abbrev XR:Ctx:=Fq Tryz.prog CH CO
abbrev gR:Nat->Prop:=SZ CO
theorem AV:Lawful XR:=Sv TY
theorem AW:CodeLaws XR gR:=OC
theorem AD:XR.C (.refuse ""):=rfl
end Go.Proofs.YtaemcekcancpdabGreatDoor
