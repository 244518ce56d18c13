import Derived.Test.YtaemcekcancpdaaGreatDoorCards
import Derived.Test.YtaemcekcancpdaaGreatDoorTie
import Derived.Test.YtaemcekcancpdaaGreatDoorZQuarter
import Derived.Test.YtaemcekcancpdaaGreatDoorZHead
import Derived.Test.YtaemcekcancpdaaGreatDoorZRunB
import Derived.ShutString
import Derived.ChangeOld
import Derived.Lib.SmallJoins
import Derived.Deep.DeepHandedRow
import Derived.Conc.LeavingOf
import Derived.SevenTiedAt
set_option linter.all false
set_option maxRecDepth 100000
set_option maxHeartbeats 8000000
namespace Go.Proofs.YtaemcekcancpdaaGreatDoor
open Go.RowKit
theorem BN(Lk:Looks){p:Pinned}{s:OpenSpec}{c:OpenClaim}(kinds:List LaidKind)(tests:Bool)(har:Bool × String)(lk:Bool)
 (hc:c.holds p s) (hw:c.wfByText s=true) (htie:c.laidByTextAt Lk p kinds tests)
 (hst:c.start=.entering) (hnb:c.noBlocks=false/\c.again=false) (hm:p.checked.prog.mainIs=some (har.1,har.2.toList)) (hn:(!har.1&&har.2.isEmpty&&!lk)=false)
 (hl:∀ f fn,p.checked.prog.funcNamed c.func=some f->p.checked.prog.funcs[f]?=some fn->lk=p.checked.prog.looks []/\∀(j:Nat) t,fn.params[j]?=some t->p.checked.prog.wantsStandIn t=false)
 (hg:true=c.goesBy p.checked.prog) :
 Claim7.holds p (.plain s) { stood:={ row:=c,standIns:=[],harness:=har,looks:=lk },kinds:=[],alts:=[],goes:=true,laidByText:=true,laidKinds:=kinds,laidTests:=tests,laidLooks:=Lk }:=by
 have h6:∀ r:OpenClaim,Claim7.isSixth { stood:={ row:=r,standIns:=[],harness:=har,looks:=lk },kinds:=[] }=false:=fun r=>by simpa[Claim7.isSixth] using hn
 exact⟨Claim7.tied_new_at Lk kinds tests (Claim7.new_of_sixth hc har lk hst hnb hm (h6 c) hl) hw,(fun D hD=>by cases hD),htie,(fun h=>by cases h),hg⟩
theorem Fj{W:World}{base:Nat}{a:Option Addr}{len cap:Nat}(h:Value.okWide Tryz.prog W .any base 22 (.slice a len cap)):Cel W a:=by
 intro x hx;subst hx;simp only[Value.okWide,Tryz.underlying22,Cell.okWide,Cell.ok,World.has] at h;obtain⟨_,_,_,h1,row,cells,h2,_⟩:=h;refine⟨h1,?_⟩;unfold World.shape? at h2;split at h2
 . exact⟨_,_,_,‹_›⟩
 . cases h2
theorem FI:Nat.ble (Tryz.prog.globals.size+1) (begin Tryz.prog (fun _ _=>0) default).world.heap.size=true:=by kernel_rfl
theorem CI{W:World}(h:W.ShapedOpen Tryz.prog):XR.G<=W.heap.size:=by
 have h0:Tryz.prog.globals.size<(begin Tryz.prog (fun _ _=>0) default).world.heap.size:=Nat.le_of_ble_eq_true FI;obtain⟨o,_,h1,_⟩:=h.2 Tryz.prog.globals.size (Nat.le_refl _) h0;exact Nat.le_of_lt (Array.getElem?_eq_some_iff.1 h1).1
end Go.Proofs.YtaemcekcancpdaaGreatDoor
