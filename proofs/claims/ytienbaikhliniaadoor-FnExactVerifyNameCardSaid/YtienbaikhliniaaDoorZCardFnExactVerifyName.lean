/-
  Proved: for every input the law FnExactVerifyName returns true, each argument reads afterwards as it read before, and so do the package-level errors that it reads; they begin as the program's text lays them (the card ties it to that text). No other conditions.
-/
import Derived.Test.YtienbaikhliniaaDoorCards
import Derived.Test.YtienbaikhliniaaDoorTie
import Derived.Test.YtienbaikhliniaaDoorZErrVars
import Derived.Test.YtienbaikhliniaaDoorZLawName
import Derived.ProofKit
import Derived.ShutString
import Derived.ChangeOld
import Derived.Lib.SmallJoins
import Derived.Deep.DeepHandedRow
set_option linter.all false
set_option maxRecDepth 100000
set_option maxHeartbeats 8000000
namespace Go.Proofs.YtienbaikhliniaaDoor.fnExactVerifyName
open Go.ChangeShapes Go.WideShapes Go.ChangeAt Go.RowKit Go.Joins
theorem contract(H:Type)(enc:TypeId × Value->H)(W:World)(base:Nat)(args:Array Value)(ds gs:List (DataW H))(before:List MemPlace)
 (hval0:∀(j:Nat) t v,Tryd.f4.params[j]?=some t->args[j]?=some v->Value.okWide Tryd.prog W .any base t v)
 (hW:DataW.Whole enc Tryd.prog Tryd.f4.params.toList Rows.fnExactVerifyNameSpec.vars false W args.toList ds gs before) (hL:laidMetH Tryd.prog Rows.fnExactVerifyNameRow.laid W) :
 Calls Tryd.prog 4 args W fun e W'=>∃ v,e=.returned v/\Rows.fnExactVerifyNameSpec.post enc Tryd.prog Tryd.f4 false true false false W args v W':=by
 have hQ:Errs W:=AY (by rw[MakeChecks.laidMetH_plain _ _ _ (by kernel_rfl)] at hL; exact hL);have hval:∀(j:Nat) t v,Tryd.f4.params[j]?=some t->args[j]?=some v->Value.okWide Tryd.prog W .any base t v:=hval0;have hW':=hW;obtain⟨p,q,hA0,hV0,rfl,hfz,hnd⟩:=hW;have hA:DataW.TrodAll enc Tryd.prog W 0 (fun _=>true) true Tryd.f4.params.toList args.toList ds p:=hA0
 have hV:DataW.TrodVars enc Tryd.prog W (fun _=>true) ["loop.example/replayverifier/impl.errText", "loop.example/replayverifier/impl.errLevel", "loop.example/replayverifier/impl.errKey", "loop.example/replayverifier/impl.errTag", "loop.example/replayverifier/impl.errInput", "loop.example/replayverifier/impl.errRange", "loop.example/replayverifier/impl.errHash", "loop.example/replayverifier/impl.errOpen", "loop.example/replayverifier/impl.errScore"] gs q:=hV0;rw[Tryd.params4] at hA hval;obtain⟨v0,vs0,d0,ds0,p0,q0,hargs,rfl,rfl,h0,r0⟩:=trodAll_cons hA;obtain⟨rfl,rfl,rfl⟩:=trodAll_nil r0;obtain rfl:args=#[v0]:=by cases args; simp_all
 obtain⟨a0,rfl,rfl,rfl,w0⟩:=open_int Tryd.underlying3 (hval 0 3 v0 rfl rfl) h0;clear hA0 hV0 hval0;refine(Ai a0 W hQ).mono fun e W' ⟨he,bel⟩=>?_;subst he;obtain⟨q',hv'⟩:=AC bel hQ (sp':=fun b=>decide (b<W.heap.size)) (by
  intro n hn;simp only[List.mem_cons,List.not_mem_nil,or_false] at hn;rcases hn with rfl | rfl | rfl | rfl | rfl | rfl | rfl | rfl | rfl
  . exact⟨_,Ax,Ao,Aa (w:=W) (p:=⟨0,0,none⟩) hQ.errText.choose_spec.1⟩
  . exact⟨_,Ap,Aj,Aa (w:=W) (p:=⟨1,0,none⟩) hQ.errLevel.choose_spec.1⟩
  . exact⟨_,AF,Ay,Aa (w:=W) (p:=⟨2,0,none⟩) hQ.errKey.choose_spec.1⟩
  . exact⟨_,AG,Az,Aa (w:=W) (p:=⟨3,0,none⟩) hQ.errTag.choose_spec.1⟩
  . exact⟨_,Aq,Ak,Aa (w:=W) (p:=⟨4,0,none⟩) hQ.errInput.choose_spec.1⟩
  . exact⟨_,Ar,Al,Aa (w:=W) (p:=⟨5,0,none⟩) hQ.errRange.choose_spec.1⟩
  . exact⟨_,AA,As,Aa (w:=W) (p:=⟨6,0,none⟩) hQ.errHash.choose_spec.1⟩
  . exact⟨_,AB,Au,Aa (w:=W) (p:=⟨7,0,none⟩) hQ.errOpen.choose_spec.1⟩
  . exact⟨_,Av,Am,Aa (w:=W) (p:=⟨8,0,none⟩) hQ.errScore.choose_spec.1⟩
  ) hV
 obtain⟨g1,g2,g3,g4,g5,g6,g7,g8,g9,rfl⟩:=AM (AH hV);exact⟨_,rfl,_,_,_,[],_,q',hW',trodAll_mk1 (shut_bool Tryd.underlying4 _),(trodAll_cons_mk (shut_int Tryd.underlying3 w0) trodAll_mk0),hv',bel.frame _,fun h=>by cases h⟩
theorem laid_met(os:Os):laidMet Tryd.prog Rows.fnExactVerifyNameRow.laid ((Ae os).forCall (fun _ _=>0) ⟨#[],#[.int .i64 0],[]⟩).memory :=
 laidMet_of_run' 8 (by kernel_rfl) (by kernel_rfl)
theorem reads(os:Os){H:Type}(enc:TypeId × Value->H):∃ places,DataW.whole enc Tryd.prog ((Ae os).forCall (fun _ _=>0) ⟨#[],#[.int .i64 0],[]⟩).memory Tryd.f4.params.toList Rows.fnExactVerifyNameSpec.vars false (#[.int .i64 0]:Array Value).toList 8=some ([.lit (.int .i64 0)],[tok enc (.iface 39 (.pointer (some ⟨Ad+0,0,none⟩))),tok enc (.iface 39 (.pointer (some ⟨Ad+1,0,none⟩))),tok enc (.iface 39 (.pointer (some ⟨Ad+2,0,none⟩))),tok enc (.iface 39 (.pointer (some ⟨Ad+3,0,none⟩))),tok enc (.iface 39 (.pointer (some ⟨Ad+4,0,none⟩))),tok enc (.iface 39 (.pointer (some ⟨Ad+5,0,none⟩))),tok enc (.iface 39 (.pointer (some ⟨Ad+6,0,none⟩))),tok enc (.iface 39 (.pointer (some ⟨Ad+7,0,none⟩))),tok enc (.iface 39 (.pointer (some ⟨Ad+8,0,none⟩)))],places) :=
 ⟨[.cell 0 0,.cell 1 0,.cell 2 0,.cell 3 0,.cell 4 0,.cell 5 0,.cell 6 0,.cell 7 0,.cell 8 0],by kernel_rfl⟩
theorem lifted(os:Os)(started:os.Started)(H:Type)(enc:TypeId × Value->H)(F:Stop.Interp) :
 ReturnsInHanded {} Tryd.checked os 4 .any ((OpenSpec.ofChange Rows.fnExactVerifyNameSpec).preRow enc Tryd.prog Tryd.f4 Rows.fnExactVerifyNameRow.domain false Rows.fnExactVerifyNameRow.laid) (((OpenSpec.ofChange Rows.fnExactVerifyNameSpec).at F).post enc Tryd.prog Tryd.f4 false true false false):=by
 obtain⟨places,hx⟩:=reads os enc;refine returnsInHanded_of_row (C:=Tryd.checked) (s:=OpenSpec.ofChange Rows.fnExactVerifyNameSpec) Bj started (by kernel_rfl) Tryd.func4
  (witness_row_at (enc:=enc) (C:=Tryd.checked) false (Ae os) #[.int .i64 0] rfl (by kernel_rfl) (by kernel_rfl) (by kernel_rfl)
   (OpenSpec.preRow_of_cond 8 hx (by kernel_rfl) (fun k hk=>by cases hk) (by kernel_rfl) (laid_met os))) ?_
 intro W base args ds gs before hval hW _ _ _ hL _ _;exact contract H enc W base args ds gs before hval hW hL
theorem said:Rows.FnExactVerifyNameSaid :=
 OpenClaim.holds_of_cond 4 Tryd.f4 rfl rfl rfl rfl rfl rfl rfl ⟨rfl,rfl,rfl,rfl,rfl⟩ rfl rfl rfl rfl rfl (by kernel_rfl) Tryd.func4 (by kernel_rfl)
  (of_decide_eq_true (by kernel_rfl)) (by unfold Func.isWrapper; first | (rw[if_pos (by decide +kernel)]; kernel_rfl) | (rw[if_neg (by decide +kernel)]; exact⟨rfl,rfl⟩))
  (fun os started H enc _ F=>by rw[OpenClaim.pre_eq_preRow]; exact lifted os started H enc F)
theorem plain(f:FuncId)(fn:Func)(hf:Tryd.pinned.checked.prog.funcNamed "loop.example/replayverifier/laws.FnExactVerifyName" = some f)(hfn:Tryd.pinned.checked.prog.funcs[f]?=some fn) :
 false=Tryd.pinned.checked.prog.looks []/\∀(j:Nat) t,fn.params[j]?=some t->Tryd.pinned.checked.prog.wantsStandIn t=false:=by
 obtain rfl:f=4:=Option.some.inj ((show Tryd.prog.funcNamed "loop.example/replayverifier/laws.FnExactVerifyName" = some 4 by kernel_rfl).symm.trans hf) |>.symm;obtain rfl:fn=Tryd.f4:=(Option.some.inj (Tryd.func4.symm.trans hfn)).symm;refine⟨by kernel_rfl,fun j t ht=>?_⟩;rw[Tryd.params4] at ht;obtain rfl:t=3:=by simpa using Array.mem_of_getElem? ht
 exact(show Tryd.prog.wantsStandIn 3=false by kernel_rfl)
theorem proved:Rows.FnExactVerifyNameCardSaid :=
 Claim7.holds_tied_plain_at .later [] _ _ _ _ said (fun _ h=>by cases h) (by kernel_rfl) (fun _ h=>by cases h) fnExactVerifyName_row_tie rfl ⟨rfl,rfl⟩ (by kernel_rfl) rfl plain (by kernel_rfl)
#print axioms proved
end Go.Proofs.YtienbaikhliniaaDoor.fnExactVerifyName
