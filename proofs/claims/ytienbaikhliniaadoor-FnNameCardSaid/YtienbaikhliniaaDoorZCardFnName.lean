/-
  Proved: for every input the law FnName returns true, each argument reads afterwards as it read before, and so do the package-level errors that it reads; they begin as the program's text lays them (the card ties it to that text). No other conditions.
-/
import Derived.Test.YtienbaikhliniaaDoorCards
import Derived.Test.YtienbaikhliniaaDoorTie
import Derived.Test.YtienbaikhliniaaDoorZErrVars
import Derived.Test.YtienbaikhliniaaDoorZLawName
import Derived.ProofKit
import Derived.ShutString
import Derived.ChangeOld
import Derived.Lib.SmallJoins
import Derived.Deep.DeepHandedRow
set_option linter.all false
set_option maxRecDepth 100000
set_option maxHeartbeats 8000000
namespace Go.Proofs.YtienbaikhliniaaDoor.fnName
open Go.ChangeShapes Go.WideShapes Go.ChangeAt Go.RowKit Go.Joins
theorem contract(H:Type)(enc:TypeId × Value->H)(W:World)(base:Nat)(args:Array Value)(ds gs:List (DataW H))(before:List MemPlace)
 (hval0:∀(j:Nat) t v,Tryd.f3.params[j]?=some t->args[j]?=some v->Value.okWide Tryd.prog W .any base t v)
 (hW:DataW.Whole enc Tryd.prog Tryd.f3.params.toList Rows.fnNameSpec.vars false W args.toList ds gs before) (hL:laidMetH Tryd.prog Rows.fnNameRow.laid W) :
 Calls Tryd.prog 3 args W fun e W'=>∃ v,e=.returned v/\Rows.fnNameSpec.post enc Tryd.prog Tryd.f3 false true false false W args v W':=by
 have hQ:Errs W:=AY (by rw[MakeChecks.laidMetH_plain _ _ _ (by kernel_rfl)] at hL; exact hL);have hval:∀(j:Nat) t v,Tryd.f3.params[j]?=some t->args[j]?=some v->Value.okWide Tryd.prog W .any base t v:=hval0;have hW':=hW;obtain⟨p,q,hA0,hV0,rfl,hfz,hnd⟩:=hW;have hA:DataW.TrodAll enc Tryd.prog W 0 (fun _=>true) true Tryd.f3.params.toList args.toList ds p:=hA0
 have hV:DataW.TrodVars enc Tryd.prog W (fun _=>true) ["loop.example/replayverifier/impl.errText", "loop.example/replayverifier/impl.errLevel", "loop.example/replayverifier/impl.errKey", "loop.example/replayverifier/impl.errTag", "loop.example/replayverifier/impl.errInput", "loop.example/replayverifier/impl.errRange", "loop.example/replayverifier/impl.errHash", "loop.example/replayverifier/impl.errOpen", "loop.example/replayverifier/impl.errScore"] gs q:=hV0;rw[Tryd.params3] at hA hval;obtain⟨v0,vs0,d0,ds0,p0,q0,hargs,rfl,rfl,h0,r0⟩:=trodAll_cons hA;obtain⟨v1,vs1,d1,ds1,p1,q1,rfl,rfl,rfl,h1,r1⟩:=trodAll_cons r0;obtain⟨rfl,rfl,rfl⟩:=trodAll_nil r1
 obtain rfl:args=#[v0,v1]:=by cases args; simp_all
 obtain⟨a0,len0,cap0,rfl⟩:=okWide_slice Tryd.underlying22 (hval 0 22 v0 rfl rfl);have k0:=h0;have lt0:∀ x∈p0,x.block<W.heap.size:=by obtain⟨m,hm⟩:=k0; exact DataW.trod_lt m _ _ _ hm
 obtain⟨z0,w0⟩:∃ zs,IsRow .u8 W a0 len0 cap0 zs:=by
  obtain⟨fuel,hf⟩:=h0;rcases open_ints Tryd.underlying22 Tryd.underlying5 (by kernel_rfl) hf with⟨hcs,_⟩ | ⟨x,l,c,zs,hcs,_,hl,hm,hz,_,hcell,hwz⟩
  . simp[Value.cells] at hcs;obtain⟨rfl,rfl,rfl⟩:=hcs;exact⟨[],.inl ⟨rfl,rfl,rfl,rfl⟩⟩
  . simp[Value.cells] at hcs;obtain⟨rfl,rfl,rfl⟩:=hcs;exact⟨zs,.inr ⟨_,rfl,hl,hm,by simpa using hz,hcell,hwz⟩⟩
 obtain⟨a1,len1,cap1,rfl⟩:=okWide_slice Tryd.underlying22 (hval 1 22 v1 rfl rfl);have k1:=h1;have lt1:∀ x∈p1,x.block<W.heap.size:=by obtain⟨m,hm⟩:=k1; exact DataW.trod_lt m _ _ _ hm
 obtain⟨z1,w1⟩:∃ zs,IsRow .u8 W a1 len1 cap1 zs:=by
  obtain⟨fuel,hf⟩:=h1;rcases open_ints Tryd.underlying22 Tryd.underlying5 (by kernel_rfl) hf with⟨hcs,_⟩ | ⟨x,l,c,zs,hcs,_,hl,hm,hz,_,hcell,hwz⟩
  . simp[Value.cells] at hcs;obtain⟨rfl,rfl,rfl⟩:=hcs;exact⟨[],.inl ⟨rfl,rfl,rfl,rfl⟩⟩
  . simp[Value.cells] at hcs;obtain⟨rfl,rfl,rfl⟩:=hcs;exact⟨zs,.inr ⟨_,rfl,hl,hm,by simpa using hz,hcell,hwz⟩⟩
 clear hA0 hV0 hval0;refine(AV a0 len0 cap0 z0 a1 len1 cap1 z1 W w0 w1 hQ).mono fun e W' ⟨he,bel⟩=>?_;subst he;obtain⟨q',hv'⟩:=AC bel hQ (sp':=fun b=>decide (b<W.heap.size)) (by
  intro n hn;simp only[List.mem_cons,List.not_mem_nil,or_false] at hn;rcases hn with rfl | rfl | rfl | rfl | rfl | rfl | rfl | rfl | rfl
  . exact⟨_,Ax,Ao,Aa (w:=W) (p:=⟨0,0,none⟩) hQ.errText.choose_spec.1⟩
  . exact⟨_,Ap,Aj,Aa (w:=W) (p:=⟨1,0,none⟩) hQ.errLevel.choose_spec.1⟩
  . exact⟨_,AF,Ay,Aa (w:=W) (p:=⟨2,0,none⟩) hQ.errKey.choose_spec.1⟩
  . exact⟨_,AG,Az,Aa (w:=W) (p:=⟨3,0,none⟩) hQ.errTag.choose_spec.1⟩
  . exact⟨_,Aq,Ak,Aa (w:=W) (p:=⟨4,0,none⟩) hQ.errInput.choose_spec.1⟩
  . exact⟨_,Ar,Al,Aa (w:=W) (p:=⟨5,0,none⟩) hQ.errRange.choose_spec.1⟩
  . exact⟨_,AA,As,Aa (w:=W) (p:=⟨6,0,none⟩) hQ.errHash.choose_spec.1⟩
  . exact⟨_,AB,Au,Aa (w:=W) (p:=⟨7,0,none⟩) hQ.errOpen.choose_spec.1⟩
  . exact⟨_,Av,Am,Aa (w:=W) (p:=⟨8,0,none⟩) hQ.errScore.choose_spec.1⟩
  ) hV
 obtain⟨g1,g2,g3,g4,g5,g6,g7,g8,g9,rfl⟩:=AM (AH hV);exact⟨_,rfl,_,_,_,[],_,q',hW',trodAll_mk1 (shut_bool Tryd.underlying4 _),(trodAll_cons_mk (Below.trod AU (by kernel_rfl) (of_decide_eq_true (by kernel_rfl)) k0 bel lt0) (trodAll_cons_mk (Below.trod AU (by kernel_rfl) (of_decide_eq_true (by kernel_rfl)) k1 bel lt1) trodAll_mk0)),hv',bel.frame _,fun h=>by cases h⟩
theorem laid_met(os:Os):laidMet Tryd.prog Rows.fnNameRow.laid ((Ae os).forCall (fun _ _=>0) ⟨#[],#[.slice none 0 0,.slice none 0 0],[]⟩).memory :=
 laidMet_of_run' 8 (by kernel_rfl) (by kernel_rfl)
theorem reads(os:Os){H:Type}(enc:TypeId × Value->H):∃ places,DataW.whole enc Tryd.prog ((Ae os).forCall (fun _ _=>0) ⟨#[],#[.slice none 0 0,.slice none 0 0],[]⟩).memory Tryd.f3.params.toList Rows.fnNameSpec.vars false (#[.slice none 0 0,.slice none 0 0]:Array Value).toList 8=some ([.nil,.nil],[tok enc (.iface 39 (.pointer (some ⟨Ad+0,0,none⟩))),tok enc (.iface 39 (.pointer (some ⟨Ad+1,0,none⟩))),tok enc (.iface 39 (.pointer (some ⟨Ad+2,0,none⟩))),tok enc (.iface 39 (.pointer (some ⟨Ad+3,0,none⟩))),tok enc (.iface 39 (.pointer (some ⟨Ad+4,0,none⟩))),tok enc (.iface 39 (.pointer (some ⟨Ad+5,0,none⟩))),tok enc (.iface 39 (.pointer (some ⟨Ad+6,0,none⟩))),tok enc (.iface 39 (.pointer (some ⟨Ad+7,0,none⟩))),tok enc (.iface 39 (.pointer (some ⟨Ad+8,0,none⟩)))],places) :=
 ⟨[.cell 0 0,.cell 1 0,.cell 2 0,.cell 3 0,.cell 4 0,.cell 5 0,.cell 6 0,.cell 7 0,.cell 8 0],by kernel_rfl⟩
theorem lifted(os:Os)(started:os.Started)(H:Type)(enc:TypeId × Value->H)(F:Stop.Interp) :
 ReturnsInHanded {} Tryd.checked os 3 .any ((OpenSpec.ofChange Rows.fnNameSpec).preRow enc Tryd.prog Tryd.f3 Rows.fnNameRow.domain false Rows.fnNameRow.laid) (((OpenSpec.ofChange Rows.fnNameSpec).at F).post enc Tryd.prog Tryd.f3 false true false false):=by
 obtain⟨places,hx⟩:=reads os enc;refine returnsInHanded_of_row (C:=Tryd.checked) (s:=OpenSpec.ofChange Rows.fnNameSpec) Bj started (by kernel_rfl) Tryd.func3
  (witness_row_at (enc:=enc) (C:=Tryd.checked) false (Ae os) #[.slice none 0 0,.slice none 0 0] rfl (by kernel_rfl) (by kernel_rfl) (by kernel_rfl)
   (OpenSpec.preRow_of_cond 8 hx (by kernel_rfl) (fun k hk=>by cases hk) (by kernel_rfl) (laid_met os))) ?_
 intro W base args ds gs before hval hW _ _ _ hL _ _;exact contract H enc W base args ds gs before hval hW hL
theorem said:Rows.FnNameSaid :=
 OpenClaim.holds_of_cond 3 Tryd.f3 rfl rfl rfl rfl rfl rfl rfl ⟨rfl,rfl,rfl,rfl,rfl⟩ rfl rfl rfl rfl rfl (by kernel_rfl) Tryd.func3 (by kernel_rfl)
  (of_decide_eq_true (by kernel_rfl)) (by unfold Func.isWrapper; first | (rw[if_pos (by decide +kernel)]; kernel_rfl) | (rw[if_neg (by decide +kernel)]; exact⟨rfl,rfl⟩))
  (fun os started H enc _ F=>by rw[OpenClaim.pre_eq_preRow]; exact lifted os started H enc F)
theorem plain(f:FuncId)(fn:Func)(hf:Tryd.pinned.checked.prog.funcNamed "loop.example/replayverifier/laws.FnName" = some f)(hfn:Tryd.pinned.checked.prog.funcs[f]?=some fn) :
 false=Tryd.pinned.checked.prog.looks []/\∀(j:Nat) t,fn.params[j]?=some t->Tryd.pinned.checked.prog.wantsStandIn t=false:=by
 obtain rfl:f=3:=Option.some.inj ((show Tryd.prog.funcNamed "loop.example/replayverifier/laws.FnName" = some 3 by kernel_rfl).symm.trans hf) |>.symm;obtain rfl:fn=Tryd.f3:=(Option.some.inj (Tryd.func3.symm.trans hfn)).symm;refine⟨by kernel_rfl,fun j t ht=>?_⟩;rw[Tryd.params3] at ht;obtain rfl:t=22:=by simpa using Array.mem_of_getElem? ht
 exact(show Tryd.prog.wantsStandIn 22=false by kernel_rfl)
theorem proved:Rows.FnNameCardSaid :=
 Claim7.holds_tied_plain_at .later [] _ _ _ _ said (fun _ h=>by cases h) (by kernel_rfl) (fun _ h=>by cases h) fnName_row_tie rfl ⟨rfl,rfl⟩ (by kernel_rfl) rfl plain (by kernel_rfl)
#print axioms proved
end Go.Proofs.YtienbaikhliniaaDoor.fnName
