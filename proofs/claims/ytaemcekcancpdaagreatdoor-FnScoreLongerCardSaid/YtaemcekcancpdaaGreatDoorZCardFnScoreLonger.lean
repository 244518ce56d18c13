/-
  Proved: for every input the law FnScoreLonger returns true on every schedule, without a data race, each argument reads afterwards as it read before, and so does the package-level table that it reads; at the return every other goroutine has ended or is only leaving; the table begins as the program's text lays it (the card ties it to that text). No other conditions.
-/
import Derived.Test.YtaemcekcancpdaaGreatDoorZGoCard
import Derived.Test.YtaemcekcancpdaaGreatDoorZLawScL
set_option linter.all false
set_option maxRecDepth 100000
set_option maxHeartbeats 8000000
namespace Go.Proofs.YtaemcekcancpdaaGreatDoor.fnScoreLonger
open Go.ChangeShapes Go.WideShapes Go.ChangeAt Go.RowKit Go.Joins
open Go.Conc
theorem closed:joinedFacts Tryz.prog 7 Tryz.f7 Rows.fnScoreLongerSpec Rows.fnScoreLongerRow=true:=by
 unfold joinedFacts;simp only[laidOut,Jd,heard,enters,Je,made,keys]
 kernel_rfl
theorem runs(H:Type)(enc:TypeId × Value->H)(W:World)(base:Nat)(args:Array Value)(ds gs:List (DataW H))(before:List MemPlace)
 (hval0:∀(j:Nat) t v,Tryz.f7.params[j]?=some t->args[j]?=some v->Value.okWide Tryz.prog W .any base t v)
 (hW:DataW.Whole enc Tryz.prog Tryz.f7.params.toList Rows.fnScoreLongerSpec.vars false W args.toList ds gs before) (hL:laidMetH Tryz.prog Rows.fnScoreLongerRow.laid W) (hS:W.ShapedOpen Tryz.prog) :
 ∃ M last o w' t',runNT Tryz.prog (M+1) (solo (G (Frame.enter Tryz.prog 7 args .normal) []) W) #[]=(.ended o w',t')/\runN Tryz.prog M (solo (G (Frame.enter Tryz.prog 7 args .normal) []) W)=.next last /\
  step Tryz.prog last=.ended o w'/\Conc.Good Tryz.prog (fun v W'=>Rows.fnScoreLongerSpec.post enc Tryz.prog Tryz.f7 false true false false W args v W') last o w' t':=by
 have hQ:Quarter W:=CL hL;have hval:∀(j:Nat) t v,Tryz.f7.params[j]?=some t->args[j]?=some v->Value.okWide Tryz.prog W .any base t v:=hval0;have hW':=hW;obtain⟨p,q,hA0,hV0,rfl,hfz,hnd⟩:=hW;have hA:DataW.TrodAll enc Tryz.prog W 0 (fun _=>true) true Tryz.f7.params.toList args.toList ds p:=hA0;have hV:DataW.TrodVars enc Tryz.prog W (fun _=>true) ["loop.example/replayverifier/impl.firstQuarter"] gs q:=hV0;rw[Tryz.params7] at hA hval;obtain⟨v0,vs0,d0,ds0,p0,q0,hargs,rfl,rfl,h0,r0⟩:=trodAll_cons hA;obtain⟨rfl,rfl,rfl⟩:=trodAll_nil r0;obtain rfl:args=#[v0]:=by cases args; simp_all
 obtain⟨a0,len0,cap0,rfl⟩:=okWide_slice Tryz.underlying22 (hval 0 22 v0 rfl rfl);have ca:=Fj (hval 0 22 _ rfl rfl);have k0:=h0;have lt0:∀ x∈p0,x.block<W.heap.size:=by obtain⟨m,hm⟩:=k0; exact DataW.trod_lt m _ _ _ hm
 obtain⟨z0,w0⟩:∃ zs,IsRow .u8 W a0 len0 cap0 zs:=by
  obtain⟨fuel,hf⟩:=h0;rcases open_ints Tryz.underlying22 Tryz.underlying5 (by kernel_rfl) hf with⟨hcs,_⟩ | ⟨x,l,c,zs,hcs,_,hl,hm,hz,_,hcell,hwz⟩
  . simp[Value.cells] at hcs;obtain⟨rfl,rfl,rfl⟩:=hcs;exact⟨[],.inl ⟨rfl,rfl,rfl,rfl⟩⟩
  . simp[Value.cells] at hcs;obtain⟨rfl,rfl,rfl⟩:=hcs;exact⟨zs,.inr ⟨_,rfl,hl,hm,by simpa using hz,hcell,hwz⟩⟩
 clear hA0 hV0 hval0;obtain⟨M,last,o,w',t',e1,e2,e3,e4⟩:=Ren.ends_of_way (fnScoreLongerW.way a0 len0 cap0 z0 W w0 ca hQ (CI hS));refine⟨M,last,o,w',t',e1,e2,e3,e4.mono fun v hv=>?_⟩;obtain⟨rfl,bel⟩:=hv;obtain⟨g,q',rfl,hv'⟩:=var_stays hV bel hQ.lt;exact⟨_,_,_,[],_,q',hW',trodAll_mk1 (shut_bool Tryz.underlying4 _),(trodAll_cons_mk (Below.trod CU (by kernel_rfl) (of_decide_eq_true (by kernel_rfl)) k0 bel lt0) trodAll_mk0),hv',bel.frame _,fun h=>by cases h⟩
theorem laid_met(os:Os):laidMet Tryz.prog Rows.fnScoreLongerRow.laid ((Bg os).forCall (fun _ _=>0) ⟨#[],#[.slice none 0 0],[]⟩).memory :=
 laidMet_of_run' 8 (by kernel_rfl) (by kernel_rfl)
theorem reads(os:Os){H:Type}(enc:TypeId × Value->H):∃ places,DataW.whole enc Tryz.prog ((Bg os).forCall (fun _ _=>0) ⟨#[],#[.slice none 0 0],[]⟩).memory Tryz.f7.params.toList Rows.fnScoreLongerSpec.vars false (#[.slice none 0 0]:Array Value).toList 8=some ([.nil],[DT],places) :=
 ⟨MemPlace.row ⟨0,0,none⟩ 8,by kernel_rfl⟩
theorem lifted(os:Os)(started:os.Started)(H:Type)(enc:TypeId × Value->H) :
 ReturnsInLeavingWide {} Tryz.checked os 7 .any ((OpenSpec.ofChange Rows.fnScoreLongerSpec).preRow enc Tryz.prog Tryz.f7 Rows.fnScoreLongerRow.domain false Rows.fnScoreLongerRow.laid) (Rows.fnScoreLongerSpec.post enc Tryz.prog Tryz.f7 false true false false):=by
 obtain⟨places,hx⟩:=reads os enc;refine returnsInLeavingWide_of_good (C:=Tryz.checked) N3 started
  (witness_row_at (enc:=enc) (C:=Tryz.checked) (s:=OpenSpec.ofChange Rows.fnScoreLongerSpec) false (Bg os) #[.slice none 0 0] rfl (by kernel_rfl) (by kernel_rfl) (by kernel_rfl)
   (OpenSpec.preRow_of_cond 8 hx (by kernel_rfl) (fun k hk=>by cases hk) (by kernel_rfl) (laid_met os))) ?_
 intro w tape i _ LP _ hok hpre _;obtain⟨_,_,_,fn',hfn',_,_,_,_,hval⟩:=hok;have e:fn'=Tryz.f7:=Option.some.inj (hfn'.symm.trans Tryz.func7);subst e;obtain⟨⟨hp,hl⟩,_⟩:=hpre;obtain⟨ds,gs,before,hw,_,_⟩:=OpenSpec.pre_parts hp;have hw':=DataW.Whole.of_heap (w':=w.forCall tape i) (by rfl) hw;obtain⟨M,last,o,w',t',h1,h2,h3,h4⟩:=runs H enc (w.forCall tape i) w.heap.size i.args ds gs before hval hw' (hl.of_heap (by rfl)) LP;exact⟨M,last,o,w',t',h1,h2,h3,h4.mono fun v hp=>ChangeSpec.post_blind hp⟩
theorem said:Rows.FnScoreLongerSaid :=
 OpenClaim.holds_of_wide_leaving 7 Tryz.f7 rfl rfl rfl rfl rfl rfl rfl ⟨rfl,rfl,rfl,rfl,rfl⟩ rfl rfl rfl rfl rfl (by kernel_rfl) Tryz.func7 closed
  (of_decide_eq_true (by kernel_rfl)) (by unfold Func.isWrapper; first | (rw[if_pos (by decide +kernel)]; kernel_rfl) | (rw[if_neg (by decide +kernel)]; exact⟨rfl,rfl⟩))
  (fun os started H enc _=>by rw[OpenClaim.pre_eq_preRow]; exact lifted os started H enc)
theorem plain(f:FuncId)(fn:Func)(hf:Tryz.pinned.checked.prog.funcNamed "loop.example/replayverifier/laws.FnScoreLonger" = some f)(hfn:Tryz.pinned.checked.prog.funcs[f]?=some fn) :
 true=Tryz.pinned.checked.prog.looks []/\∀(j:Nat) t,fn.params[j]?=some t->Tryz.pinned.checked.prog.wantsStandIn t=false:=by
 obtain rfl:f=7:=Option.some.inj ((show Tryz.prog.funcNamed "loop.example/replayverifier/laws.FnScoreLonger" = some 7 by kernel_rfl).symm.trans hf) |>.symm;obtain rfl:fn=Tryz.f7:=(Option.some.inj (Tryz.func7.symm.trans hfn)).symm;refine⟨by kernel_rfl,fun j t ht=>?_⟩;rw[Tryz.params7] at ht;obtain rfl:t=22:=by simpa using Array.mem_of_getElem? ht
 exact(show Tryz.prog.wantsStandIn 22=false by kernel_rfl)
theorem proved:Rows.FnScoreLongerCardSaid :=
 BN .later _ _ _ _ said (by kernel_rfl) fnScoreLonger_row_tie rfl ⟨rfl,rfl⟩ mainIs rfl plain (by kernel_rfl)
#print axioms proved
end Go.Proofs.YtaemcekcancpdaaGreatDoor.fnScoreLonger
