import Derived.Test.YtkpogcflgghfiaaDoorRows
import Derived.Test.YtkpogcflgghfiaaDoorZVecDir
import Derived.Lib.LaidU8
import Derived.ChangeVars
import Derived.WalkSmall
import Derived.Carry
import Derived.Test.YtkpogcflgghfiaaDoorZRunB
import Derived.Test.YtkpogcflgghfiaaDoorCards
import Derived.Test.YtkpogcflgghfiaaDoorTie
import Derived.Test.YtkpogcflgghfiaaDoorZHead
import Derived.WalkKit
import Derived.ProofKit
import Derived.OpenShut
import Derived.ShutString
import Derived.ChangeOld
import Derived.Below
import Derived.Lib.SmallJoins
import Derived.Deep.DeepHandedRow
import Derived.Conc.LeavingOf
import Derived.SevenTiedAt
set_option linter.all false
set_option maxRecDepth 100000
set_option maxHeartbeats 8000000
namespace Go.Proofs.YtkpogcflgghfiaaDoor
open Go.ChangeShapes Go.RowKit
theorem gQ:Tryd.prog.globalNamed "loop.example/replayverifier/impl.firstQuarter" = some 0:=by kernel_rfl
theorem gQType:(Tryd.prog.globals[0]?).map (·.type)=some 136:=by kernel_rfl
theorem PN:Tryd.prog.cellsOf 24=2:=by kernel_rfl
theorem PO:Tryd.prog.cellsOf 3=1:=by kernel_rfl
theorem DU:laidOutB Tryd.prog=true:=by kernel_rfl
theorem Ro:ownKnob Tryd.prog.godebug=none:=by kernel_rfl
theorem G8 {W:World} {cs:Array Value} {fuel:Nat} {ds:List (DataW Unit)} {p:List MemPlace} (hd:DataW.trod (fun _=>()) Tryd.prog W 0 (fun _=>true) false fuel 136 cs.toList=some (.agg ds,p)) (i:Nat) (hi:i<4) (x y:Int)
 (he:ds[i]?=some (.agg [.lit (.int .i64 x),.lit (.int .i64 y)])):cs[i*2]?=some (.int .i64 x)∧cs[i*2+1]?=some (.int .i64 y):=by
 obtain ⟨fuel',d,q,h1,h2⟩:=Lib.array_elem Tryd.underlying136 hd i hi;rw [PN] at h2;obtain rfl:d=.agg ([x,y].map fun z=>.lit (.int .i64 z)):=Option.some.inj (h1.symm.trans he);have h3:=Lib.ints_of_struct Tryd.underlying24 (fun j f hf=>by
  rcases j with _ | _ | j
  · simp at hf; subst hf; exact ⟨Tryd.underlying3,rfl,PO⟩
  · simp at hf; subst hf; exact ⟨Tryd.underlying3,rfl,PO⟩
  · simp at hf) PN h2
 have e0:=congrArg (·[0]?) h3;have e1:=congrArg (·[1]?) h3;simp [List.getElem?_take,List.getElem?_drop] at e0 e1;exact ⟨e0,e1⟩
theorem Ee {W:World} (h:laidMetH Tryd.prog [("loop.example/replayverifier/impl.firstQuarter",Rows.laid_loop_example_replayverifier_impl_firstQuarter)] W):Quarter W:=by
 obtain ⟨g,t,cs,fuel,p,hg,ht,hvar,hd⟩:=Lib.laidMet.reads (show laidMet Tryd.prog [("loop.example/replayverifier/impl.firstQuarter",Rows.laid_loop_example_replayverifier_impl_firstQuarter)] W from h) (.head _);obtain rfl:=Option.some.inj (gQ.symm.trans hg);obtain rfl:=Option.some.inj (gQType.symm.trans ht);unfold Rows.laid_loop_example_replayverifier_impl_firstQuarter at hd;obtain ⟨a0,b0⟩:=G8 hd 0 (by decide) 1000 0 rfl;obtain ⟨a1,b1⟩:=G8 hd 1 (by decide) 924 383 rfl;obtain ⟨a2,b2⟩:=G8 hd 2 (by decide) 707 707 rfl;obtain ⟨a3,b3⟩:=G8 hd 3 (by decide) 383 924 rfl
 refine ⟨(World.var?_cell hg hvar 0).trans a0,(World.var?_cell hg hvar 1).trans b0,(World.var?_cell hg hvar 2).trans a1,(World.var?_cell hg hvar 3).trans b1,(World.var?_cell hg hvar 4).trans a2,(World.var?_cell hg hvar 5).trans b2,(World.var?_cell hg hvar 6).trans a3,(World.var?_cell hg hvar 7).trans b3,?_⟩;rcases Nat.lt_or_ge 0 W.heap.size with k | k
 · exact k
 · have c:=(World.var?_cell hg hvar 0).trans a0;simp [World.cell?,Array.getElem?_eq_none k] at c
theorem var_stays {H:Type} {enc:TypeId × Value→H} {W W':World} {gs:List (DataW H)} {q:List MemPlace} (hV:DataW.TrodVars enc Tryd.prog W (fun _=>true) ["loop.example/replayverifier/impl.firstQuarter"] gs q) (hb:Below W.heap.size W W') (h0:0<W.heap.size) :
 ∃ d q',gs=[d]∧DataW.TrodVars enc Tryd.prog W' (fun b=>decide (b<W.heap.size)) ["loop.example/replayverifier/impl.firstQuarter"] [d] q':=by
 obtain ⟨g,t,cs,fuel,d,p,rfl,hg,ht,hvar,hd,rfl⟩:=trodVars_one hV;obtain rfl:=Option.some.inj (gQ.symm.trans hg);obtain rfl:=Option.some.inj (gQType.symm.trans ht);obtain ⟨fuel',hd'⟩:=Below.trod (v:=.agg cs) DU (by kernel_rfl) (of_decide_eq_true (by kernel_rfl)) ⟨fuel,hd⟩ hb (fun x hx=>DataW.trod_lt fuel _ _ _ hd x hx);exact ⟨d,_,rfl,trodVars_mk1 gQ gQType (var?_below hb gQ h0 hvar) hd'⟩
def JF:Array Value:=#[.int .i64 1000,.int .i64 0,.int .i64 924,.int .i64 383,.int .i64 707,.int .i64 707,.int .i64 383,.int .i64 924]
abbrev FQ {H:Type}:DataW H:=.agg [.agg [.lit (.int .i64 1000),.lit (.int .i64 0)],.agg [.lit (.int .i64 924),.lit (.int .i64 383)],.agg [.lit (.int .i64 707),.lit (.int .i64 707)],.agg [.lit (.int .i64 383),.lit (.int .i64 924)]]
noncomputable def BJ (os:Os):World :=
 { World.holding Tryd.prog os ⟨#[],#[],[]⟩ with heap:=(World.holding Tryd.prog os ⟨#[],#[],[]⟩).heap.modify 0 fun
  | .cells _ t frozen=>.cells JF t frozen
  | o=>o }
end Go.Proofs.YtkpogcflgghfiaaDoor
namespace Go.Proofs.YtkpogcflgghfiaaDoor
open Go.RowKit
open M
open Ren
open Go.Conc
theorem Rp {K:Ren.Good} {r:Rho} {L:Lv} {v':Value} (h:VR K r L.val v'):∃ A' G',v'=Lv.val { L with A:=A',G:=G' }∧(L.A=none∧A'=none∨∃ a a',L.A=some a∧A'=some a'∧AR r a a')∧(L.G=none∧G'=none∨∃ a a',L.G=some a∧G'=some a'∧AR r a a'):=by
 cases h with
 | @agg _ b ha ka =>
  have get:∀ (i:Nat) (x:Value),(#[.int .i64 L.i,.int .i64 L.t,.int .i64 L.x,.int .i64 L.y,.slice L.A L.n L.c,.slice L.G L.m L.kk,.int .i64 L.fp,.int .i64 L.fq,.int .i64 L.fs,.int .i64 L.fz,.int .i64 L.b]:Array Value)[i]?=some x→∃ y,b[i]?=some y∧VR K r x y:=fun i x hx=>ArrR.get? ⟨ha,ka⟩ hx;have geti:∀ (i:Nat) (z:Int),(#[.int .i64 L.i,.int .i64 L.t,.int .i64 L.x,.int .i64 L.y,.slice L.A L.n L.c,.slice L.G L.m L.kk,.int .i64 L.fp,.int .i64 L.fq,.int .i64 L.fs,.int .i64 L.fz,.int .i64 L.b]:Array Value)[i]?=some (.int .i64 z)→b[i]?=some (.int .i64 z):=fun i z hx=>by
   obtain ⟨y,h1,h2⟩:=get i _ hx;rw [h1,(Plain.int .i64 z).eq h2]
  obtain ⟨y4,e4,h4⟩:=get 4 _ rfl;obtain ⟨y5,e5,h5⟩:=get 5 _ rfl;obtain ⟨A',rfl,hA⟩:=Ed h4;obtain ⟨G',rfl,hG⟩:=Ed h5;refine ⟨A',G',?_,hA,hG⟩;have hs:b.size=11:=ha.symm;congr 1;apply Array.ext_getElem?;intro i;have e0:=geti 0 L.i rfl;have e1:=geti 1 L.t rfl;have e2:=geti 2 L.x rfl;have e3:=geti 3 L.y rfl;have e6:=geti 6 L.fp rfl;have e7:=geti 7 L.fq rfl;have e8:=geti 8 L.fs rfl;have e9:=geti 9 L.fz rfl;have e10:=geti 10 L.b rfl;rcases i with _ | _ | _ | _ | _ | _ | _ | _ | _ | _ | _ | i
  · exact e0
  · exact e1
  · exact e2
  · exact e3
  · exact e4
  · exact e5
  · exact e6
  · exact e7
  · exact e8
  · exact e9
  · exact e10
  · rw [Array.getElem?_eq_none (by omega),Array.getElem?_eq_none (by simp)]
section
variable {N:Nat} {R:Rho} {B:Nat→Option Obj} {Q:Array Value→World→Prop} {T:Array Value} {O:Nat→Prop} {w W:World} {G:Goroutine→World→Prop}
structure Ready (L:Lv) (A:Option Addr) (n cap:Nat) (xs:List In) (u:World):Prop where
 lv:L.At u
 ins:Inputs u A n xs
 cel:Cel u A
 small:n≤281474976710656
 room:n≤cap
 quarter:Quarter u
theorem Ren.Sit.runTo (h:Sit XR gR N R (fun _=>False) B Q T O w) (hG:XR.G≤N) {f:FuncId} {ops:Array Oper} {i:Nat} {l:List Nat} {k:List Item} {o:Oper} {a b d:Nat} {z:Operand} {ats:Array TypeId} {L:Lv} {A:Option Addr} {n cap:Nat} {xs:List In} {k0:Int} {cs:List Frame}
 (ho:ops[i]?=some o) (hg:o.guard=none) (hd:o.dst=some d) (hop:o.op=.call { callee:=.value (.func fT),args:=#[.tmp a,.tmp b,z],argTypes:=ats })
 (hz:(⟨T,[]⟩:Act).eval z=.int .i64 k0) (hq:∀ T u,Q T u→(T.getD a undef=L.val∧T.getD b undef=.slice A n cap)∧Ready L A n cap xs u)
 (kk:∀ B2 w2,(∀ j,j<N→B2 j=B j)→Sit XR gR N R (fun _=>False) B2 (fun T u=>∃ T0,Q T0 u∧T=Ch T0 (some d) (L.ans xs n k0)) (Ch T (some d) (L.ans xs n k0)) O w2 →
  Co PP true (Lt N) (MO PP W G) O (Bp (F f (Ch T (some d) (L.ans xs n k0)) (.inRegion ops l::k)) cs) w2) :
 Co PP true (Lt N) (MO PP W G) O (Bp (F f T (.inRegion ops (i::l)::k)) cs) w:=by
 refine h.ctl rfl (fun w1=>PF (fn:=Tryd.f8) (c:=tB) ho hg hop Dt rfl rfl) ?_;refine .stop fun w1 hk al=>?_;have h1:=h.keep hk;obtain ⟨r,T0,u,ok,hR,wr,hQ,gl,_,arr⟩:=h1.look 0;obtain ⟨⟨ea,eb⟩,rd⟩:=hq T0 u hQ;have hu:VR XR.L r undef undef:=.tuple rfl fun i x y h=>by simp at h
 have va:=arr.getD a hu;have vb:=arr.getD b hu;rw [ea] at va;rw [eb] at vb;obtain ⟨A1,G1,e1,hA1,hG1⟩:=Rp va;obtain ⟨A2,e2,hA2⟩:=Ed vb;have Q1:Quarter w1:=rd.quarter.over wr (gl 0 rfl);have L1:Lv.At { L with A:=A1,G:=G1 } w1:=⟨rd.lv.I.over wr hA1,rd.lv.J.over wr hG1,rd.lv.n,rd.lv.m,rd.lv.ca.over wr hA1,rd.lv.cg.over wr hG1⟩;have em:(#[Operand.tmp a,Operand.tmp b,z].map (⟨T,[]⟩:Act).eval)=#[T.getD a undef,T.getD b undef,.int .i64 k0]:=by
  rw [List.map_toArray]
  show #[T.getD a undef,T.getD b undef,(⟨T,[]⟩:Act).eval z]=_
  rw [hz]
 rw [em,e1,e2];refine Rn (L:={ L with A:=A1,G:=G1 }) (A:=A2) (xs:=xs) (W:=w1) Q1 L1 (rd.ins.over wr hA2) (rd.cel.over wr hA2) rd.small rd.room (Nat.le_trans hG h1.top) fun w2 lo=>?_;rw [show Lv.ans { L with A:=A1,G:=G1 } xs n k0=L.ans xs n k0 from rfl,KN (l:=l) _ ho,hd];have al2:Ren.Alike W w2:=al.trans ⟨lo.os,lo.tape,lo.output⟩
 have h2:=h1.resume (w2:=w2) (O2:=O) (Nat.le_trans hG (Nat.le_trans h1.top lo.size)) (Nat.le_trans h1.top lo.size) (fun j hj=>lo.block j (hj.elim (h1.lt j) fun h=>Nat.lt_of_lt_of_le h h1.top)) (fun j hj=>hj) (fun j hj=>⟨h1.ge j hj,Nat.lt_of_lt_of_le (h1.lt j hj) lo.size⟩) (K2:=fun _=>False) (fun j hj=>hj.elim);refine Ren.Way.of_co (W:=W) (RO:=Lt N) (O:=O) ?_ al2 (fun j hj=>Nat.lt_of_lt_of_le hj h2.top);refine kk _ w2 (fun j hj=>(lo.block j (Nat.lt_of_lt_of_le hj h1.top)).trans (h1.base j (.inr hj))) ?_;exact h2.put (Ez _ _) (some d) fun T u x=>⟨T,x,rfl⟩
theorem SR {f:FuncId} {fn:Func} {T:Array Value} {k:List Item} {t:Nat} {v:Value} {w:World} (hf:PP.funcs[f]?=some fn) (hi:PP.inits.idxOf? f=none) (hr:fn.results=#[.tmp t]) (hv:T.getD t undef=v):stepG PP true (Bp { F f T k with mode:=.returning } []) w=.ended (.done v) w #[]:=by
 have e1:(results fn T).run PP w=.ok v w:=by rw [results_tmp hr,hv]
 have e2:(results fn T).events PP w #[]=#[]:=events_results_tmp hr _ _;have e3:(results fn T).runT PP w #[]=(.ok v w,#[]):=by rw [Sem.runT_eq,e1,e2]
 have e4:seen PP f #[]=#[]:=by simp [seen]
 simp only [stepG,unwind,doReturn,hf,e3,hi,e4];rfl
abbrev PQ (W:World):Goroutine→World→Prop:=fun a w=>∀ d,AtEnd PP (fun _=>False) w.heap.size (fun v w'=>v=.bool true∧Below W.heap.size W w') a (w.at d)
theorem Ren.Sit.done {f:FuncId} {fn:Func} {k:List Item} {t:Nat} (h:Sit XR gR W.heap.size R (fun _=>False) B Q T O w) (hB:∀ j,j<W.heap.size→B j=W.heap[j]?) (hf:PP.funcs[f]?=some fn) (hi:PP.inits.idxOf? f=none) (hr:fn.results=#[.tmp t]) (hv:∀ T u,Q T u→T.getD t undef=.bool true) :
 Co PP true (Lt W.heap.size) (MO PP W (PQ W)) O (Bp { F f T k with mode:=.returning } []) w :=
 .stop fun w1 hk al=>.now fun d=>by
  have h1:=h.keep hk;have b:=Ik al h1 hB;exact ⟨rfl,.bool true,#[],SR hf hi hr (h1.slot (.bool true) hv),by simp,rfl,⟨b.os,b.tape,b.output,b.size,b.block⟩⟩
end
end Go.Proofs.YtkpogcflgghfiaaDoor
namespace Go.Proofs.YtkpogcflgghfiaaDoor
open Go.RowKit
theorem Cl (Lk:Looks) {p:Pinned} {s:OpenSpec} {c:OpenClaim} (kinds:List LaidKind) (tests:Bool) (har:Bool × String) (lk:Bool)
 (hc:c.holds p s) (hw:c.wfByText s=true) (htie:c.laidByTextAt Lk p kinds tests)
 (hst:c.start=.entering) (hnb:c.noBlocks=false∧c.again=false) (hm:p.checked.prog.mainIs=some (har.1,har.2.toList)) (hn:(!har.1&&har.2.isEmpty&&!lk)=false)
 (hl:∀ f fn,p.checked.prog.funcNamed c.func=some f→p.checked.prog.funcs[f]?=some fn→lk=p.checked.prog.looks []∧∀ (j:Nat) t,fn.params[j]?=some t→p.checked.prog.wantsStandIn t=false)
 (hg:true=c.goesBy p.checked.prog) :
 Claim7.holds p (.plain s) { stood:={ row:=c,standIns:=[],harness:=har,looks:=lk },kinds:=[],alts:=[],goes:=true,laidByText:=true,laidKinds:=kinds,laidTests:=tests,laidLooks:=Lk }:=by
 have h6:∀ r:OpenClaim,Claim7.isSixth { stood:={ row:=r,standIns:=[],harness:=har,looks:=lk },kinds:=[] }=false:=fun r=>by simpa [Claim7.isSixth] using hn
 exact ⟨Claim7.tied_new_at Lk kinds tests (Claim7.new_of_sixth hc har lk hst hnb hm (h6 c) hl) hw,(fun D hD=>by cases hD),htie,(fun h=>by cases h),hg⟩
theorem Il {W:World} {base:Nat} {a:Option Addr} {len cap:Nat} (h:Value.okWide Tryd.prog W .any base 22 (.slice a len cap)):Cel W a:=by
 intro x hx;subst hx;simp only [Value.okWide,Tryd.underlying22,Cell.okWide,Cell.ok,World.has] at h;obtain ⟨_,_,_,h1,row,cells,h2,_⟩:=h;refine ⟨h1,?_⟩;unfold World.shape? at h2;split at h2
 · exact ⟨_,_,_,‹_›⟩
 · cases h2
theorem FR:Nat.ble (Tryd.prog.globals.size+1) (begin Tryd.prog (fun _ _=>0) default).world.heap.size=true:=by kernel_rfl
theorem Ef {W:World} (h:W.ShapedOpen Tryd.prog):XR.G≤W.heap.size:=by
 have h0:Tryd.prog.globals.size<(begin Tryd.prog (fun _ _=>0) default).world.heap.size:=Nat.le_of_ble_eq_true FR;obtain ⟨o,_,h1,_⟩:=h.2 Tryd.prog.globals.size (Nat.le_refl _) h0;exact Nat.le_of_lt (Array.getElem?_eq_some_iff.1 h1).1
end Go.Proofs.YtkpogcflgghfiaaDoor
