import Derived.Test.YtaemcekcancpdaaGreatDoorRows
import Derived.Test.YtaemcekcancpdaaGreatDoorZVecDir
import Derived.Lib.LaidU8
import Derived.ChangeVars
import Derived.WalkSmall
import Derived.Carry
set_option linter.all false
set_option maxRecDepth 100000
set_option maxHeartbeats 8000000
namespace Go.Proofs.YtaemcekcancpdaaGreatDoor
open Go.ChangeShapes Go.RowKit
theorem gQ:Tryz.prog.globalNamed "loop.example/replayverifier/impl.firstQuarter" = some 0:=by kernel_rfl
theorem gQType:(Tryz.prog.globals[0]?).map (·.type)=some 142:=by kernel_rfl
theorem PM:Tryz.prog.cellsOf 24=2:=by kernel_rfl
theorem PN:Tryz.prog.cellsOf 3=1:=by kernel_rfl
theorem CU:laidOutB Tryz.prog=true:=by kernel_rfl
theorem N3:ownKnob Tryz.prog.godebug=none:=by kernel_rfl
theorem Ht{W:World}{cs:Array Value}{fuel:Nat}{ds:List (DataW Unit)}{p:List MemPlace}(hd:DataW.trod (fun _=>()) Tryz.prog W 0 (fun _=>true) false fuel 142 cs.toList=some (.agg ds,p))(i:Nat)(hi:i<4)(x y:Int)
 (he:ds[i]?=some (.agg [.lit (.int .i64 x),.lit (.int .i64 y)])):cs[i*2]?=some (.int .i64 x)/\cs[i*2+1]?=some (.int .i64 y):=by
 obtain⟨fuel',d,q,h1,h2⟩:=Lib.array_elem Tryz.underlying142 hd i hi;rw[PM] at h2;obtain rfl:d=.agg ([x,y].map fun z=>.lit (.int .i64 z)):=Option.some.inj (h1.symm.trans he);have h3:=Lib.ints_of_struct Tryz.underlying24 (fun j f hf=>by
  rcases j with _ | _ | j
  . simp at hf; subst hf; exact⟨Tryz.underlying3,rfl,PN⟩
  . simp at hf; subst hf; exact⟨Tryz.underlying3,rfl,PN⟩
  . simp at hf) PM h2
 have e0:=congrArg (·[0]?) h3;have e1:=congrArg (·[1]?) h3;simp[List.getElem?_take,List.getElem?_drop] at e0 e1;exact⟨e0,e1⟩
theorem CL{W:World}(h:laidMetH Tryz.prog [("loop.example/replayverifier/impl.firstQuarter",Rows.laid_loop_example_replayverifier_impl_firstQuarter)] W):Quarter W:=by
 obtain⟨g,t,cs,fuel,p,hg,ht,hvar,hd⟩:=Lib.laidMet.reads (show laidMet Tryz.prog [("loop.example/replayverifier/impl.firstQuarter",Rows.laid_loop_example_replayverifier_impl_firstQuarter)] W from h) (.head _);obtain rfl:=Option.some.inj (gQ.symm.trans hg);obtain rfl:=Option.some.inj (gQType.symm.trans ht);unfold Rows.laid_loop_example_replayverifier_impl_firstQuarter at hd;obtain⟨a0,b0⟩:=Ht hd 0 (by decide) 1000 0 rfl;obtain⟨a1,b1⟩:=Ht hd 1 (by decide) 924 383 rfl;obtain⟨a2,b2⟩:=Ht hd 2 (by decide) 707 707 rfl;obtain⟨a3,b3⟩:=Ht hd 3 (by decide) 383 924 rfl
 refine⟨(World.var?_cell hg hvar 0).trans a0,(World.var?_cell hg hvar 1).trans b0,(World.var?_cell hg hvar 2).trans a1,(World.var?_cell hg hvar 3).trans b1,(World.var?_cell hg hvar 4).trans a2,(World.var?_cell hg hvar 5).trans b2,(World.var?_cell hg hvar 6).trans a3,(World.var?_cell hg hvar 7).trans b3,?_⟩;rcases Nat.lt_or_ge 0 W.heap.size with k | k
 . exact k
 . have c:=(World.var?_cell hg hvar 0).trans a0;simp[World.cell?,Array.getElem?_eq_none k] at c
theorem var_stays{H:Type}{enc:TypeId × Value->H}{W W':World}{gs:List (DataW H)}{q:List MemPlace}(hV:DataW.TrodVars enc Tryz.prog W (fun _=>true) ["loop.example/replayverifier/impl.firstQuarter"] gs q)(hb:Below W.heap.size W W')(h0:0<W.heap.size) :
 ∃ d q',gs=[d]/\DataW.TrodVars enc Tryz.prog W' (fun b=>decide (b<W.heap.size)) ["loop.example/replayverifier/impl.firstQuarter"] [d] q':=by
 obtain⟨g,t,cs,fuel,d,p,rfl,hg,ht,hvar,hd,rfl⟩:=trodVars_one hV;obtain rfl:=Option.some.inj (gQ.symm.trans hg);obtain rfl:=Option.some.inj (gQType.symm.trans ht);obtain⟨fuel',hd'⟩:=Below.trod (v:=.agg cs) CU (by kernel_rfl) (of_decide_eq_true (by kernel_rfl)) ⟨fuel,hd⟩ hb (fun x hx=>DataW.trod_lt fuel _ _ _ hd x hx);exact⟨d,_,rfl,trodVars_mk1 gQ gQType (var?_below hb gQ h0 hvar) hd'⟩
def JS:Array Value:=#[.int .i64 1000,.int .i64 0,.int .i64 924,.int .i64 383,.int .i64 707,.int .i64 707,.int .i64 383,.int .i64 924]
abbrev DT{H:Type}:DataW H:=.agg [.agg [.lit (.int .i64 1000),.lit (.int .i64 0)],.agg [.lit (.int .i64 924),.lit (.int .i64 383)],.agg [.lit (.int .i64 707),.lit (.int .i64 707)],.agg [.lit (.int .i64 383),.lit (.int .i64 924)]]
noncomputable def Bg(os:Os):World :=
 { World.holding Tryz.prog os ⟨#[],#[],[]⟩ with heap:=(World.holding Tryz.prog os ⟨#[],#[],[]⟩).heap.modify 0 fun
  | .cells _ t frozen=>.cells JS t frozen
  | o=>o }
end Go.Proofs.YtaemcekcancpdaaGreatDoor
