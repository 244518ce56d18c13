import Derived.Test.YtgbiagonfbnooaaDoorRows
import Derived.Test.YtgbiagonfbnooaaDoorZTabs
import Derived.Lib.LaidU8
import Derived.Lib.LaidTab
import Derived.ChangeVars
import Derived.ChangeArms
import Derived.Carry
import Derived.LaidMore
set_option linter.all false
set_option maxRecDepth 100000
set_option maxHeartbeats 8000000
namespace Go.Proofs.YtgbiagonfbnooaaDoor
open Go.ChangeShapes Go.WideShapes Go.RowKit
open M
theorem gW:Tryd.prog.globalNamed "loop.example/replayverifier/impl.lineWords" = some 0:=by kernel_rfl
theorem gWType:(Tryd.prog.globals[0]?).map (·.type)=some 43:=by kernel_rfl
theorem gPType:(Tryd.prog.globals[1]?).map (·.type)=some 185:=by kernel_rfl
theorem JC:Tryd.prog.cellsOf 9=1:=by kernel_rfl
theorem JD:Tryd.prog.cellsOf 162=1:=by kernel_rfl
theorem KD:Tryd.prog.cellsOf 185=20:=by kernel_rfl
theorem Eb:laidOutB Tryd.prog=true:=by kernel_rfl
theorem LR:ownKnob Tryd.prog.godebug=none:=by kernel_rfl
theorem Dq{W:World}{cs:Array Value}{fuel:Nat}{ds:List (DataW Unit)}{p:List MemPlace}(hd:DataW.trod (fun _=>()) Tryd.prog W 0 (fun _=>true) false fuel 43 cs.toList=some (.agg ds,p))(i:Nat)(hi:i<4)(s:Tx)
 (he:ds[i]?=some (.lit (.string s))):cs[i]?=some (.string (str s)):=by
 obtain⟨fuel',d,q,h1,h2⟩:=Lib.array_elem Tryd.underlying43 hd i hi;rw[JC] at h2;obtain rfl:d=.lit (.string s):=Option.some.inj (h1.symm.trans he);obtain⟨z,hz,hx,_⟩:=DataW.trod_string Tryd.underlying9 h2;simp only[Prod.mk.injEq,DataW.lit.injEq,Lit.string.injEq] at hx;have e:=congrArg (·[0]?) hz;simp[List.getElem?_take,List.getElem?_drop] at e;rw[e];congr 2;obtain⟨l⟩:=z;simp only at hx;obtain⟨l⟩:=l;have:=hx.1;simp at this;subst this;rfl
theorem G4{W:World}{l:List (String × DataW Unit)}(h:laidMet Tryd.prog l W)(h1:("loop.example/replayverifier/impl.lineWords",Rows.laid_loop_example_replayverifier_impl_lineWords)∈l)(h2:("internal/strconv.uint64pow10",Rows.laid_internal_strconv_uint64pow10)∈l):Tabs W:=by
 obtain⟨g,t,cs,fuel,p,hg,ht,hvar,hd⟩:=Lib.laidMet.reads h h1;obtain rfl:=Option.some.inj (gW.symm.trans hg);obtain rfl:=Option.some.inj (gWType.symm.trans ht);obtain⟨g2,t2,cs2,fuel2,p2,hg2,ht2,hvar2,hd2⟩:=Lib.laidMet.reads h h2;obtain rfl:=Option.some.inj (gPow.symm.trans hg2);obtain rfl:=Option.some.inj (gPType.symm.trans ht2);unfold Rows.laid_loop_example_replayverifier_impl_lineWords at hd;have hd2:DataW.trod (fun _=>()) Tryd.prog W 0 (fun _=>true) false fuel2 185 cs2.toList=some (Lib.tabData .u64 Lib.pow10Tab,p2):=by rw[hd2]; kernel_rfl
 have hp:Lib.TabIs Tryd.prog W "internal/strconv.uint64pow10" .u64 Lib.pow10Tab:=by
  unfold Lib.TabIs;rw[hvar2,<- Lib.cells_of_tab Tryd.underlying185 Tryd.underlying162 JD KD hd2]
 refine⟨hp,?_,(World.var?_cell hg hvar 0).trans (Dq hd 0 (by decide) kR rfl),(World.var?_cell hg hvar 1).trans (Dq hd 1 (by decide) kI rfl),(World.var?_cell hg hvar 2).trans (Dq hd 2 (by decide) kH rfl),(World.var?_cell hg hvar 3).trans (Dq hd 3 (by decide) kT rfl)⟩;have c:=hp.cell gPow 0 (by decide);rcases Nat.lt_or_ge 1 W.heap.size with k | k
 . exact k
 . simp[World.cell?,Array.getElem?_eq_none k] at c
theorem Ec{H:Type}{enc:TypeId × Value->H}{W W':World}{gs:List (DataW H)}{q:List MemPlace}(hV:DataW.TrodVars enc Tryd.prog W (fun _=>true) ["loop.example/replayverifier/impl.lineWords"] gs q)(hb:Below W.heap.size W W')(T:Tabs W) :
 ∃ d q',gs=[d]/\DataW.TrodVars enc Tryd.prog W' (fun b=>decide (b<W.heap.size)) ["loop.example/replayverifier/impl.lineWords"] [d] q':=by
 obtain⟨g,t,cs,fuel,d,p,rfl,hg,ht,hvar,hd,rfl⟩:=trodVars_one hV;obtain rfl:=Option.some.inj (gW.symm.trans hg);obtain rfl:=Option.some.inj (gWType.symm.trans ht);have h0:0<W.heap.size:=Lib.lt_of_cell T.l0;obtain⟨fuel',hd'⟩:=Below.trod (v:=.agg cs) Eb (by kernel_rfl) (of_decide_eq_true (by kernel_rfl)) ⟨fuel,hd⟩ hb (fun x hx=>DataW.trod_lt fuel _ _ _ hd x hx);exact⟨d,_,rfl,trodVars_mk1 gW gWType (var?_below hb gW h0 hvar) hd'⟩
noncomputable abbrev Bc(os:Os):World:=World.doorLaid Tryd.prog 180 os
abbrev JE{H:Type}:DataW H:=.agg [.lit (.string [114,101,112,108,97,121]),.lit (.string [105,110,112,117,116,115]),.lit (.string [104,97,115,104,101,115]),.lit (.string [116,97,103])]
end Go.Proofs.YtgbiagonfbnooaaDoor
