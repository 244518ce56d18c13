import Derived.Test.YtgbiagonfbnooaaGreatDoorRows
import Derived.Test.YtgbiagonfbnooaaGreatDoorZTabs
import Derived.Lib.LaidU8
import Derived.Lib.LaidTab
import Derived.ChangeVars
import Derived.ChangeArms
import Derived.Carry
import Derived.LaidMore
import Derived.ChangeSame
import Derived.LaidLaws
import Derived.Stop.ErrReads
import Derived.Shelf.Vars
set_option linter.all false
set_option maxRecDepth 100000
set_option maxHeartbeats 8000000
namespace Go.Proofs.YtgbiagonfbnooaaGreatDoor
open Go.ChangeShapes Go.WideShapes Go.RowKit
open M
theorem gW:Tryz.prog.globalNamed "loop.example/replayverifier/impl.lineWords" = some 0:=by kernel_rfl
theorem gWType:(Tryz.prog.globals[0]?).map (·.type)=some 37:=by kernel_rfl
theorem gPType:(Tryz.prog.globals[1]?).map (·.type)=some 173:=by kernel_rfl
theorem Lj:Tryz.prog.cellsOf 9=1:=by kernel_rfl
theorem Lk:Tryz.prog.cellsOf 150=1:=by kernel_rfl
theorem Mk:Tryz.prog.cellsOf 173=20:=by kernel_rfl
theorem GU:laidOutB Tryz.prog=true:=by kernel_rfl
theorem NZ:ownKnob Tryz.prog.godebug=none:=by kernel_rfl
theorem Ej{W:World}{cs:Array Value}{fuel:Nat}{ds:List (DataW Unit)}{p:List MemPlace}(hd:DataW.trod (fun _=>()) Tryz.prog W 0 (fun _=>true) false fuel 37 cs.toList=some (.agg ds,p))(i:Nat)(hi:i<4)(s:Tx)
 (he:ds[i]?=some (.lit (.string s))):cs[i]?=some (.string (str s)):=by
 obtain⟨fuel',d,q,h1,h2⟩:=Lib.array_elem Tryz.underlying37 hd i hi;rw[Lj] at h2;obtain rfl:d=.lit (.string s):=Option.some.inj (h1.symm.trans he);obtain⟨z,hz,hx,_⟩:=DataW.trod_string Tryz.underlying9 h2;simp only[Prod.mk.injEq,DataW.lit.injEq,Lit.string.injEq] at hx;have e:=congrArg (·[0]?) hz;simp[List.getElem?_take,List.getElem?_drop] at e;rw[e];congr 2;obtain⟨l⟩:=z;simp only at hx;obtain⟨l⟩:=l;have:=hx.1;simp at this;subst this;rfl
theorem Ml{W:World}{l:List (String × DataW Unit)}(h:laidMet Tryz.prog l W)(h1:("loop.example/replayverifier/impl.lineWords",Rows.laid_loop_example_replayverifier_impl_lineWords)∈l)(h2:("internal/strconv.uint64pow10",Rows.laid_internal_strconv_uint64pow10)∈l):Tabs W:=by
 obtain⟨g,t,cs,fuel,p,hg,ht,hvar,hd⟩:=Lib.laidMet.reads h h1;obtain rfl:=Option.some.inj (gW.symm.trans hg);obtain rfl:=Option.some.inj (gWType.symm.trans ht);obtain⟨g2,t2,cs2,fuel2,p2,hg2,ht2,hvar2,hd2⟩:=Lib.laidMet.reads h h2;obtain rfl:=Option.some.inj (gPow.symm.trans hg2);obtain rfl:=Option.some.inj (gPType.symm.trans ht2);unfold Rows.laid_loop_example_replayverifier_impl_lineWords at hd;have hd2:DataW.trod (fun _=>()) Tryz.prog W 0 (fun _=>true) false fuel2 173 cs2.toList=some (Lib.tabData .u64 Lib.pow10Tab,p2):=by rw[hd2]; kernel_rfl
 have hp:Lib.TabIs Tryz.prog W "internal/strconv.uint64pow10" .u64 Lib.pow10Tab:=by
  unfold Lib.TabIs;rw[hvar2,<- Lib.cells_of_tab Tryz.underlying173 Tryz.underlying150 Lk Mk hd2]
 refine⟨hp,?_,(World.var?_cell hg hvar 0).trans (Ej hd 0 (by decide) kR rfl),(World.var?_cell hg hvar 1).trans (Ej hd 1 (by decide) kI rfl),(World.var?_cell hg hvar 2).trans (Ej hd 2 (by decide) kH rfl),(World.var?_cell hg hvar 3).trans (Ej hd 3 (by decide) kT rfl)⟩;have c:=hp.cell gPow 0 (by decide);rcases Nat.lt_or_ge 1 W.heap.size with k | k
 . exact k
 . simp[World.cell?,Array.getElem?_eq_none k] at c
theorem Hx{H:Type}{enc:TypeId × Value->H}{W W':World}{gs:List (DataW H)}{q:List MemPlace}(hV:DataW.TrodVars enc Tryz.prog W (fun _=>true) ["loop.example/replayverifier/impl.lineWords"] gs q)(hb:Below W.heap.size W W')(T:Tabs W) :
 ∃ d q',gs=[d]/\DataW.TrodVars enc Tryz.prog W' (fun b=>decide (b<W.heap.size)) ["loop.example/replayverifier/impl.lineWords"] [d] q':=by
 obtain⟨g,t,cs,fuel,d,p,rfl,hg,ht,hvar,hd,rfl⟩:=trodVars_one hV;obtain rfl:=Option.some.inj (gW.symm.trans hg);obtain rfl:=Option.some.inj (gWType.symm.trans ht);have h0:0<W.heap.size:=Lib.lt_of_cell T.l0;obtain⟨fuel',hd'⟩:=Below.trod (v:=.agg cs) GU (by kernel_rfl) (of_decide_eq_true (by kernel_rfl)) ⟨fuel,hd⟩ hb (fun x hx=>DataW.trod_lt fuel _ _ _ hd x hx);exact⟨d,_,rfl,trodVars_mk1 gW gWType (var?_below hb gW h0 hvar) hd'⟩
abbrev Np{H:Type}:DataW H:=.agg [.lit (.string [114,101,112,108,97,121]),.lit (.string [105,110,112,117,116,115]),.lit (.string [104,97,115,104,101,115]),.lit (.string [116,97,103])]
end Go.Proofs.YtgbiagonfbnooaaGreatDoor
namespace Go.Proofs.YtgbiagonfbnooaaGreatDoor
open Go.ChangeShapes Go.WideShapes Go.RowKit
theorem FD{P:Program}{w:World}:∀{l:List (String × DataW Unit)} {ps:List MemPlace},DataW.LaidVars P w l ps->∀{n:String} {d:DataW Unit},(n,d)∈l ->
 ∃ g t cs fuel p,P.globalNamed n=some g/\(P.globals[g]?).map (·.type)=some t/\w.var? P n=some cs/\DataW.trod (fun _=>()) P w 0 (fun _=>true) false fuel t cs.toList=some (d,p)/\∀ x∈MemPlace.row ⟨g,0,none⟩ cs.size++p,x∈ps
 | [],_,_,n,d,hm=>by cases hm
 | (n',d')::l,ps,h,n,d,hm=>by
  obtain⟨g,t,cs,fuel,p,q,h1,h2,h3,h4,h5,rfl⟩:=h;rcases List.mem_cons.1 hm with e | hm
  . cases e
    exact⟨g,t,cs,fuel,p,h1,h2,h3,h4,fun x hx=>List.mem_append_left _ hx⟩
  . obtain⟨g',t',cs',fuel',p',a,b,c,e,f⟩:=FD h5 hm;exact⟨g',t',cs',fuel',p',a,b,c,e,fun x hx=>List.mem_append_right _ (f x hx)⟩
theorem Mz : "*" ++ "errors.errorString" = "*errors.errorString" := by decide
theorem N2(u:TypeId)(h:Tryz.prog.typeName? 3 u=some "*errors.errorString"):u=202 :=
 typeName_ptr_named (nm := "errors.errorString") (by rw[Mz]; kernel_rfl) (by kernel_rfl) (by decide) u (by rw[Mz]; exact h)
theorem Nq:Tryz.prog.cellsOf 204=1:=by kernel_rfl
theorem Lm:Tryz.prog.cellsOf 9=1:=by kernel_rfl
theorem IB{W:World}{l:List (String × DataW Unit)}(h:laidMet Tryz.prog l W){n:String}{g:Nat}{s:List UInt8}(hm:(n,DataW.iface "*errors.errorString" (.ptr (.agg [.lit (.string s)])))∈l)(hg:Tryz.prog.globalNamed n=some g)(ht:(Tryz.prog.globals[g]?).map (·.type)=some 143):∃ te pe,W.cell? ⟨g,0,none⟩=some (.iface te pe):=by
 obtain⟨ps,hv,_,hrows⟩:=h;obtain⟨g',t,cs,fuel,p,h1,h2,h3,h4,h5⟩:=FD hv hm;obtain rfl:=Option.some.inj (hg.symm.trans h1);obtain rfl:=Option.some.inj (ht.symm.trans h2);obtain⟨l0⟩:=cs;have ok0:∀ u v,l0=[.iface u v]->Value.okWide Tryz.prog W .any 0 u v:=fun u v e=>by
  subst e;exact(hrows g 0 (h5 _ (by simp[MemPlace.row]))).2 u v (by simpa using World.var?_cell hg h3 0)
 obtain⟨a,z,rfl,hc,hs,_,_⟩:=errorString_of_trod Tryz.underlying143 N2 Tryz.underlying202 Tryz.underlying204 rfl rfl Tryz.underlying9 Nq Lm h4 ok0;exact⟨_,_,by simpa using World.var?_cell hg h3 0⟩
theorem Od:Tryz.prog.globalNamed "strconv.ErrSyntax" = some 5:=by kernel_rfl
theorem N3:(Tryz.prog.globals[5]?).map (·.type)=some 143:=by kernel_rfl
theorem Oe:Tryz.prog.globalNamed "strconv.ErrRange" = some 6:=by kernel_rfl
theorem N7:(Tryz.prog.globals[6]?).map (·.type)=some 143:=by kernel_rfl
theorem NT{W:World}(h:W.ShapedOpen Tryz.prog):∃ m,W.cell? ⟨2,0,none⟩=some (.int .i64 m) :=
 Go.Proofs.cell_of_shapedOpen_int (zero:=#[.int .i64 0]) (t:=3) h (of_decide_eq_true (by kernel_rfl)) (by kernel_rfl) rfl (by kernel_rfl) (by kernel_rfl) Tryz.underlying3
theorem Ln{W:World}{l:List (String × DataW Unit)}(h:laidMet Tryz.prog l W)(hS:W.ShapedOpen Tryz.prog)(h1:("loop.example/replayverifier/impl.lineWords",Rows.laid_loop_example_replayverifier_impl_lineWords)∈l)(h2:("internal/strconv.uint64pow10",Rows.laid_internal_strconv_uint64pow10)∈l)(h3:("strconv.ErrSyntax",Rows.laid_strconv_ErrSyntax)∈l)(h4:("strconv.ErrRange",Rows.laid_strconv_ErrRange)∈l):TabsD W :=
 { Ml h h1 h2 with mx:=NT hS,es:=IB h h3 Od N3,er:=IB h h4 Oe N7 }
end Go.Proofs.YtgbiagonfbnooaaGreatDoor
