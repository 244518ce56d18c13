import Derived.Test.YtienbaikhliniaaDoorRows
import Derived.Test.YtienbaikhliniaaDoorZErrs
import Derived.Lib.LaidU8
import Derived.ChangeVars
import Derived.ChangeSame
import Derived.LaidLaws
import Derived.Carry
import Derived.RowKitTokens
import Derived.Stop.ErrReads
import Derived.LaidMore
set_option linter.all false
set_option maxRecDepth 100000
set_option maxHeartbeats 8000000
namespace Go.Proofs.YtienbaikhliniaaDoor
open Go.ChangeShapes Go.WideShapes Go.RowKit
theorem AR{P:Program}{w:World}:∀{l:List (String × DataW Unit)} {ps:List MemPlace},DataW.LaidVars P w l ps->∀{n:String} {d:DataW Unit},(n,d)∈l ->
 ∃ g t cs fuel p,P.globalNamed n=some g/\(P.globals[g]?).map (·.type)=some t/\w.var? P n=some cs/\DataW.trod (fun _=>()) P w 0 (fun _=>true) false fuel t cs.toList=some (d,p)/\∀ x∈MemPlace.row ⟨g,0,none⟩ cs.size++p,x∈ps
 | [],_,_,n,d,hm=>by cases hm
 | (n',d')::l,ps,h,n,d,hm=>by
  obtain⟨g,t,cs,fuel,p,q,h1,h2,h3,h4,h5,rfl⟩:=h;rcases List.mem_cons.1 hm with e | hm
  . cases e
    exact⟨g,t,cs,fuel,p,h1,h2,h3,h4,fun x hx=>List.mem_append_left _ hx⟩
  . obtain⟨g',t',cs',fuel',p',a,b,c,e,f⟩:=AR h5 hm;exact⟨g',t',cs',fuel',p',a,b,c,e,fun x hx=>List.mem_append_right _ (f x hx)⟩
theorem Bf : "*" ++ "errors.errorString" = "*errors.errorString" := by decide
theorem Bm(u:TypeId)(h:Tryd.prog.typeName? 3 u=some "*errors.errorString"):u=39 :=
 typeName_ptr_named (nm := "errors.errorString") (by rw[Bf]; kernel_rfl) (by kernel_rfl) (by decide) u (by rw[Bf]; exact h)
theorem Bg:Tryd.prog.cellsOf 56=1:=by kernel_rfl
theorem Bc:Tryd.prog.cellsOf 9=1:=by kernel_rfl
theorem Ah{W:World}{l:List (String × DataW Unit)}(h:laidMet Tryd.prog l W){n:String}{g:Nat}{s:List UInt8}(hm:(n,DataW.iface "*errors.errorString" (.ptr (.agg [.lit (.string s)])))∈l)(hg:Tryd.prog.globalNamed n=some g)(ht:(Tryd.prog.globals[g]?).map (·.type)=some 31):ErrAt W g s:=by
 obtain⟨ps,hv,_,hrows⟩:=h;obtain⟨g',t,cs,fuel,p,h1,h2,h3,h4,h5⟩:=AR hv hm;obtain rfl:=Option.some.inj (hg.symm.trans h1);obtain rfl:=Option.some.inj (ht.symm.trans h2);obtain⟨l0⟩:=cs;have ok0:∀ u v,l0=[.iface u v]->Value.okWide Tryd.prog W .any 0 u v:=fun u v e=>by
  subst e;exact(hrows g 0 (h5 _ (by simp[MemPlace.row]))).2 u v (by simpa using World.var?_cell hg h3 0)
 obtain⟨a,z,rfl,hc,hs,_,_⟩:=errorString_of_trod Tryd.underlying31 Bm Tryd.underlying39 Tryd.underlying56 rfl rfl Tryd.underlying9 Bg Bc h4 ok0;refine⟨a,by simpa using World.var?_cell hg h3 0,?_⟩;rw[hc];obtain⟨zl⟩:=z;simp at hs;subst hs;simp[AE]
theorem Ax:Tryd.prog.globalNamed "loop.example/replayverifier/impl.errText" = some 0:=by kernel_rfl
theorem Ao:(Tryd.prog.globals[0]?).map (·.type)=some 31:=by kernel_rfl
theorem Ap:Tryd.prog.globalNamed "loop.example/replayverifier/impl.errLevel" = some 1:=by kernel_rfl
theorem Aj:(Tryd.prog.globals[1]?).map (·.type)=some 31:=by kernel_rfl
theorem AF:Tryd.prog.globalNamed "loop.example/replayverifier/impl.errKey" = some 2:=by kernel_rfl
theorem Ay:(Tryd.prog.globals[2]?).map (·.type)=some 31:=by kernel_rfl
theorem AG:Tryd.prog.globalNamed "loop.example/replayverifier/impl.errTag" = some 3:=by kernel_rfl
theorem Az:(Tryd.prog.globals[3]?).map (·.type)=some 31:=by kernel_rfl
theorem Aq:Tryd.prog.globalNamed "loop.example/replayverifier/impl.errInput" = some 4:=by kernel_rfl
theorem Ak:(Tryd.prog.globals[4]?).map (·.type)=some 31:=by kernel_rfl
theorem Ar:Tryd.prog.globalNamed "loop.example/replayverifier/impl.errRange" = some 5:=by kernel_rfl
theorem Al:(Tryd.prog.globals[5]?).map (·.type)=some 31:=by kernel_rfl
theorem AA:Tryd.prog.globalNamed "loop.example/replayverifier/impl.errHash" = some 6:=by kernel_rfl
theorem As:(Tryd.prog.globals[6]?).map (·.type)=some 31:=by kernel_rfl
theorem AB:Tryd.prog.globalNamed "loop.example/replayverifier/impl.errOpen" = some 7:=by kernel_rfl
theorem Au:(Tryd.prog.globals[7]?).map (·.type)=some 31:=by kernel_rfl
theorem Av:Tryd.prog.globalNamed "loop.example/replayverifier/impl.errScore" = some 8:=by kernel_rfl
theorem Am:(Tryd.prog.globals[8]?).map (·.type)=some 31:=by kernel_rfl
theorem AY{W:World}(h:laidMet Tryd.prog [("loop.example/replayverifier/impl.errText",Rows.laid_loop_example_replayverifier_impl_errText),("loop.example/replayverifier/impl.errLevel",Rows.laid_loop_example_replayverifier_impl_errLevel),("loop.example/replayverifier/impl.errKey",Rows.laid_loop_example_replayverifier_impl_errKey),("loop.example/replayverifier/impl.errTag",Rows.laid_loop_example_replayverifier_impl_errTag),("loop.example/replayverifier/impl.errInput",Rows.laid_loop_example_replayverifier_impl_errInput),("loop.example/replayverifier/impl.errRange",Rows.laid_loop_example_replayverifier_impl_errRange),("loop.example/replayverifier/impl.errHash",Rows.laid_loop_example_replayverifier_impl_errHash),("loop.example/replayverifier/impl.errOpen",Rows.laid_loop_example_replayverifier_impl_errOpen),("loop.example/replayverifier/impl.errScore",Rows.laid_loop_example_replayverifier_impl_errScore)] W):Errs W :=
 ⟨Ah h (.head _) Ax Ao,Ah h (.tail _ (.head _)) Ap Aj,Ah h (.tail _ (.tail _ (.head _))) AF Ay,Ah h (.tail _ (.tail _ (.tail _ (.head _)))) AG Az,Ah h (.tail _ (.tail _ (.tail _ (.tail _ (.head _))))) Aq Ak,Ah h (.tail _ (.tail _ (.tail _ (.tail _ (.tail _ (.head _)))))) Ar Al,Ah h (.tail _ (.tail _ (.tail _ (.tail _ (.tail _ (.tail _ (.head _))))))) AA As,Ah h (.tail _ (.tail _ (.tail _ (.tail _ (.tail _ (.tail _ (.tail _ (.head _)))))))) AB Au,Ah h (.tail _ (.tail _ (.tail _ (.tail _ (.tail _ (.tail _ (.tail _ (.tail _ (.head _))))))))) Av Am⟩
theorem AU:laidOutB Tryd.prog=true:=by kernel_rfl
theorem Bj:ownKnob Tryd.prog.godebug=none:=by kernel_rfl
theorem AC{H:Type}{enc:TypeId × Value->H}{W W':World}(B:Below W.heap.size W W')(E:Errs W){sp sp':Nat->Bool}:∀{l:List String} {gs:List (DataW H)} {q:List MemPlace},(∀ n∈l,∃ g,Tryd.prog.globalNamed n=some g/\(Tryd.prog.globals[g]?).map (·.type)=some 31/\g<W.heap.size) ->
 DataW.TrodVars enc Tryd.prog W sp l gs q->∃ q',DataW.TrodVars enc Tryd.prog W' sp' l gs q'
 | [],[],q,_,_=>⟨[],rfl⟩
 | [],_::_,q,_,h=>h.elim
 | n::l,[],q,_,h=>h.elim
 | n::l,d::gs,q,hl,h=>by
  obtain⟨g,t,cs,fuel,p,q1,h1,h2,h3,h4,h5,rfl⟩:=h;obtain⟨g',k1,k2,k3⟩:=hl n (.head _);obtain rfl:=Option.some.inj (k1.symm.trans h1);obtain rfl:=Option.some.inj (k2.symm.trans h2);obtain⟨q',hq⟩:=AC B E (sp':=sp') (fun m hm=>hl m (.tail _ hm)) h5;refine⟨_,g',31,cs,fuel,p,q',k1,k2,var?_below B k1 k3 h3,?_,hq,rfl⟩;cases fuel with
  | zero=>cases h4
  | succ f =>
   unfold DataW.trod at h4 ⊢;simp only[Tryd.underlying31] at h4 ⊢
   revert h4
   generalize cs.toList=c;intro h4;split at h4
   all_goals first | exact h4 | (simp at h4; done) | (exfalso; simp at *; done)
theorem AH{H:Type}{enc:TypeId × Value->H}{W:World}{sp:Nat->Bool}:∀{l:List String} {gs:List (DataW H)} {q:List MemPlace},DataW.TrodVars enc Tryd.prog W sp l gs q->gs.length=l.length
 | [],[],q,_=>rfl
 | [],_::_,q,h=>h.elim
 | n::l,[],q,h=>h.elim
 | n::l,d::gs,q,h=>by
  obtain⟨g,t,cs,fuel,p,q1,h1,h2,h3,h4,h5,rfl⟩:=h;rw[List.length_cons,List.length_cons,AH h5]
theorem AM{H:Type}:∀{gs:List (DataW H)},gs.length=9->∃ g1 g2 g3 g4 g5 g6 g7 g8 g9,gs=[g1,g2,g3,g4,g5,g6,g7,g8,g9]
 | [a,b,c,d,e,f,g,h,i],_=>⟨a,b,c,d,e,f,g,h,i,rfl⟩
def Aw(b:Nat):Obj->Obj
 | .cells _ t frozen=>.cells #[.iface 39 (.pointer (some ⟨b,0,none⟩))] t frozen
 | o=>o
noncomputable def Ad:Nat:=(World.holding Tryd.prog default ⟨#[],#[],[]⟩).heap.size
noncomputable def Ae(os:Os):World :=
 let w0:=World.holding Tryd.prog os ⟨#[.cells #[.string (AE [116,101,120,116])] 56,.cells #[.string (AE [108,101,118,101,108])] 56,.cells #[.string (AE [107,101,121])] 56,.cells #[.string (AE [116,97,103])] 56,.cells #[.string (AE [105,110,112,117,116])] 56,.cells #[.string (AE [114,97,110,103,101])] 56,.cells #[.string (AE [104,97,115,104])] 56,.cells #[.string (AE [111,112,101,110])] 56,.cells #[.string (AE [115,99,111,114,101])] 56],#[],[]⟩
 { w0 with heap:=((((((((w0.heap.modify 0 (Aw Ad)).modify 1 (Aw (Ad+1))).modify 2 (Aw (Ad+2))).modify 3 (Aw (Ad+3))).modify 4 (Aw (Ad+4))).modify 5 (Aw (Ad+5))).modify 6 (Aw (Ad+6))).modify 7 (Aw (Ad+7))).modify 8 (Aw (Ad+8)) }
end Go.Proofs.YtienbaikhliniaaDoor
