import Derived.Lib.Strings
import Derived.Lib.Slices
import Derived.Test.YtgbiagonfbnooaaDoorZRepMath
import Derived.Deep.MidRow
import Derived.Test.YtgbiagonfbnooaaDoorZRowS
set_option linter.all false
set_option maxRecDepth 100000
set_option maxHeartbeats 8000000
namespace Go.Proofs.YtgbiagonfbnooaaDoor
open Go.RowKit
open M
abbrev tx(s:ByteArray):Tx:=s.data.toList
theorem KT(s:ByteArray):(tx s).length=s.size:=by simp[tx]
abbrev str(l:Tx):ByteArray:=⟨l.toArray⟩
theorem HR(l:Tx):tx (str l)=l:=rfl
theorem F5(s:ByteArray)(a b:Nat):s.extract a b=str (((tx s).take b).drop a):=by
 obtain⟨l⟩:=s;rw[show(⟨l⟩:ByteArray)=⟨l.toList.toArray⟩ by simp,ByteArray.extract_mk];simp[str,tx,List.drop_take]
end Go.Proofs.YtgbiagonfbnooaaDoor
namespace Go.Proofs.YtgbiagonfbnooaaDoor
open Go.RowKit
theorem CellsAt.range{W:World}{b:Nat}{vs:List Value}(h:CellsAt W b vs):W.rangeAt b 0 vs:=fun j v hj=>by rw[Nat.zero_add]; exact h.cell j v hj
theorem CellsAt.there{W:World}{b:Nat}{vs:List Value}(h:CellsAt W b vs){n:Nat}(hn:n<=vs.length):W.there b 0 n:=fun j hj=>by
 rw[Nat.zero_add];exact⟨by rw[h.cell j _ (List.getElem?_eq_getElem (by omega))]; rfl,h.fr j⟩
theorem Fe{b:Nat}{W A:World}(h:Kept b W A)(o:Nat)(v:Value):Kept b W (A.setCell ⟨b,o,none⟩ v):=h.trans (Kept.step A b v o 0)
theorem BN{b:Nat}{W:World}:∀(vs:List Value) (o:Nat) {A:World},Kept b W A->Kept b W (A.setCells b o vs)
 | [],_,_,h=>h
 | v::vs,o,_,h=>BN vs (o+1) (Fe h o v)
theorem CellsAt.all{W:World}{b:Nat}{us:List Value}(h:CellsAt W b us)(vs:List Value)(hl:vs.length<=us.length):CellsAt (W.setCells b 0 vs) b vs :=
 ⟨fun j v hj=>by have:=World.rangeAt_setCells_same W b 0 vs (h.there hl) j v hj; rwa [Nat.zero_add] at this,fun j=>by rw[World.frozen?_setCells]; exact h.fr j,Nat.lt_of_lt_of_le h.lt (BN vs 0 (Kept.refl b W)).size⟩
theorem EJ{w a:World}(h:Below w.heap.size w a){b:Nat}(hb:w.heap.size<=b)(o:Nat)(vs:List Value):Below w.heap.size w (a.setCells b o vs) :=
 h.trans ((BN vs o (Kept.refl b a)).below h.size hb)
theorem Af{P:Program}{ops:Array Oper}{rest:List Oper}{o:Oper}{a:Act}{w:World}{Q:Exit->Act->World->Prop}(hgd:o.guard=none)(ty:TypeId)(x:Operand)(ho:o.op=.load ty x)
 (b:Nat) (hx:a.eval x=.pointer (some ⟨b,0,none⟩)) (vs:List Value) (L:CellsAt w b vs) {d:TypeDesc} (hu:P.underlying ty=some d) (hd:d.isRow=true) (hi:(P.info? ty).map (·.size)=some vs.length)
 (h:wpList P ops Q rest (a.put o.dst (.agg vs.toArray)) w):wpList P ops Q (o::rest) a w :=
 wpList_load_mid hgd ty x ho b 0 hx vs d L.range hu hd hi h
theorem AG{P:Program}{ops:Array Oper}{rest:List Oper}{o:Oper}{a:Act}{w:World}{Q:Exit->Act->World->Prop}(hgd:o.guard=none)(ty:TypeId)(x y:Operand)(ho:o.op=.store ty x y)
 (b:Nat) (hx:a.eval x=.pointer (some ⟨b,0,none⟩)) (vs:List Value) (hy:a.eval y=.agg vs.toArray) (us:List Value) (D:CellsAt w b us) (hl:vs.length<=us.length) (hi:(P.info? ty).map (·.size)=some vs.length) (h1:vs.all (·.oneCell')=true)
 (h:wpList P ops Q rest (a.put o.dst undef) (w.setCells b 0 vs)):wpList P ops Q (o::rest) a w :=
 wpList_store_mid hgd ty x y ho b 0 vs.toArray hx hy (by simpa using D.there hl) (by simpa using hi) (by rw[List.all_toArray]; exact h1) (by simpa using h)
theorem Ag{P:Program}{fn:Func}{p:Tmp}{ty:TypeId}{tmps:Array Value}{w:World}(h:fn.results=#[.cell p ty])(b:Nat)(hp:tmps[p]?.getD undef=.pointer (some ⟨b,0,none⟩))(vs:List Value)(L:CellsAt w b vs){d:TypeDesc}
 (hu:P.underlying ty=some d) (hd:d.isRow=true) (hi:(P.info? ty).map (·.size)=some vs.length):(results fn tmps).run P w=.ok (.agg vs.toArray) w:=by
 simp[results,h,hp,asAddr,run_loadVar_mid w b 0 ty vs d L.range hu hd hi]
theorem Bd{P:Program}{fn:Func}{p q:Tmp}{ty:TypeId}{tmps:Array Value}{w:World}(h:fn.results=#[.cell p ty,.tmp q])(b:Nat)(hp:tmps[p]?.getD undef=.pointer (some ⟨b,0,none⟩))(vs:List Value)(L:CellsAt w b vs)(v:Value)(hq:tmps[q]?.getD undef=v){d:TypeDesc}
 (hu:P.underlying ty=some d) (hd:d.isRow=true) (hi:(P.info? ty).map (·.size)=some vs.length):(results fn tmps).run P w=.ok (.tuple #[.agg vs.toArray,v]) w:=by
 simp[results,h,hp,hq,asAddr,run_loadVar_mid w b 0 ty vs d L.range hu hd hi]
theorem Bv:(Tryd.prog.info? 67).map (·.size)=some 2:=by kernel_rfl
theorem Al:(Tryd.prog.info? 72).map (·.size)=some 11:=by kernel_rfl
open Go.RowKit
theorem Dt{P:Program}{o:Oper}{a:Act}{w:World}{K:Act->World->Prop}{Q:Exit->Act->World->Prop}(ty:TypeId)(x y:Operand)(ho:o.op=.store ty x y)
 (b:Nat) (hx:a.eval x=.pointer (some ⟨b,0,none⟩)) (vs:List Value) (hy:a.eval y=.agg vs.toArray) (us:List Value) (D:CellsAt w b us) (hl:vs.length<=us.length) (hi:(P.info? ty).map (·.size)=some vs.length) (h1:vs.all (·.oneCell')=true)
 (h:K (a.put o.dst undef) (w.setCells b 0 vs)):o.wp P a w K Q :=
 wp_store_mid ty x y ho b 0 vs.toArray hx hy (by simpa using D.there hl) (by simpa using hi) (by rw[List.all_toArray]; exact h1) (by simpa using h)
theorem Aq{P:Program}{o:Oper}{a:Act}{w:World}{K:Act->World->Prop}{Q:Exit->Act->World->Prop}(ty:TypeId)(x y:Operand)(ho:o.op=.store ty x y)
 (b:Nat) (hx:a.eval x=.pointer (some ⟨b,0,none⟩)) (vs:List Value) (hy:a.eval y=.agg vs.toArray) (us:List Value) (D:CellsAt w b us) (hl:vs.length<=us.length) (hi:(P.info? ty).map (·.size)=some vs.length) (h1:vs.all (·.oneCell')=true)
 (h:∀ w',Kept b w w'->CellsAt w' b vs->K (a.put o.dst undef) w'):o.wp P a w K Q :=
 Dt ty x y ho b hx vs hy us D hl hi h1 (h _ (BN vs 0 (Kept.refl b w)) (D.all vs hl))
theorem Ah{P:Program}{ops:Array Oper}{rest:List Oper}{o:Oper}{a:Act}{w:World}{Q:Exit->Act->World->Prop}(hgd:o.guard=none)(ty:TypeId)(x y:Operand)(ho:o.op=.store ty x y)
 (b:Nat) (hx:a.eval x=.pointer (some ⟨b,0,none⟩)) (vs:List Value) (hy:a.eval y=.agg vs.toArray) (us:List Value) (D:CellsAt w b us) (hl:vs.length<=us.length) (hi:(P.info? ty).map (·.size)=some vs.length) (h1:vs.all (·.oneCell')=true)
 (h:∀ w',Kept b w w'->CellsAt w' b vs->wpList P ops Q rest (a.put o.dst undef) w'):wpList P ops Q (o::rest) a w :=
 AG hgd ty x y ho b hx vs hy us D hl hi h1 (h _ (BN vs 0 (Kept.refl b w)) (D.all vs hl))
end Go.Proofs.YtgbiagonfbnooaaDoor
namespace Go.Proofs.YtgbiagonfbnooaaDoor
namespace M
def F6(ps:Int)(z:Bool):Int:=if z then ps+1 else ps
def BL(t b i ps s0:Int)(q:In):Bool:=decide (t<=i)||decide (3<F6 ps q.z)||!Dy b s0 q.s q.p q.z
def Fb(t b:Int):List In->Int->Int->Int->Int
 | [],_,_,_=>-1
 | q::xs,i,ps,s0=>if BL t b i ps s0 q then i else Fb t b xs (i+1) (F6 ps q.z) q.s
def FZ(t b:Int)(xs:List In):Int:=Fb t b xs 0 0 0
def HE(i t x y:Int)(ws gs:List Bx)(fp fq fs fz b:Int)(xs:List In):Int:=if BD i t x y ws gs fp fq fs fz b then FZ t b xs else 0
theorem Be{t b i ps s0:Int}{q:In}{xs:List In}(h:BL t b i ps s0 q=true):Fb t b (q::xs) i ps s0=i:=by simp[Fb,h]
theorem Du{t b i ps s0:Int}{q:In}{xs:List In}(h:BL t b i ps s0 q=false):Fb t b (q::xs) i ps s0=Fb t b xs (i+1) (F6 ps q.z) q.s:=by simp[Fb,h]
theorem HT{t b i ps s0:Int}{q:In}(h:BL t b i ps s0 q=false):i<t/\F6 ps q.z<=3/\Dy b s0 q.s q.p q.z=true:=by
 simp only[BL,Bool.or_eq_false_iff,decide_eq_false_iff_not,Bool.not_eq_false'] at h;exact⟨by omega,by omega,h.2⟩
theorem Lu{t b i ps s0:Int}{q:In}(h:t<=i):BL t b i ps s0 q=true:=by simp[BL,h]
theorem LV{t b i ps s0:Int}{q:In}(h:3<F6 ps q.z):BL t b i ps s0 q=true:=by simp[BL,h]
theorem Lw{t b i ps s0:Int}{q:In}(h:Dy b s0 q.s q.p q.z=false):BL t b i ps s0 q=true:=by simp[BL,h]
theorem HU{t b i ps s0:Int}{q:In}(h1:i<t)(h2:F6 ps q.z<=3)(h3:Dy b s0 q.s q.p q.z=true):BL t b i ps s0 q=false:=by
 have a1:¬ t<=i:=by omega
 have a2:¬ 3<F6 ps q.z:=by omega
 simp[BL,a1,a2,h3]
theorem EK{b s0 s p:Int}{z:Bool}(h:Dy b s0 s p z=true):A5 s p z=true:=by
 simp only[Dy,Bool.and_eq_true] at h;exact h.1.1.1
theorem HV(t b:Int):∀(xs:List In) (i ps s0:Int),Fb t b xs i ps s0=-1\/(i<=Fb t b xs i ps s0/\Fb t b xs i ps s0<i+xs.length)
 | [],i,ps,s0=>.inl rfl
 | q::xs,i,ps,s0=>by
  cases h:BL t b i ps s0 q
  . rw[Du h];rcases HV t b xs (i+1) (F6 ps q.z) q.s with g | g
    . exact .inl g
    . right;simp only[List.length_cons];omega
  . rw[Be h];right;simp only[List.length_cons];omega
theorem Gq(t b:Int):∀(xs:List In) (k:Nat) (i ps s0:Int),0<=i->Fb t b xs i ps s0=-1->Fb t b (xs.take k) i ps s0=-1
 | [],k,i,ps,s0,_,_=>by simp[Fb]
 | q::xs,0,i,ps,s0,_,_=>rfl
 | q::xs,k+1,i,ps,s0,hi,h=>by
  cases g:BL t b i ps s0 q
  . rw[Du g] at h;rw[List.take_succ_cons,Du g];exact Gq t b xs k _ _ _ (by omega) h
  . rw[Be g] at h;omega
theorem drop_at{xs:List In}{k:Nat}(h:k<xs.length):xs.drop k=xs.getD k iz::xs.drop (k+1):=by
 rw[List.drop_eq_getElem_cons h];simp[List.getD_eq_getElem?_getD,h]
end M
end Go.Proofs.YtgbiagonfbnooaaDoor
namespace Go.Proofs.YtgbiagonfbnooaaDoor
open Go.RowKit
open M
end Go.Proofs.YtgbiagonfbnooaaDoor
namespace Go.Proofs.YtgbiagonfbnooaaDoor
open Go.RowKit
def Enters(P:Program)(f:FuncId):Prop:=∃ fn,P.funcs[f]?=some fn/\(fn.name == "runtime.NumGoroutine")=false/\fn.body.isNone=false
theorem EL{P:Program}{f:FuncId}(hf:Enters P f)(vs:Array Value)(w:World):(callFunc f vs).run P w=.ok (.enter f vs) w:=by
 obtain⟨fn,h1,h2,h3⟩:=hf;unfold callFunc;simp only[Sem.run_bind,show(program:Sem Program).run P w=.ok P w from rfl,Result.andThen_ok,h1,h2,h3];rfl
theorem Ff{P:Program}{w:World}{o:Oper}{a:Act}{K:Act->World->Prop}{Q:Exit->Act->World->Prop}{f:FuncId}{vs:Array Value}(e:(execOp a.eval o).run P w=.ok (.enter f vs) w){R:Ending->World->Prop}(hc:Calls P f vs w R)
 (h:∀ e w',R e w'->∃ v,e=.returned v/\K (a.put o.dst v) w'):o.wp P a w K Q:=by
 unfold Oper.wp;rw[e,Oper.upon_enter];refine hc.mono fun e w' hR=>?_;obtain⟨v,rfl,hK⟩:=h e w' hR;exact hK
theorem F7{P:Program}{w:World}{o:Oper}{a:Act}{K:Act->World->Prop}{Q:Exit->Act->World->Prop}{f:FuncId}(hf:Enters P f)(xs:Array Operand)(ts:Array TypeId)
 (ho:o.op=.call { callee:=.value (.func f),args:=xs,argTypes:=ts }) (vs:Array Value) (hv:xs.map a.eval=vs) {R:Ending->World->Prop} (hc:Calls P f vs w R)
 (h:∀ e w',R e w'->∃ v,e=.returned v/\K (a.put o.dst v) w'):o.wp P a w K Q:=by
 refine Ff ?_ hc h;unfold execOp;have e0:(#[]++vs++#[]:Array Value)=vs:=by simp
 simp only[ho,resolve,invoke,Deferred.ofValue,hv,Sem.run_bind,Sem.run_pure,Result.andThen_ok,Act.eval,e0];exact EL hf vs w
end Go.Proofs.YtgbiagonfbnooaaDoor
