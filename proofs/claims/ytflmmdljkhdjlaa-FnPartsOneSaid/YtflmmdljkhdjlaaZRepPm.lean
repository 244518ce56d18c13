import Derived.Test.YtflmmdljkhdjlaaZRepMath
import Derived.Test.YtflmmdljkhdjlaaZInRow
set_option linter.all false
set_option maxRecDepth 100000
set_option maxHeartbeats 8000000
namespace Go.Proofs.Ytflmmdljkhdjlaa
namespace M
def EF:List Pt->Int->Bool
 | [],_=>false
 | q::_,c=>decide (q.c=c)
def Ck:List Pt->Nat->Option (List Int)
 | [],_=>some []
 | p::ps,n=>if decide (0<=p.c/\p.c<=9)&&decide (1<=p.m)&&decide (p.m<=60-n)&&!(EF ps p.c) then (Ck ps (n+p.m.toNat)).map (List.replicate p.m.toNat p.c++·) else none
theorem FZ:∀(ps:List Pt) (n:Nat) (b:Option Int),Dv ps n b=if b=none\/(∀ c,b=some c->EF ps c=false) then Ck ps n else none
 | [],n,b=>by simp[Dv,Ck,EF]
 | p::ps,n,b=>by
  rw[Dv,Ck,FZ ps _ (some p.c)];cases b with
  | none =>
   cases hn:EF ps p.c<;>simp[hn]
  | some c =>
   by_cases hc:p.c=c
   . subst hc;simp[EF]
   . have h1:EF (p::ps) c=false:=by simp[EF,hc]
     have h2:¬ c=p.c:=fun e=>hc e.symm;cases hn:EF ps p.c<;>simp[hn,h1,h2]
theorem IV(ps:List Pt):Dv ps 0 none=Ck ps 0:=by rw[FZ]; simp
theorem JN{p:Pt}{ps:List Pt}{n:Nat}(h:(decide (0<=p.c/\p.c<=9)&&decide (1<=p.m)&&decide (p.m<=60-n)&&!(EF ps p.c))=false):Ck (p::ps) n=none:=by
 rw[Ck,h]; simp
theorem IX{p:Pt}{ps:List Pt}{n:Nat}(h:(decide (0<=p.c/\p.c<=9)&&decide (1<=p.m)&&decide (p.m<=60-n)&&!(EF ps p.c))=true):Ck (p::ps) n=(Ck ps (n+p.m.toNat)).map (List.replicate p.m.toNat p.c++·):=by
 rw[Ck,h]; simp
theorem My{c:Int}{cs:List Int}(h:EF (Bj cs) c=false):Bj (c::cs)=⟨c,1⟩::Bj cs:=by
 rw[Bj];cases e:Bj cs with
 | nil=>rfl
 | cons p ps=>rw[e] at h; simp[EF] at h; simp[h]
theorem JP{c m:Int}{cs:List Int}{ps:List Pt}(h:Bj cs=⟨c,m⟩::ps):Bj (c::cs)=⟨c,m+1⟩::ps:=by
 rw[Bj,h]; simp
theorem Hu{α:Type}(z:α){xs:List α}{k:Nat}(h:k<xs.length):xs.drop k=xs.getD k z::xs.drop (k+1):=by
 rw[List.drop_eq_getElem_cons h,List.getD_eq_getElem?_getD,List.getElem?_eq_getElem h];rfl
end M
end Go.Proofs.Ytflmmdljkhdjlaa
namespace Go.Proofs.Ytflmmdljkhdjlaa
open Go.RowKit
def Enters(P:Program)(f:FuncId):Prop:=∃ fn,P.funcs[f]?=some fn/\(fn.name == "runtime.NumGoroutine")=false/\fn.body.isNone=false
theorem E5{P:Program}{f:FuncId}(hf:Enters P f)(vs:Array Value)(w:World):(callFunc f vs).run P w=.ok (.enter f vs) w:=by
 obtain⟨fn,h1,h2,h3⟩:=hf;unfold callFunc;simp only[Sem.run_bind,show(program:Sem Program).run P w=.ok P w from rfl,Result.andThen_ok,h1,h2,h3];rfl
theorem FG{P:Program}{w:World}{o:Oper}{a:Act}{K:Act->World->Prop}{Q:Exit->Act->World->Prop}{f:FuncId}{vs:Array Value}(e:(execOp a.eval o).run P w=.ok (.enter f vs) w){R:Ending->World->Prop}(hc:Calls P f vs w R)
 (h:∀ e w',R e w'->∃ v,e=.returned v/\K (a.put o.dst v) w'):o.wp P a w K Q:=by
 unfold Oper.wp;rw[e,Oper.upon_enter];refine hc.mono fun e w' hR=>?_;obtain⟨v,rfl,hK⟩:=h e w' hR;exact hK
theorem Gg{P:Program}{w:World}{o:Oper}{a:Act}{K:Act->World->Prop}{Q:Exit->Act->World->Prop}{f:FuncId}(hf:Enters P f)(xs:Array Operand)(ts:Array TypeId)
 (ho:o.op=.call { callee:=.value (.func f),args:=xs,argTypes:=ts }) (vs:Array Value) (hv:xs.map a.eval=vs) {R:Ending->World->Prop} (hc:Calls P f vs w R)
 (h:∀ e w',R e w'->∃ v,e=.returned v/\K (a.put o.dst v) w'):o.wp P a w K Q:=by
 refine FG ?_ hc h;unfold execOp;have e0:(#[]++vs++#[]:Array Value)=vs:=by simp
 simp only[ho,resolve,invoke,Deferred.ofValue,hv,Sem.run_bind,Sem.run_pure,Result.andThen_ok,Act.eval,e0];exact E5 hf vs w
open Go.RowKit
open M
open Go.RowKit
open M
theorem Kept.mine{r:Nat}{w a:World}(h:Kept r w a)(o:Nat)(v:Value):Kept r w (a.setCell ⟨r,o,none⟩ v) :=
 ⟨h.os,h.tape,h.output,by simpa[World.setCell] using h.size,fun k hk hr=>(Below.heap_setCell a ⟨r,o,none⟩ v k hr).trans (h.block k hk hr)⟩
def Off(A:Option Addr)(n b:Nat):Prop:=0<n->∀ k off,A=some ⟨k,off,none⟩->k≠b
theorem Ints.kept{w w':World}{A:Option Addr}{n r:Nat}{xs:List Int}(h:Ints w A n xs)(K:Kept r w w')(hA:Off A n r):Ints w' A n xs :=
 ⟨h.1,fun hn=>by
  obtain⟨b,off,e,hb,hc⟩:=h.2 hn;exact⟨b,off,e,Nat.lt_of_lt_of_le hb K.size,fun k hk=>(K.cell (p:=⟨b,off+k,none⟩) hb (hA hn b off e)).trans (hc k hk)⟩⟩
theorem Ints.off{w:World}{A:Option Addr}{n:Nat}{xs:List Int}(h:Ints w A n xs){b:Nat}(hb:w.heap.size<=b):Off A n b:=fun hn k off e=>by
 obtain⟨b',off',e',hb',_⟩:=h.2 hn;rw[e'] at e;cases e
 omega
open Go.RowKit
open M
theorem LD(s p:Int)(z:Bool)(w:World):Calls Try.prog 73 #[BH s p z] w fun e w'=>e=.returned (BH s p z)/\Below w.heap.size w w':=by
 go_enter Try.func73,Try.ntmps73;go_wp2;exact bodyPost_ret (v:=BH s p z) (by simp[results,Try.results73,go_sem]) rfl ⟨rfl,(by repeat (first | exact Ac _ | refine Ab ?_ _ | refine Ar ?_ _ _ _ (by omega)))⟩
theorem LQ(s p:Int)(z:Bool)(w:World):Calls Try.prog 75 #[BH s p z,BH s p z] w fun e w'=>e=.returned (.bool true)/\Below w.heap.size w w':=by
 cases z
 all_goals
  go_enter Try.func75,Try.ntmps75;go_wp2;go_ret;exact⟨rfl,Ab (Ab (Ac w) _) _⟩
open Go.RowKit
open M
end Go.Proofs.Ytflmmdljkhdjlaa
