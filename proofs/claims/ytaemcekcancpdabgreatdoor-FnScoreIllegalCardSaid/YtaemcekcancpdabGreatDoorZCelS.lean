import Derived.Deep.MidRow
import Derived.Test.YtaemcekcancpdabGreatDoorZInS
import Derived.Test.YtaemcekcancpdabGreatDoorZRowS
import Derived.Great.BuildSlice
set_option linter.all false
set_option maxRecDepth 100000
set_option maxHeartbeats 8000000
namespace Go.Proofs.YtaemcekcancpdabGreatDoor
open Go.RowKit
theorem CellsAt.range{W:World}{b:Nat}{vs:List Value}(h:CellsAt W b vs):W.rangeAt b 0 vs:=fun j v hj=>by rw[Nat.zero_add]; exact h.cell j v hj
theorem CellsAt.there{W:World}{b:Nat}{vs:List Value}(h:CellsAt W b vs){n:Nat}(hn:n<=vs.length):W.there b 0 n:=fun j hj=>by
 rw[Nat.zero_add];exact⟨by rw[h.cell j _ (List.getElem?_eq_getElem (by omega))]; rfl,h.fr j⟩
theorem Qx{b:Nat}{W A:World}(h:Kept b W A)(o:Nat)(v:Value):Kept b W (A.setCell ⟨b,o,none⟩ v):=h.trans (Kept.step A b v o 0)
theorem FW{b:Nat}{W:World}:∀(vs:List Value) (o:Nat) {A:World},Kept b W A->Kept b W (A.setCells b o vs)
 | [],_,_,h=>h
 | v::vs,o,_,h=>FW vs (o+1) (Qx h o v)
theorem CellsAt.all{W:World}{b:Nat}{us:List Value}(h:CellsAt W b us)(vs:List Value)(hl:vs.length<=us.length):CellsAt (W.setCells b 0 vs) b vs :=
 ⟨fun j v hj=>by have:=World.rangeAt_setCells_same W b 0 vs (h.there hl) j v hj; rwa [Nat.zero_add] at this,fun j=>by rw[World.frozen?_setCells]; exact h.fr j,Nat.lt_of_lt_of_le h.lt (FW vs 0 (Kept.refl b W)).size⟩
theorem Kept.sets'{r:Nat}{w a:World}(h:Kept r w a){b:Nat}(hb:w.heap.size<=b)(o:Nat)(vs:List Value):Kept r w (a.setCells b o vs) :=
 have K:=FW vs o (Kept.refl b a)
 ⟨K.os.trans h.os,K.tape.trans h.tape,K.output.trans h.output,Nat.le_trans h.size K.size,fun j hj hr=>(K.block j (Nat.lt_of_lt_of_le hj h.size) (by omega)).trans (h.block j hj hr)⟩
theorem RdU.sets'{B:Nat}{w:World}{r:Nat}{k:Int}(R:RdU B w r k){b:Nat}(hb:B<=b)(o:Nat)(vs:List Value):RdU B (w.setCells b o vs) r k :=
 R.below ((FW vs o (Kept.refl b w)).below R.base hb)
theorem Af{P:Program}{ops:Array Oper}{rest:List Oper}{o:Oper}{a:Act}{w:World}{Q:Exit->Act->World->Prop}(hgd:o.guard=none)(ty:TypeId)(x:Operand)(ho:o.op=.load ty x)
 (b:Nat) (hx:a.eval x=.pointer (some ⟨b,0,none⟩)) (vs:List Value) (L:CellsAt w b vs) {d:TypeDesc} (hu:P.underlying ty=some d) (hd:d.isRow=true) (hi:(P.info? ty).map (·.size)=some vs.length)
 (h:wpList P ops Q rest (a.put o.dst (.agg vs.toArray)) w):wpList P ops Q (o::rest) a w :=
 wpList_load_mid hgd ty x ho b 0 hx vs d L.range hu hd hi h
theorem Bt{P:Program}{ops:Array Oper}{rest:List Oper}{o:Oper}{a:Act}{w:World}{Q:Exit->Act->World->Prop}(hgd:o.guard=none)(ty:TypeId)(x y:Operand)(ho:o.op=.store ty x y)
 (b:Nat) (hx:a.eval x=.pointer (some ⟨b,0,none⟩)) (vs:List Value) (hy:a.eval y=.agg vs.toArray) (us:List Value) (D:CellsAt w b us) (hl:vs.length<=us.length) (hi:(P.info? ty).map (·.size)=some vs.length) (h1:vs.all (·.oneCell')=true)
 (h:wpList P ops Q rest (a.put o.dst undef) (w.setCells b 0 vs)):wpList P ops Q (o::rest) a w :=
 wpList_store_mid hgd ty x y ho b 0 vs.toArray hx hy (by simpa using D.there hl) (by simpa using hi) (by rw[List.all_toArray]; exact h1) (by simpa using h)
theorem Aj{P:Program}{fn:Func}{p:Tmp}{ty:TypeId}{tmps:Array Value}{w:World}(h:fn.results=#[.cell p ty])(b:Nat)(hp:tmps[p]?.getD undef=.pointer (some ⟨b,0,none⟩))(vs:List Value)(L:CellsAt w b vs){d:TypeDesc}
 (hu:P.underlying ty=some d) (hd:d.isRow=true) (hi:(P.info? ty).map (·.size)=some vs.length):(results fn tmps).run P w=.ok (.agg vs.toArray) w:=by
 simp[results,h,hp,asAddr,run_loadVar_mid w b 0 ty vs d L.range hu hd hi]
theorem A7{P:Program}{fn:Func}{p q:Tmp}{ty:TypeId}{tmps:Array Value}{w:World}(h:fn.results=#[.cell p ty,.tmp q])(b:Nat)(hp:tmps[p]?.getD undef=.pointer (some ⟨b,0,none⟩))(vs:List Value)(L:CellsAt w b vs)(v:Value)(hq:tmps[q]?.getD undef=v){d:TypeDesc}
 (hu:P.underlying ty=some d) (hd:d.isRow=true) (hi:(P.info? ty).map (·.size)=some vs.length):(results fn tmps).run P w=.ok (.tuple #[.agg vs.toArray,v]) w:=by
 simp[results,h,hp,hq,asAddr,run_loadVar_mid w b 0 ty vs d L.range hu hd hi]
theorem B7:(Tryz.prog.info? 24).map (·.size)=some 2:=by kernel_rfl
theorem Ag:(Tryz.prog.info? 29).map (·.size)=some 11:=by kernel_rfl
open Go.RowKit
theorem ID{P:Program}{o:Oper}{a:Act}{w:World}{K:Act->World->Prop}{Q:Exit->Act->World->Prop}(ty:TypeId)(x y:Operand)(ho:o.op=.store ty x y)
 (b:Nat) (hx:a.eval x=.pointer (some ⟨b,0,none⟩)) (vs:List Value) (hy:a.eval y=.agg vs.toArray) (us:List Value) (D:CellsAt w b us) (hl:vs.length<=us.length) (hi:(P.info? ty).map (·.size)=some vs.length) (h1:vs.all (·.oneCell')=true)
 (h:K (a.put o.dst undef) (w.setCells b 0 vs)):o.wp P a w K Q :=
 wp_store_mid ty x y ho b 0 vs.toArray hx hy (by simpa using D.there hl) (by simpa using hi) (by rw[List.all_toArray]; exact h1) (by simpa using h)
theorem Aq{P:Program}{o:Oper}{a:Act}{w:World}{K:Act->World->Prop}{Q:Exit->Act->World->Prop}(ty:TypeId)(x y:Operand)(ho:o.op=.store ty x y)
 (b:Nat) (hx:a.eval x=.pointer (some ⟨b,0,none⟩)) (vs:List Value) (hy:a.eval y=.agg vs.toArray) (us:List Value) (D:CellsAt w b us) (hl:vs.length<=us.length) (hi:(P.info? ty).map (·.size)=some vs.length) (h1:vs.all (·.oneCell')=true)
 (h:∀ w',Kept b w w'->CellsAt w' b vs->K (a.put o.dst undef) w'):o.wp P a w K Q :=
 ID ty x y ho b hx vs hy us D hl hi h1 (h _ (FW vs 0 (Kept.refl b w)) (D.all vs hl))
theorem Ah{P:Program}{ops:Array Oper}{rest:List Oper}{o:Oper}{a:Act}{w:World}{Q:Exit->Act->World->Prop}(hgd:o.guard=none)(ty:TypeId)(x y:Operand)(ho:o.op=.store ty x y)
 (b:Nat) (hx:a.eval x=.pointer (some ⟨b,0,none⟩)) (vs:List Value) (hy:a.eval y=.agg vs.toArray) (us:List Value) (D:CellsAt w b us) (hl:vs.length<=us.length) (hi:(P.info? ty).map (·.size)=some vs.length) (h1:vs.all (·.oneCell')=true)
 (h:∀ w',Kept b w w'->CellsAt w' b vs->wpList P ops Q rest (a.put o.dst undef) w'):wpList P ops Q (o::rest) a w :=
 Bt hgd ty x y ho b hx vs hy us D hl hi h1 (h _ (FW vs 0 (Kept.refl b w)) (D.all vs hl))
open Go.RowKit
def Enters(P:Program)(f:FuncId):Prop:=∃ fn,P.funcs[f]?=some fn/\(fn.name == "runtime.NumGoroutine")=false/\fn.body.isNone=false
theorem FX{P:Program}{f:FuncId}(hf:Enters P f)(vs:Array Value)(w:World):(callFunc f vs).run P w=.ok (.enter f vs) w:=by
 obtain⟨fn,h1,h2,h3⟩:=hf;unfold callFunc;simp only[Sem.run_bind,show(program:Sem Program).run P w=.ok P w from rfl,Result.andThen_ok,h1,h2,h3];rfl
theorem G4{P:Program}{w:World}{o:Oper}{a:Act}{K:Act->World->Prop}{Q:Exit->Act->World->Prop}{f:FuncId}{vs:Array Value}(e:(execOp a.eval o).run P w=.ok (.enter f vs) w){R:Ending->World->Prop}(hc:Calls P f vs w R)
 (h:∀ e w',R e w'->∃ v,e=.returned v/\K (a.put o.dst v) w'):o.wp P a w K Q:=by
 unfold Oper.wp;rw[e,Oper.upon_enter];refine hc.mono fun e w' hR=>?_;obtain⟨v,rfl,hK⟩:=h e w' hR;exact hK
theorem As{P:Program}{w:World}{o:Oper}{a:Act}{K:Act->World->Prop}{Q:Exit->Act->World->Prop}{f:FuncId}(hf:Enters P f)(xs:Array Operand)(ts:Array TypeId)
 (ho:o.op=.call { callee:=.value (.func f),args:=xs,argTypes:=ts }) (vs:Array Value) (hv:xs.map a.eval=vs) {R:Ending->World->Prop} (hc:Calls P f vs w R)
 (h:∀ e w',R e w'->∃ v,e=.returned v/\K (a.put o.dst v) w'):o.wp P a w K Q:=by
 refine G4 ?_ hc h;unfold execOp;have e0:(#[]++vs++#[]:Array Value)=vs:=by simp
 simp only[ho,resolve,invoke,Deferred.ofValue,hv,Sem.run_bind,Sem.run_pure,Result.andThen_ok,Act.eval,e0];exact FX hf vs w
theorem C8{P:Program}{w:World}{o:Oper}{a:Act}{K:Act->World->Prop}{Q:Exit->Act->World->Prop}{f:FuncId}(hf:Enters P f)(x:Operand)(name:String)(xs:Array Operand)(ts:Array TypeId)
 (ho:o.op=.call { callee:=.invoke x name,args:=xs,argTypes:=ts }) (t:TypeId) (v:Value) (hx:a.eval x=.iface t v) (r:Value) (hm:(method (P.types.size+Made.depth) t v name).run P w=.ok (f,r) w) (vs:Array Value) (hv:#[r]++xs.map a.eval=vs) {R:Ending->World->Prop} (hc:Calls P f vs w R)
 (h:∀ e w',R e w'->∃ v,e=.returned v/\K (a.put o.dst v) w'):o.wp P a w K Q:=by
 refine G4 ?_ hc h;unfold execOp;simp only[ho,resolve,hx,Sem.run_bind,Sem.run_pure,Result.andThen_ok];unfold invoke;have e1:(#[Value.iface t v]++xs.map a.eval)[0]?=some (.iface t v):=by rw[Array.getElem?_append_left (by simp)]; rfl
 have e2:(#[Value.iface t v]++xs.map a.eval).extract 1 (#[Value.iface t v]++xs.map a.eval).size=xs.map a.eval:=by apply Array.ext'; simp; exact List.take_of_length_le (by simp)
 rw[e1];simp only[e2];unfold callMethod;simp only[Sem.run_bind,show(program:Sem Program).run P w=.ok P w from rfl,Result.andThen_ok,hm,hv];exact FX hf vs w
theorem AP{W:World}{v:Value}{K:Value->World->Prop}(h:∀ w',Below W.heap.size W w'->K v w'):∀(e:Ending) (w':World),(e=.returned v/\Below W.heap.size W w')->∃ v,e=.returned v/\K v w':=fun _ w' ⟨he,B⟩=>⟨v,he,h w' B⟩
open Go.RowKit
open M
structure InAt(w:World)(b o:Nat)(q:In):Prop where
 c0:w.cell? ⟨b,o,none⟩=some (.int .i64 q.s)
 c1:w.cell? ⟨b,o+1,none⟩=some (.int .i64 q.p)
 c2:w.cell? ⟨b,o+2,none⟩=some (.bool q.z)
def Inputs(w:World)(A:Option Addr)(n:Nat)(xs:List In):Prop :=
 xs.length=n/\(0<n->∃ b off,A=some ⟨b,off,none⟩/\b<w.heap.size/\∀ k,k<n->InAt w b (off+k*3) (xs.getD k iz))
theorem InAt.of{w w':World}{b o:Nat}{q:In}(h:InAt w b o q)(e:w'.heap[b]?=w.heap[b]?):InAt w' b o q :=
 ⟨(World.cell?_of_block (a:=⟨b,o,none⟩) e).trans h.c0,(World.cell?_of_block (a:=⟨b,o+1,none⟩) e).trans h.c1,(World.cell?_of_block (a:=⟨b,o+2,none⟩) e).trans h.c2⟩
theorem Inputs.step{w w':World}{A:Option Addr}{n:Nat}{xs:List In}(h:Inputs w A n xs)(B:Below w.heap.size w w'):Inputs w' A n xs :=
 ⟨h.1,fun hn=>by
  obtain⟨b,off,e,hb,hc⟩:=h.2 hn;exact⟨b,off,e,Nat.lt_of_lt_of_le hb B.size,fun k hk=>(hc k hk).of (B.block b hb)⟩⟩
theorem Inputs.alloc{w:World}{A:Option Addr}{n:Nat}{xs:List In}(h:Inputs w A n xs)(o:Obj):Inputs (w.alloc o) A n xs:=h.step (Aa (Ac w) o)
theorem Inputs.drew{w:World}{A:Option Addr}{n:Nat}{xs:List In}(h:Inputs w A n xs):Inputs w.drew A n xs:=h.step (Ac w).drew
theorem Inputs.nil(w:World)(A:Option Addr):Inputs w A 0 []:=⟨rfl,fun h=>absurd h (by omega)⟩
theorem Inputs.kept{w w':World}{A:Option Addr}{n r:Nat}{xs:List In}(h:Inputs w A n xs)(K:Kept r w w')(hA:0<n->∀ k off,A=some ⟨k,off,none⟩->k≠r):Inputs w' A n xs :=
 ⟨h.1,fun hn=>by
  obtain⟨b,off,e,hb,hc⟩:=h.2 hn;exact⟨b,off,e,Nat.lt_of_lt_of_le hb K.size,fun k hk=>(hc k hk).of (K.block b hb (hA hn b off e))⟩⟩
theorem Inputs.grown{W w':World}{A:Option Addr}{n:Nat}{xs:List In}{row:Option Nat}(h:Inputs W A n xs)(hg:W.grownBy w' row)(hr:0<n->∀ k off,A=some ⟨k,off,none⟩->row≠some k):Inputs w' A n xs :=
 ⟨h.1,fun hn=>by
  obtain⟨b,off,e,hb,hc⟩:=h.2 hn;exact⟨b,off,e,Nat.lt_of_lt_of_le hb hg.size,fun k hk=>(hc k hk).of (hg.block b hb (fun e'=>hr hn b off e e'.symm))⟩⟩
theorem Inputs.lt{w:World}{A:Option Addr}{n:Nat}{xs:List In}(h:Inputs w A n xs)(hn:0<n):∀ k off,A=some ⟨k,off,none⟩->k<w.heap.size:=fun k off e=>by
 obtain⟨b,off',e',hb,_⟩:=h.2 hn;rw[e'] at e;cases e
 exact hb
theorem Inputs.take{w:World}{A:Option Addr}{n:Nat}{xs:List In}(h:Inputs w A n xs){j:Nat}(hj:j<=n):Inputs w A j (xs.take j) :=
 ⟨by rw[List.length_take,h.1]; omega,fun h0=>by
  obtain⟨b,off,e,hb,hc⟩:=h.2 (by omega);refine⟨b,off,e,hb,fun k hk=>?_⟩;have t:=hc k (by omega);have e2:(xs.take j).getD k iz=xs.getD k iz:=by simp[List.getD_eq_getElem?_getD,hk]
  rw[e2];exact t⟩
def EW:List In->List Value
 | []=>[]
 | q::xs=>.int .i64 q.s::.int .i64 q.p::.bool q.z::EW xs
def Jg(q:In):Nat->Value
 | 0=>.int .i64 q.s
 | 1=>.int .i64 q.p
 | _=>.bool q.z
theorem Gd:∀(xs:List In) (k r:Nat),k<xs.length->r<3->(EW xs)[k*3+r]?=some (Jg (xs.getD k iz) r)
 | [],k,r,h,_=>absurd h (by simp)
 | q::xs,0,r,_,hr=>by
  match r,hr with
  | 0,_=>rfl
  | 1,_=>rfl
  | 2,_=>rfl
 | q::xs,k+1,r,h,hr=>by
  have t:=Gd xs k r (by simpa using h) hr;have e:(k+1)*3+r=(k*3+r)+1+1+1:=by omega
  rw[e];simp only[EW,List.getElem?_cons_succ];rw[t];rfl
theorem FC:∀ xs:List In,(EW xs).length=xs.length*3
 | []=>rfl
 | q::xs=>by simp only[EW,List.length_cons,FC xs]; omega
theorem HH:∀ qs xs:List In,EW (qs++xs)=EW qs++EW xs
 | [],_=>rfl
 | q::qs,xs=>by simp only[List.cons_append,EW,HH qs xs]
theorem M6:∀ xs:List In,∀ u∈EW xs,u.oneCell'=true
 | [],u,h=>by cases h
 | q::xs,u,h=>by
  simp only[EW,List.mem_cons] at h;rcases h with rfl | rfl | rfl | h
  . rfl
  . rfl
  . rfl
  . exact M6 xs u h
theorem InAt.comp{w:World}{b o:Nat}{q:In}(h:InAt w b o q){r:Nat}(hr:r<3):w.cell? ⟨b,o+r,none⟩=some (Jg q r):=by
 match r,hr with
 | 0,_=>exact h.c0
 | 1,_=>exact h.c1
 | 2,_=>exact h.c2
theorem Inputs.news{w:World}{b off m:Nat}{xs:List In}(I:Inputs w (some ⟨b,off,Option.none⟩) m xs):∀ j u,(EW xs)[j]?=some u->w.cell? ((⟨b,off,Option.none⟩:Addr).add j)=some u:=by
 intro j u hj;have hl:j<xs.length*3:=by
  rw[<- FC];rcases Nat.lt_or_ge j (EW xs).length with h | h
  . exact h
  . rw[List.getElem?_eq_none h] at hj; cases hj
 obtain⟨b',off',e,_,hc⟩:=I.2 (by have:=I.1; omega);cases e
 have ej:j=(j / 3)*3+j % 3:=by omega
 have hk:j / 3<xs.length:=by omega
 rw[ej,Gd xs _ _ hk (by omega)] at hj;cases hj
 rw[Addr.add_lit];have t:=(hc (j / 3) (by have:=I.1; omega)).comp (r:=j % 3) (by omega);rw[Nat.add_assoc,<- ej] at t;exact t
theorem Inputs.of_own{w:World}{base:Nat}{e:TypeId}{v:Value}{n:Nat}{xs:List In}(h:w.ownsRow base e 3 v n (EW xs)):∃ A cap,v=.slice A n cap/\Inputs w A n xs/\(∀ g off,A=some ⟨g,off,none⟩->base<=g):=by
 have hl:xs.length=n:=by have:=h.1; rw[FC] at this; omega
 have h0:=h;rcases h0.2 with⟨rfl,rfl⟩ | ⟨g,cap,cur,rfl,hbg,hh,_⟩
 . exact⟨none,0,rfl,⟨hl,fun hn=>by omega⟩,fun g off e=>by cases e⟩
 . refine⟨_,_,rfl,⟨hl,fun _=>⟨g,0,rfl,(h.lt g rfl).2,fun k hk=>?_⟩⟩,fun g' off e=>by cases e; exact hbg⟩;have hc:∀ r,r<3->w.cell? ⟨g,0+k*3+r,none⟩=some (Jg (xs.getD k iz) r):=fun r hr=>by
    rw[Nat.zero_add,h.cellAt (k*3+r) (by omega),Gd xs _ _ (by omega) hr]
   exact⟨hc 0 (by omega),hc 1 (by omega),hc 2 (by omega)⟩
theorem Hj:(Tryz.prog.info? 47).map (·.size)=some 3:=by kernel_rfl
theorem DW:(Tryz.prog.info? 47).map (fun i=>(i.zero,i.size,i.bytes))=some (some (DV 0 0 false),3,24):=by kernel_rfl
theorem G8(w:World)(base:Nat)(ty:TypeId)(v:Value)(n:Nat)(xs:List Value)(hown:w.ownsRow base 47 3 v n xs)(c:Nat) :
 (Builtin.append_ #[30,30] ty #[v,.slice none 0 c]).run Tryz.prog w=.ok v w:=by
 obtain⟨i0,hi,hz0,hz1,hz2⟩:=info_parts DW;rcases hown.2 with⟨rfl,rfl⟩ | ⟨g,cap,cur,rfl,_,_,hnc,_⟩
 . simp[Builtin.append_,run_underlying Tryz.underlying30,sizeOf,typeInfo,hi,Builtin.lenOf,Builtin.firstCells]
 . simp[Builtin.append_,run_underlying Tryz.underlying30,sizeOf,typeInfo,hi,Builtin.lenOf,Builtin.firstCells,hnc,storeCells]
theorem Dt(w:World)(base:Nat)(ty:TypeId)(v:Value)(n:Nat)(qs:List In)(hown:w.ownsRow base 47 3 v n (EW qs))(A:Option Addr)(m c:Nat)(xs:List In)(I:Inputs w A m xs)
 (hn:n+m<=10000000) (hb:base<=w.heap.size) :
 ∃ v' w',(Builtin.append_ #[30,30] ty #[v,.slice A m c]).run Tryz.prog w=.ok v' w'/\w'.ownsRow base 47 3 v' (n+m) (EW (qs++xs))/\w.grownBy w' v.ownBlock/\(v'.ownBlock=v.ownBlock\/v'.ownBlock=some w.heap.size):=by
 obtain⟨i0,hi,hz0,hz1,hz2⟩:=info_parts DW;by_cases h:∃ b off,A=some ⟨b,off,Option.none⟩
 . obtain⟨b,off,rfl⟩:=h;obtain⟨v',w',hr,h2,h3,_,h5⟩:=run_append_own_at (P:=Tryz.prog) w base 30 ty 47 i0 (DV 0 0 false) 3 24 Tryz.underlying30 hi hz0 hz1 hz2 rfl (by decide) v n _ hown ⟨b,off,Option.none⟩ m c (EW xs) (by rw[FC,I.1]) I.news (M6 _) (by unfold maxLen; omega) (by omega) hb;exact⟨v',w',hr,by rw[HH]; exact h2,h3,h5⟩
 . have hm:m=0:=by
    rcases Nat.eq_zero_or_pos m with h0 | h0
    . exact h0
    . obtain⟨b,off,e,_⟩:=I.2 h0;exact(h ⟨b,off,e⟩).elim
   subst hm;have hy:xs=[]:=List.eq_nil_of_length_eq_zero I.1;subst hy;cases A with
   | none=>exact⟨v,w,G8 w base ty v n _ hown c,by simpa using hown,World.grownBy.refl w _,.inl rfl⟩
   | some ad =>
    obtain⟨v',w',hr,h2,h3,_,h5⟩:=run_append_own_at (P:=Tryz.prog) w base 30 ty 47 i0 (DV 0 0 false) 3 24 Tryz.underlying30 hi hz0 hz1 hz2 rfl (by decide) v n _ hown ad 0 c [] rfl (fun j u hj=>by simp at hj) (fun u hu=>by simp at hu) (by unfold maxLen; omega) (by omega) hb;exact⟨v',w',hr,by simpa using h2,h3,h5⟩
theorem Dz(w:World){ops:Array Oper}{rest:List Oper}{o:Oper}{a:Act}{Q:Exit->Act->World->Prop}(hgd:o.guard=Option.none)(s x:Operand)
 (ho:o.op=.call { callee:=.builtin .append,args:=#[s,x],argTypes:=#[30,30] }) (base:Nat) (v:Value) (n:Nat) (qs:List In) (hs:a.eval s=v) (hown:w.ownsRow base 47 3 v n (EW qs))
 (A:Option Addr) (m c:Nat) (xs:List In) (hx:a.eval x=.slice A m c) (I:Inputs w A m xs) (hn:n+m<=10000000) (hb:base<=w.heap.size)
 (h:∀ v' w',w'.ownsRow base 47 3 v' (n+m) (EW (qs++xs))->w.grownBy w' v.ownBlock->(v'.ownBlock=v.ownBlock\/v'.ownBlock=some w.heap.size)->wpList Tryz.prog ops Q rest (a.put o.dst v') w') :
 wpList Tryz.prog ops Q (o::rest) a w:=by
 refine wpList_plain hgd fun K hK=>?_;obtain⟨v',w',hr,h2,h3,h4⟩:=Dt w base o.type v n qs hown A m c xs I hn hb;unfold Oper.wp execOp;simp only[ho,resolve,invoke,builtin,Sem.run_bind,Sem.run_pure,Result.andThen_ok,List.map_toArray,List.map_cons,List.map_nil,hs,hx,hr];exact hK _ _ (h v' w' h2 h3 h4)
theorem Inputs.one(w:World)(B:Nat)(s p:Int)(z:Bool)(t:TypeId)(hB:B=w.heap.size):Inputs (w.alloc (.cells #[.int .i64 s,.int .i64 p,.bool z] t)) (some ⟨B,0,none⟩) 1 [⟨s,p,z⟩] :=
 hB▸⟨rfl,fun _=>⟨w.heap.size,0,rfl,by simp,fun k hk=>by
  match k,hk with
  | 0,_=>exact⟨by simp,by simp,by simp⟩⟩⟩
theorem FD(W:World)(base B:Nat)(hB:B=W.heap.size)(hb:base<=W.heap.size):(W.alloc (.cells #[] 47)).ownsRow base 47 3 (.slice (some ⟨B,0,none⟩) 0 0) 0 (EW []):=by
 subst hB;exact World.ownsRow_lit W #[] 0 hb (Nat.zero_le _) rfl
end Go.Proofs.YtaemcekcancpdabGreatDoor
namespace Go.Proofs.YtaemcekcancpdabGreatDoor
namespace M
def IY(ps:Int)(z:Bool):Int:=if z then ps+1 else ps
def El(t b i ps s0:Int)(q:In):Bool:=decide (t<=i)||decide (3<IY ps q.z)||!Gf b s0 q.s q.p q.z
def JP(t b:Int):List In->Int->Int->Int->Int
 | [],_,_,_=>-1
 | q::xs,i,ps,s0=>if El t b i ps s0 q then i else JP t b xs (i+1) (IY ps q.z) q.s
def IZ(t b:Int)(xs:List In):Int:=JP t b xs 0 0 0
def DC(i t x y:Int)(ws gs:List Bx)(fp fq fs fz b:Int)(xs:List In):Int:=if Cn i t x y ws gs fp fq fs fz b then IZ t b xs else 0
theorem BX{t b i ps s0:Int}{q:In}{xs:List In}(h:El t b i ps s0 q=true):JP t b (q::xs) i ps s0=i:=by simp[JP,h]
theorem FE{t b i ps s0:Int}{q:In}{xs:List In}(h:El t b i ps s0 q=false):JP t b (q::xs) i ps s0=JP t b xs (i+1) (IY ps q.z) q.s:=by simp[JP,h]
theorem PH{t b i ps s0:Int}{q:In}(h:El t b i ps s0 q=false):i<t/\IY ps q.z<=3/\Gf b s0 q.s q.p q.z=true:=by
 simp only[El,Bool.or_eq_false_iff,decide_eq_false_iff_not,Bool.not_eq_false'] at h;exact⟨by omega,by omega,h.2⟩
theorem RE{t b i ps s0:Int}{q:In}(h:t<=i):El t b i ps s0 q=true:=by simp[El,h]
theorem UN{t b i ps s0:Int}{q:In}(h:3<IY ps q.z):El t b i ps s0 q=true:=by simp[El,h]
theorem RF{t b i ps s0:Int}{q:In}(h:Gf b s0 q.s q.p q.z=false):El t b i ps s0 q=true:=by simp[El,h]
theorem JQ{t b i ps s0:Int}{q:In}(h1:i<t)(h2:IY ps q.z<=3)(h3:Gf b s0 q.s q.p q.z=true):El t b i ps s0 q=false:=by
 have a1:¬ t<=i:=by omega
 have a2:¬ 3<IY ps q.z:=by omega
 simp[El,a1,a2,h3]
theorem Ge{b s0 s p:Int}{z:Bool}(h:Gf b s0 s p z=true):DU s p z=true:=by
 simp only[Gf,Bool.and_eq_true] at h;exact h.1.1.1
theorem Jh(t b:Int):∀(xs:List In) (i ps s0:Int),JP t b xs i ps s0=-1\/(i<=JP t b xs i ps s0/\JP t b xs i ps s0<i+xs.length)
 | [],i,ps,s0=>.inl rfl
 | q::xs,i,ps,s0=>by
  cases h:El t b i ps s0 q
  . rw[FE h];rcases Jh t b xs (i+1) (IY ps q.z) q.s with g | g
    . exact .inl g
    . right;simp only[List.length_cons];omega
  . rw[BX h];right;simp only[List.length_cons];omega
theorem JR(t b:Int):∀(xs:List In) (k:Nat) (i ps s0:Int),0<=i->JP t b xs i ps s0=-1->JP t b (xs.take k) i ps s0=-1
 | [],k,i,ps,s0,_,_=>by simp[JP]
 | q::xs,0,i,ps,s0,_,_=>rfl
 | q::xs,k+1,i,ps,s0,hi,h=>by
  cases g:El t b i ps s0 q
  . rw[FE g] at h;rw[List.take_succ_cons,FE g];exact JR t b xs k _ _ _ (by omega) h
  . rw[BX g] at h;omega
theorem drop_at{xs:List In}{k:Nat}(h:k<xs.length):xs.drop k=xs.getD k iz::xs.drop (k+1):=by
 rw[List.drop_eq_getElem_cons h];simp[List.getD_eq_getElem?_getD,h]
end M
end Go.Proofs.YtaemcekcancpdabGreatDoor
namespace Go.Proofs.YtaemcekcancpdabGreatDoor
open Go.RowKit
open M
theorem L4(w:World):(Instr.buildSlice 30 0 #[]).run Tryz.prog w=.ok (.slice (some ⟨w.heap.size,0,none⟩) 0 0) (w.alloc (.cells #[] 47)):=by
 obtain⟨i0,hi,hz0,hz1,hz2⟩:=info_parts DW;simp[Instr.buildSlice,run_underlying Tryz.underlying30,sizeOf,typeInfo,hi,Instr.fill,newRow]
 first | rfl | kernel_rfl | simp[Array.range]
theorem EP{w:World}{o:Oper}{a:Act}{K:Act->World->Prop}{Q:Exit->Act->World->Prop}(hop:o.op=.buildSlice 30 0 #[])
 (h:∀(g:Nat) (w':World),Below w.heap.size w w'->w.heap.size<=g->w'.ownsRow g 47 3 (.slice (some ⟨g,0,none⟩) 0 0) 0 (EW [])->K (a.put o.dst (.slice (some ⟨g,0,none⟩) 0 0)) w'):o.wp Tryz.prog a w K Q:=by
 unfold Oper.wp execOp;simp only[hop,Sem.run_bind,List.map_toArray,List.map_nil,L4,Result.andThen_ok];exact h _ _ (Aa (Ac w) _) (Nat.le_refl _) (FD w _ _ rfl (Nat.le_refl _))
theorem Db{w:World}{o:Oper}{a:Act}{K:Act->World->Prop}{Q:Exit->Act->World->Prop}(x:Operand)(hop:o.op=.buildSlice 30 1 #[(0,x)])(s p:Int)(z:Bool)(hx:a.eval x=DV s p z)
 (h:∀(g:Nat) (w':World),Below w.heap.size w w'->w.heap.size<=g->Inputs w' (some ⟨g,0,none⟩) 1 [⟨s,p,z⟩]->K (a.put o.dst (.slice (some ⟨g,0,none⟩) 1 1)) w'):o.wp Tryz.prog a w K Q:=by
 obtain⟨i0,hi,hz0,hz1,hz2⟩:=info_parts DW;refine wp_buildSlice 30 47 1 _ hop #[.int .i64 s,.int .i64 p,.bool z] i0 (DV 0 0 false) Tryz.underlying30 hi hz0 (by rw[hz1]; decide) (by rw[hz1]; decide) ?_ (h _ _ (Aa (Ac w) _) (Nat.le_refl _) (Inputs.one w _ s p z _ rfl));rw[hz1];simp only[List.map_toArray,List.map_cons,List.map_nil,hx]
 first | kernel_rfl | (simp[Instr.fill,Array.range,Value.cells]; done) | go_simp
theorem Bf{w:World}{o:Oper}{a:Act}{K:Act->World->Prop}{Q:Exit->Act->World->Prop}(s x:Operand)
 (ho:o.op=.call { callee:=.builtin .append,args:=#[s,x],argTypes:=#[30,30] }) (base:Nat) (v:Value) (n:Nat) (qs:List In) (hs:a.eval s=v) (hown:w.ownsRow base 47 3 v n (EW qs))
 (A:Option Addr) (m c:Nat) (xs:List In) (hx:a.eval x=.slice A m c) (I:Inputs w A m xs) (hn:n+m<=10000000) (hb:base<=w.heap.size)
 (h:∀ v' w',w'.ownsRow base 47 3 v' (n+m) (EW (qs++xs))->w.grownBy w' v.ownBlock->K (a.put o.dst v') w'):o.wp Tryz.prog a w K Q:=by
 obtain⟨v',w',hr,h2,h3,_⟩:=Dt w base o.type v n qs hown A m c xs I hn hb;unfold Oper.wp execOp;simp only[ho,resolve,invoke,builtin,Sem.run_bind,Sem.run_pure,Result.andThen_ok,List.map_toArray,List.map_cons,List.map_nil,hs,hx,hr];exact h v' w' h2 h3
theorem M7{W:World}{base lo:Nat}{e:TypeId}{sz:Nat}{v:Value}{n:Nat}{xs:List Value}(h:W.ownsRow base e sz v n xs)(hb:lo<=base):W.ownsRow lo e sz v n xs :=
 ⟨h.1,h.2.imp id (fun⟨g,cap,cur,e1,hg,r⟩=>⟨g,cap,cur,e1,Nat.le_trans hb hg,r⟩)⟩
end Go.Proofs.YtaemcekcancpdabGreatDoor
