import Derived.Test.YtaemcekcancpdaaGreatDoorZLevS
import Derived.Deep.MidRow
import Derived.Maps.AppendAt
import Derived.OwnWalk
import Derived.Laws.OwnMore
set_option linter.all false
set_option maxRecDepth 100000
set_option maxHeartbeats 8000000
namespace Go.Proofs.YtaemcekcancpdaaGreatDoor
open Go.RowKit
theorem CellsAt.range{W:World}{b:Nat}{vs:List Value}(h:CellsAt W b vs):W.rangeAt b 0 vs:=fun j v hj=>by rw[Nat.zero_add]; exact h.cell j v hj
theorem CellsAt.there{W:World}{b:Nat}{vs:List Value}(h:CellsAt W b vs){n:Nat}(hn:n<=vs.length):W.there b 0 n:=fun j hj=>by
 rw[Nat.zero_add];exact⟨by rw[h.cell j _ (List.getElem?_eq_getElem (by omega))]; rfl,h.fr j⟩
theorem OZ{b:Nat}{W A:World}(h:Kept b W A)(o:Nat)(v:Value):Kept b W (A.setCell ⟨b,o,none⟩ v):=h.trans (Kept.step A b v o 0)
theorem FC{b:Nat}{W:World}:∀(vs:List Value) (o:Nat) {A:World},Kept b W A->Kept b W (A.setCells b o vs)
 | [],_,_,h=>h
 | v::vs,o,_,h=>FC vs (o+1) (OZ h o v)
theorem CellsAt.all{W:World}{b:Nat}{us:List Value}(h:CellsAt W b us)(vs:List Value)(hl:vs.length<=us.length):CellsAt (W.setCells b 0 vs) b vs :=
 ⟨fun j v hj=>by have:=World.rangeAt_setCells_same W b 0 vs (h.there hl) j v hj; rwa [Nat.zero_add] at this,fun j=>by rw[World.frozen?_setCells]; exact h.fr j,Nat.lt_of_lt_of_le h.lt (FC vs 0 (Kept.refl b W)).size⟩
theorem Kept.sets'{r:Nat}{w a:World}(h:Kept r w a){b:Nat}(hb:w.heap.size<=b)(o:Nat)(vs:List Value):Kept r w (a.setCells b o vs) :=
 have K:=FC vs o (Kept.refl b a)
 ⟨K.os.trans h.os,K.tape.trans h.tape,K.output.trans h.output,Nat.le_trans h.size K.size,fun j hj hr=>(K.block j (Nat.lt_of_lt_of_le hj h.size) (by omega)).trans (h.block j hj hr)⟩
theorem RdU.sets'{B:Nat}{w:World}{r:Nat}{k:Int}(R:RdU B w r k){b:Nat}(hb:B<=b)(o:Nat)(vs:List Value):RdU B (w.setCells b o vs) r k :=
 R.below ((FC vs o (Kept.refl b w)).below R.base hb)
theorem Af{P:Program}{ops:Array Oper}{rest:List Oper}{o:Oper}{a:Act}{w:World}{Q:Exit->Act->World->Prop}(hgd:o.guard=none)(ty:TypeId)(x:Operand)(ho:o.op=.load ty x)
 (b:Nat) (hx:a.eval x=.pointer (some ⟨b,0,none⟩)) (vs:List Value) (L:CellsAt w b vs) {d:TypeDesc} (hu:P.underlying ty=some d) (hd:d.isRow=true) (hi:(P.info? ty).map (·.size)=some vs.length)
 (h:wpList P ops Q rest (a.put o.dst (.agg vs.toArray)) w):wpList P ops Q (o::rest) a w :=
 wpList_load_mid hgd ty x ho b 0 hx vs d L.range hu hd hi h
theorem Bt{P:Program}{ops:Array Oper}{rest:List Oper}{o:Oper}{a:Act}{w:World}{Q:Exit->Act->World->Prop}(hgd:o.guard=none)(ty:TypeId)(x y:Operand)(ho:o.op=.store ty x y)
 (b:Nat) (hx:a.eval x=.pointer (some ⟨b,0,none⟩)) (vs:List Value) (hy:a.eval y=.agg vs.toArray) (us:List Value) (D:CellsAt w b us) (hl:vs.length<=us.length) (hi:(P.info? ty).map (·.size)=some vs.length) (h1:vs.all (·.oneCell')=true)
 (h:wpList P ops Q rest (a.put o.dst undef) (w.setCells b 0 vs)):wpList P ops Q (o::rest) a w :=
 wpList_store_mid hgd ty x y ho b 0 vs.toArray hx hy (by simpa using D.there hl) (by simpa using hi) (by rw[List.all_toArray]; exact h1) (by simpa using h)
theorem An{P:Program}{fn:Func}{p:Tmp}{ty:TypeId}{tmps:Array Value}{w:World}(h:fn.results=#[.cell p ty])(b:Nat)(hp:tmps[p]?.getD undef=.pointer (some ⟨b,0,none⟩))(vs:List Value)(L:CellsAt w b vs){d:TypeDesc}
 (hu:P.underlying ty=some d) (hd:d.isRow=true) (hi:(P.info? ty).map (·.size)=some vs.length):(results fn tmps).run P w=.ok (.agg vs.toArray) w:=by
 simp[results,h,hp,asAddr,run_loadVar_mid w b 0 ty vs d L.range hu hd hi]
theorem AY{P:Program}{fn:Func}{p q:Tmp}{ty:TypeId}{tmps:Array Value}{w:World}(h:fn.results=#[.cell p ty,.tmp q])(b:Nat)(hp:tmps[p]?.getD undef=.pointer (some ⟨b,0,none⟩))(vs:List Value)(L:CellsAt w b vs)(v:Value)(hq:tmps[q]?.getD undef=v){d:TypeDesc}
 (hu:P.underlying ty=some d) (hd:d.isRow=true) (hi:(P.info? ty).map (·.size)=some vs.length):(results fn tmps).run P w=.ok (.tuple #[.agg vs.toArray,v]) w:=by
 simp[results,h,hp,hq,asAddr,run_loadVar_mid w b 0 ty vs d L.range hu hd hi]
theorem Ca:(Tryz.prog.info? 24).map (·.size)=some 2:=by kernel_rfl
theorem Ad:(Tryz.prog.info? 29).map (·.size)=some 11:=by kernel_rfl
open Go.RowKit
theorem Hy{P:Program}{o:Oper}{a:Act}{w:World}{K:Act->World->Prop}{Q:Exit->Act->World->Prop}(ty:TypeId)(x y:Operand)(ho:o.op=.store ty x y)
 (b:Nat) (hx:a.eval x=.pointer (some ⟨b,0,none⟩)) (vs:List Value) (hy:a.eval y=.agg vs.toArray) (us:List Value) (D:CellsAt w b us) (hl:vs.length<=us.length) (hi:(P.info? ty).map (·.size)=some vs.length) (h1:vs.all (·.oneCell')=true)
 (h:K (a.put o.dst undef) (w.setCells b 0 vs)):o.wp P a w K Q :=
 wp_store_mid ty x y ho b 0 vs.toArray hx hy (by simpa using D.there hl) (by simpa using hi) (by rw[List.all_toArray]; exact h1) (by simpa using h)
theorem Au{P:Program}{o:Oper}{a:Act}{w:World}{K:Act->World->Prop}{Q:Exit->Act->World->Prop}(ty:TypeId)(x y:Operand)(ho:o.op=.store ty x y)
 (b:Nat) (hx:a.eval x=.pointer (some ⟨b,0,none⟩)) (vs:List Value) (hy:a.eval y=.agg vs.toArray) (us:List Value) (D:CellsAt w b us) (hl:vs.length<=us.length) (hi:(P.info? ty).map (·.size)=some vs.length) (h1:vs.all (·.oneCell')=true)
 (h:∀ w',Kept b w w'->CellsAt w' b vs->K (a.put o.dst undef) w'):o.wp P a w K Q :=
 Hy ty x y ho b hx vs hy us D hl hi h1 (h _ (FC vs 0 (Kept.refl b w)) (D.all vs hl))
theorem Ai{P:Program}{ops:Array Oper}{rest:List Oper}{o:Oper}{a:Act}{w:World}{Q:Exit->Act->World->Prop}(hgd:o.guard=none)(ty:TypeId)(x y:Operand)(ho:o.op=.store ty x y)
 (b:Nat) (hx:a.eval x=.pointer (some ⟨b,0,none⟩)) (vs:List Value) (hy:a.eval y=.agg vs.toArray) (us:List Value) (D:CellsAt w b us) (hl:vs.length<=us.length) (hi:(P.info? ty).map (·.size)=some vs.length) (h1:vs.all (·.oneCell')=true)
 (h:∀ w',Kept b w w'->CellsAt w' b vs->wpList P ops Q rest (a.put o.dst undef) w'):wpList P ops Q (o::rest) a w :=
 Bt hgd ty x y ho b hx vs hy us D hl hi h1 (h _ (FC vs 0 (Kept.refl b w)) (D.all vs hl))
open Go.RowKit
def Enters(P:Program)(f:FuncId):Prop:=∃ fn,P.funcs[f]?=some fn/\(fn.name == "runtime.NumGoroutine")=false/\fn.body.isNone=false
theorem FD{P:Program}{f:FuncId}(hf:Enters P f)(vs:Array Value)(w:World):(callFunc f vs).run P w=.ok (.enter f vs) w:=by
 obtain⟨fn,h1,h2,h3⟩:=hf;unfold callFunc;simp only[Sem.run_bind,show(program:Sem Program).run P w=.ok P w from rfl,Result.andThen_ok,h1,h2,h3];rfl
theorem GR{P:Program}{w:World}{o:Oper}{a:Act}{K:Act->World->Prop}{Q:Exit->Act->World->Prop}{f:FuncId}{vs:Array Value}(e:(execOp a.eval o).run P w=.ok (.enter f vs) w){R:Ending->World->Prop}(hc:Calls P f vs w R)
 (h:∀ e w',R e w'->∃ v,e=.returned v/\K (a.put o.dst v) w'):o.wp P a w K Q:=by
 unfold Oper.wp;rw[e,Oper.upon_enter];refine hc.mono fun e w' hR=>?_;obtain⟨v,rfl,hK⟩:=h e w' hR;exact hK
theorem Ax{P:Program}{w:World}{o:Oper}{a:Act}{K:Act->World->Prop}{Q:Exit->Act->World->Prop}{f:FuncId}(hf:Enters P f)(xs:Array Operand)(ts:Array TypeId)
 (ho:o.op=.call { callee:=.value (.func f),args:=xs,argTypes:=ts }) (vs:Array Value) (hv:xs.map a.eval=vs) {R:Ending->World->Prop} (hc:Calls P f vs w R)
 (h:∀ e w',R e w'->∃ v,e=.returned v/\K (a.put o.dst v) w'):o.wp P a w K Q:=by
 refine GR ?_ hc h;unfold execOp;have e0:(#[]++vs++#[]:Array Value)=vs:=by simp
 simp only[ho,resolve,invoke,Deferred.ofValue,hv,Sem.run_bind,Sem.run_pure,Result.andThen_ok,Act.eval,e0];exact FD hf vs w
theorem CY{P:Program}{w:World}{o:Oper}{a:Act}{K:Act->World->Prop}{Q:Exit->Act->World->Prop}{f:FuncId}(hf:Enters P f)(x:Operand)(name:String)(xs:Array Operand)(ts:Array TypeId)
 (ho:o.op=.call { callee:=.invoke x name,args:=xs,argTypes:=ts }) (t:TypeId) (v:Value) (hx:a.eval x=.iface t v) (r:Value) (hm:(method (P.types.size+Made.depth) t v name).run P w=.ok (f,r) w) (vs:Array Value) (hv:#[r]++xs.map a.eval=vs) {R:Ending->World->Prop} (hc:Calls P f vs w R)
 (h:∀ e w',R e w'->∃ v,e=.returned v/\K (a.put o.dst v) w'):o.wp P a w K Q:=by
 refine GR ?_ hc h;unfold execOp;simp only[ho,resolve,hx,Sem.run_bind,Sem.run_pure,Result.andThen_ok];unfold invoke;have e1:(#[Value.iface t v]++xs.map a.eval)[0]?=some (.iface t v):=by rw[Array.getElem?_append_left (by simp)]; rfl
 have e2:(#[Value.iface t v]++xs.map a.eval).extract 1 (#[Value.iface t v]++xs.map a.eval).size=xs.map a.eval:=by apply Array.ext'; simp; exact List.take_of_length_le (by simp)
 rw[e1];simp only[e2];unfold callMethod;simp only[Sem.run_bind,show(program:Sem Program).run P w=.ok P w from rfl,Result.andThen_ok,hm,hv];exact FD hf vs w
theorem AW{W:World}{v:Value}{K:Value->World->Prop}(h:∀ w',Below W.heap.size W w'->K v w'):∀(e:Ending) (w':World),(e=.returned v/\Below W.heap.size W w')->∃ v,e=.returned v/\K v w':=fun _ w' ⟨he,B⟩=>⟨v,he,h w' B⟩
open Go.RowKit
open M
theorem Kept.grows{r:Nat}{w w':World}(K:Kept r w w'):w.grownBy w' (some r):=⟨K.os,K.tape,K.output,K.size,fun k hk hne=>K.block k hk (fun e=>hne (by rw[e]))⟩
theorem Kept.grown{r:Nat}{w a b:World}{row:Option Nat}(K:Kept r w a)(hg:a.grownBy b row)(hr:∀ g,row=some g->w.heap.size<=g):Kept r w b :=
 ⟨hg.os.trans K.os,hg.tape.trans K.tape,hg.output.trans K.output,Nat.le_trans K.size hg.size,fun k hk hne=>(hg.block k (Nat.lt_of_lt_of_le hk K.size) (fun e=>by have:=hr k e.symm; omega)).trans (K.block k hk hne)⟩
theorem RdU.grown{B:Nat}{a b:World}{r:Nat}{k:Int}{row:Option Nat}(R:RdU B a r k)(hg:a.grownBy b row)(hr:∀ g,row=some g->B<=g):RdU B b r k :=
 R.below ((Below.refl _ _).grown hg R.base hr)
open Go.RowKit
open M
open Go.RowKit
open M
theorem CellsAt.grown{W w':World}{b:Nat}{vs:List Value}{row:Option Nat}(h:CellsAt W b vs)(hg:W.grownBy w' row)(hr:row≠some b):CellsAt w' b vs :=
 h.of (hg.block b h.lt (fun e=>hr e.symm)) hg.size
open Go.RowKit
open M
def EO(bs:List Bx):List Value:=(flat bs).map (Value.int .i64)
def comp(q:Bx):Nat->Int
 | 0=>q.a
 | 1=>q.b
 | 2=>q.c
 | _=>q.d
theorem MC:∀(bs:List Bx) (k r:Nat),k<bs.length->r<4->(flat bs)[k*4+r]?=some (comp (bs.getD k bz) r)
 | [],k,r,h,_=>absurd h (by simp)
 | q::bs,0,r,_,hr=>by
  match r,hr with
  | 0,_=>rfl
  | 1,_=>rfl
  | 2,_=>rfl
  | 3,_=>rfl
 | q::bs,k+1,r,h,hr=>by
  have t:=MC bs k r (by simpa using h) hr;have e:(k+1)*4+r=(k*4+r)+1+1+1+1:=by omega
  rw[e];simp only[flat,List.getElem?_cons_succ];rw[t];rfl
theorem Pb{bs:List Bx}{k r:Nat}(hk:k<bs.length)(hr:r<4):(EO bs)[k*4+r]?=some (.int .i64 (comp (bs.getD k bz) r)):=by
 unfold EO;rw[List.getElem?_map,MC bs k r hk hr];rfl
theorem JG(bs:List Bx):(EO bs).length=bs.length*4:=by
 unfold EO;rw[List.length_map,PC,Nat.mul_comm]
theorem Fi(qs bs:List Bx):EO (qs++bs)=EO qs++EO bs:=by simp[EO,KM]
theorem BoxAt.comp{w:World}{b o:Nat}{q:Bx}(h:BoxAt w b o q){r:Nat}(hr:r<4):w.cell? ⟨b,o+r,none⟩=some (.int .i64 (comp q r)):=by
 match r,hr with
 | 0,_=>exact h.c0
 | 1,_=>exact h.c1
 | 2,_=>exact h.c2
 | 3,_=>exact h.c3
theorem Boxes.news{w:World}{b off m:Nat}{bs:List Bx}(I:Boxes w (some ⟨b,off,Option.none⟩) m bs):∀ j u,(EO bs)[j]?=some u->w.cell? ((⟨b,off,Option.none⟩:Addr).add j)=some u:=by
 intro j u hj;have hl:j<bs.length*4:=by
  rw[<- JG];rcases Nat.lt_or_ge j (EO bs).length with h | h
  . exact h
  . rw[List.getElem?_eq_none h] at hj; cases hj
 obtain⟨b',off',e,_,hc⟩:=I.2 (by have:=I.1; omega);cases e
 have ej:j=(j / 4)*4+j % 4:=by omega
 have hk:j / 4<bs.length:=by omega
 rw[ej,Pb hk (by omega)] at hj;cases hj
 rw[Addr.add_lit];have t:=(hc (j / 4) (by have:=I.1; omega)).comp (r:=j % 4) (by omega);rw[Nat.add_assoc,<- ej] at t;exact t
theorem Boxes.of_own{w:World}{base:Nat}{e:TypeId}{v:Value}{n:Nat}{bs:List Bx}(h:w.ownsRow base e 4 v n (EO bs)):∃ A cap,v=.slice A n cap/\Boxes w A n bs/\(∀ g off,A=some ⟨g,off,none⟩->base<=g):=by
 have hl:bs.length=n:=by have:=h.1; rw[JG] at this; omega
 have h0:=h;rcases h0.2 with⟨rfl,rfl⟩ | ⟨g,cap,cur,rfl,hbg,hh,_⟩
 . exact⟨none,0,rfl,⟨hl,fun hn=>by omega⟩,fun g off e=>by cases e⟩
 . refine⟨_,_,rfl,⟨hl,fun _=>⟨g,0,rfl,(h.lt g rfl).2,fun k hk=>?_⟩⟩,fun g' off e=>by cases e; exact hbg⟩;have hc:∀ r,r<4->w.cell? ⟨g,0+k*4+r,none⟩=some (.int .i64 (comp (bs.getD k bz) r)):=fun r hr=>by
    rw[Nat.zero_add,h.cellAt (k*4+r) (by omega),Pb (by omega) hr]
   exact⟨hc 0 (by omega),hc 1 (by omega),hc 2 (by omega),hc 3 (by omega)⟩
theorem Boxes.kept{w w':World}{A:Option Addr}{n r:Nat}{bs:List Bx}(h:Boxes w A n bs)(K:Kept r w w')(hA:0<n->∀ k off,A=some ⟨k,off,none⟩->k≠r):Boxes w' A n bs :=
 ⟨h.1,fun hn=>by
  obtain⟨b,off,e,hb,hc⟩:=h.2 hn;exact⟨b,off,e,Nat.lt_of_lt_of_le hb K.size,fun k hk=>(hc k hk).of (K.block b hb (hA hn b off e))⟩⟩
theorem Boxes.lt{w:World}{A:Option Addr}{n:Nat}{bs:List Bx}(h:Boxes w A n bs)(hn:0<n):∀ k off,A=some ⟨k,off,none⟩->k<w.heap.size:=fun k off e=>by
 obtain⟨b,off',e',hb,_⟩:=h.2 hn;rw[e'] at e;cases e
 exact hb
theorem Hz:(Tryz.prog.info? 27).map (fun i=>(i.zero,i.size,i.bytes))=some (some (box 0 0 0 0),4,32):=by kernel_rfl
theorem EP(bs:List Bx):∀ u∈EO bs,u.oneCell'=true:=ints_oneCell _ _
theorem HA(w:World)(base:Nat)(ty:TypeId)(v:Value)(n:Nat)(xs:List Value)(hown:w.ownsRow base 27 4 v n xs)(c:Nat) :
 (Builtin.append_ #[25,25] ty #[v,.slice none 0 c]).run Tryz.prog w=.ok v w:=by
 obtain⟨i0,hi,hz0,hz1,hz2⟩:=info_parts Hz;rcases hown.2 with⟨rfl,rfl⟩ | ⟨g,cap,cur,rfl,_,_,hnc,_⟩
 . simp[Builtin.append_,run_underlying Tryz.underlying25,sizeOf,typeInfo,hi,Builtin.lenOf,Builtin.firstCells]
 . simp[Builtin.append_,run_underlying Tryz.underlying25,sizeOf,typeInfo,hi,Builtin.lenOf,Builtin.firstCells,hnc,storeCells]
theorem Ge(w:World)(base:Nat)(ty:TypeId)(v:Value)(n:Nat)(qs:List Bx)(hown:w.ownsRow base 27 4 v n (EO qs))(A:Option Addr)(m c:Nat)(bs:List Bx)(I:Boxes w A m bs)
 (hn:n+m<=1000000) (hb:base<=w.heap.size) :
 ∃ v' w',(Builtin.append_ #[25,25] ty #[v,.slice A m c]).run Tryz.prog w=.ok v' w'/\w'.ownsRow base 27 4 v' (n+m) (EO (qs++bs))/\w.grownBy w' v.ownBlock/\(v'.ownBlock=v.ownBlock\/v'.ownBlock=some w.heap.size):=by
 obtain⟨i0,hi,hz0,hz1,hz2⟩:=info_parts Hz;by_cases h:∃ b off,A=some ⟨b,off,Option.none⟩
 . obtain⟨b,off,rfl⟩:=h;obtain⟨v',w',hr,h2,h3,_,h5⟩:=run_append_own_at (P:=Tryz.prog) w base 25 ty 27 i0 (box 0 0 0 0) 4 32 Tryz.underlying25 hi hz0 hz1 hz2 rfl (by decide) v n _ hown ⟨b,off,Option.none⟩ m c (EO bs) (by rw[JG,I.1]) I.news (EP _) (by unfold maxLen; omega) (by omega) hb;exact⟨v',w',hr,by rw[Fi]; exact h2,h3,h5⟩
 . have hm:m=0:=by
    rcases Nat.eq_zero_or_pos m with h0 | h0
    . exact h0
    . obtain⟨b,off,e,_⟩:=I.2 h0;exact(h ⟨b,off,e⟩).elim
   subst hm;have hy:bs=[]:=List.eq_nil_of_length_eq_zero I.1;subst hy;cases A with
   | none=>exact⟨v,w,HA w base ty v n _ hown c,by simpa using hown,World.grownBy.refl w _,.inl rfl⟩
   | some ad =>
    obtain⟨v',w',hr,h2,h3,_,h5⟩:=run_append_own_at (P:=Tryz.prog) w base 25 ty 27 i0 (box 0 0 0 0) 4 32 Tryz.underlying25 hi hz0 hz1 hz2 rfl (by decide) v n _ hown ad 0 c [] rfl (fun j u hj=>by simp at hj) (fun u hu=>by simp at hu) (by unfold maxLen; omega) (by omega) hb;exact⟨v',w',hr,by simpa using h2,h3,h5⟩
theorem CZ(w:World){ops:Array Oper}{rest:List Oper}{o:Oper}{a:Act}{Q:Exit->Act->World->Prop}(hgd:o.guard=Option.none)(s x:Operand)
 (ho:o.op=.call { callee:=.builtin .append,args:=#[s,x],argTypes:=#[25,25] }) (base:Nat) (v:Value) (n:Nat) (qs:List Bx) (hs:a.eval s=v) (hown:w.ownsRow base 27 4 v n (EO qs))
 (A:Option Addr) (m c:Nat) (bs:List Bx) (hx:a.eval x=.slice A m c) (I:Boxes w A m bs) (hn:n+m<=1000000) (hb:base<=w.heap.size)
 (h:∀ v' w',w'.ownsRow base 27 4 v' (n+m) (EO (qs++bs))->w.grownBy w' v.ownBlock->(v'.ownBlock=v.ownBlock\/v'.ownBlock=some w.heap.size)->wpList Tryz.prog ops Q rest (a.put o.dst v') w') :
 wpList Tryz.prog ops Q (o::rest) a w:=by
 refine wpList_plain hgd fun K hK=>?_;obtain⟨v',w',hr,h2,h3,h4⟩:=Ge w base o.type v n qs hown A m c bs I hn hb;unfold Oper.wp execOp;simp only[ho,resolve,invoke,builtin,Sem.run_bind,Sem.run_pure,Result.andThen_ok,List.map_toArray,List.map_cons,List.map_nil,hs,hx,hr];exact hK _ _ (h v' w' h2 h3 h4)
theorem Boxes.one(w:World)(B:Nat)(a b c d:Int)(t:TypeId)(hB:B=w.heap.size):Boxes (w.alloc (.cells #[.int .i64 a,.int .i64 b,.int .i64 c,.int .i64 d] t)) (some ⟨B,0,none⟩) 1 [⟨a,b,c,d⟩] :=
 hB▸⟨rfl,fun _=>⟨w.heap.size,0,rfl,by simp,fun k hk=>by
  match k,hk with
  | 0,_=>exact⟨by simp,by simp,by simp,by simp⟩⟩⟩
open Go.RowKit
open M
theorem implOk'(n:Int)(b:Bool)(w:World)(h:okB n=b):Calls Tryz.prog 101 #[.int .i64 n] w fun e w'=>e=.returned (.bool b)/\w=w':=by
 subst h;exact HZ n w
open Go.RowKit
open M
structure M.Pt where
 x:Int
 y:Int
def M.pz:Pt:=⟨0,0⟩
structure PtAt(w:World)(b o:Nat)(q:Pt):Prop where
 c0:w.cell? ⟨b,o,none⟩=some (.int .i64 q.x)
 c1:w.cell? ⟨b,o+1,none⟩=some (.int .i64 q.y)
def Points(w:World)(A:Option Addr)(n:Nat)(xs:List Pt):Prop :=
 xs.length=n/\(0<n->∃ b off,A=some ⟨b,off,none⟩/\b<w.heap.size/\∀ k,k<n->PtAt w b (off+k*2) (xs.getD k pz))
theorem PtAt.of{w w':World}{b o:Nat}{q:Pt}(h:PtAt w b o q)(e:w'.heap[b]?=w.heap[b]?):PtAt w' b o q :=
 ⟨(World.cell?_of_block (a:=⟨b,o,none⟩) e).trans h.c0,(World.cell?_of_block (a:=⟨b,o+1,none⟩) e).trans h.c1⟩
theorem Points.step{w w':World}{A:Option Addr}{n:Nat}{xs:List Pt}(h:Points w A n xs)(B:Below w.heap.size w w'):Points w' A n xs :=
 ⟨h.1,fun hn=>by
  obtain⟨b,off,e,hb,hc⟩:=h.2 hn;exact⟨b,off,e,Nat.lt_of_lt_of_le hb B.size,fun k hk=>(hc k hk).of (B.block b hb)⟩⟩
theorem Points.alloc{w:World}{A:Option Addr}{n:Nat}{xs:List Pt}(h:Points w A n xs)(o:Obj):Points (w.alloc o) A n xs:=h.step (Aa (Ac w) o)
theorem Points.drew{w:World}{A:Option Addr}{n:Nat}{xs:List Pt}(h:Points w A n xs):Points w.drew A n xs:=h.step (Ac w).drew
theorem Points.nil(w:World)(A:Option Addr):Points w A 0 []:=⟨rfl,fun h=>absurd h (by omega)⟩
theorem Points.kept{w w':World}{A:Option Addr}{n r:Nat}{xs:List Pt}(h:Points w A n xs)(K:Kept r w w')(hA:0<n->∀ k off,A=some ⟨k,off,none⟩->k≠r):Points w' A n xs :=
 ⟨h.1,fun hn=>by
  obtain⟨b,off,e,hb,hc⟩:=h.2 hn;exact⟨b,off,e,Nat.lt_of_lt_of_le hb K.size,fun k hk=>(hc k hk).of (K.block b hb (hA hn b off e))⟩⟩
theorem Points.grown{W w':World}{A:Option Addr}{n:Nat}{xs:List Pt}{row:Option Nat}(h:Points W A n xs)(hg:W.grownBy w' row)(hr:0<n->∀ k off,A=some ⟨k,off,none⟩->row≠some k):Points w' A n xs :=
 ⟨h.1,fun hn=>by
  obtain⟨b,off,e,hb,hc⟩:=h.2 hn;exact⟨b,off,e,Nat.lt_of_lt_of_le hb hg.size,fun k hk=>(hc k hk).of (hg.block b hb (fun e'=>hr hn b off e e'.symm))⟩⟩
theorem Points.lt{w:World}{A:Option Addr}{n:Nat}{xs:List Pt}(h:Points w A n xs)(hn:0<n):∀ k off,A=some ⟨k,off,none⟩->k<w.heap.size:=fun k off e=>by
 obtain⟨b,off',e',hb,_⟩:=h.2 hn;rw[e'] at e;cases e
 exact hb
theorem Points.take{w:World}{A:Option Addr}{n:Nat}{xs:List Pt}(h:Points w A n xs){j:Nat}(hj:j<=n):Points w A j (xs.take j) :=
 ⟨by rw[List.length_take,h.1]; omega,fun h0=>by
  obtain⟨b,off,e,hb,hc⟩:=h.2 (by omega);refine⟨b,off,e,hb,fun k hk=>?_⟩;have t:=hc k (by omega);have e2:(xs.take j).getD k pz=xs.getD k pz:=by simp[List.getD_eq_getElem?_getD,List.getElem?_take,hk]
  rw[e2];exact t⟩
def Dv:List Pt->List Value
 | []=>[]
 | q::xs=>.int .i64 q.x::.int .i64 q.y::Dv xs
def MF(q:Pt):Nat->Value
 | 0=>.int .i64 q.x
 | _=>.int .i64 q.y
theorem JH:∀(xs:List Pt) (k r:Nat),k<xs.length->r<2->(Dv xs)[k*2+r]?=some (MF (xs.getD k pz) r)
 | [],k,r,h,_=>absurd h (by simp)
 | q::xs,0,r,_,hr=>by
  match r,hr with
  | 0,_=>rfl
  | 1,_=>rfl
 | q::xs,k+1,r,h,hr=>by
  have t:=JH xs k r (by simpa using h) hr;have e:(k+1)*2+r=(k*2+r)+1+1:=by omega
  rw[e];simp only[Dv,List.getElem?_cons_succ];rw[t];rfl
theorem Hk:∀ xs:List Pt,(Dv xs).length=xs.length*2
 | []=>rfl
 | q::xs=>by simp only[Dv,List.length_cons,Hk xs]; omega
theorem HC:∀ qs xs:List Pt,Dv (qs++xs)=Dv qs++Dv xs
 | [],_=>rfl
 | q::qs,xs=>by simp only[List.cons_append,Dv,HC qs xs]
theorem MI:∀ xs:List Pt,∀ u∈Dv xs,u.oneCell'=true
 | [],u,h=>by cases h
 | q::xs,u,h=>by
  simp only[Dv,List.mem_cons] at h;rcases h with rfl | rfl | h
  . rfl
  . rfl
  . exact MI xs u h
theorem PtAt.comp{w:World}{b o:Nat}{q:Pt}(h:PtAt w b o q){r:Nat}(hr:r<2):w.cell? ⟨b,o+r,none⟩=some (MF q r):=by
 match r,hr with
 | 0,_=>exact h.c0
 | 1,_=>exact h.c1
theorem Points.news{w:World}{b off m:Nat}{xs:List Pt}(I:Points w (some ⟨b,off,Option.none⟩) m xs):∀ j u,(Dv xs)[j]?=some u->w.cell? ((⟨b,off,Option.none⟩:Addr).add j)=some u:=by
 intro j u hj;have hl:j<xs.length*2:=by
  rw[<- Hk];rcases Nat.lt_or_ge j (Dv xs).length with h | h
  . exact h
  . rw[List.getElem?_eq_none h] at hj; cases hj
 obtain⟨b',off',e,_,hc⟩:=I.2 (by have:=I.1; omega);cases e
 have ej:j=(j / 2)*2+j % 2:=by omega
 have hk:j / 2<xs.length:=by omega
 rw[ej,JH xs _ _ hk (by omega)] at hj;cases hj
 rw[Addr.add_lit];have t:=(hc (j / 2) (by have:=I.1; omega)).comp (r:=j % 2) (by omega);rw[Nat.add_assoc,<- ej] at t;exact t
theorem Points.of_own{w:World}{base:Nat}{e:TypeId}{v:Value}{n:Nat}{xs:List Pt}(h:w.ownsRow base e 2 v n (Dv xs)):∃ A cap,v=.slice A n cap/\Points w A n xs/\(∀ g off,A=some ⟨g,off,none⟩->base<=g):=by
 have hl:xs.length=n:=by have:=h.1; rw[Hk] at this; omega
 have h0:=h;rcases h0.2 with⟨rfl,rfl⟩ | ⟨g,cap,cur,rfl,hbg,hh,_⟩
 . exact⟨none,0,rfl,⟨hl,fun hn=>by omega⟩,fun g off e=>by cases e⟩
 . refine⟨_,_,rfl,⟨hl,fun _=>⟨g,0,rfl,(h.lt g rfl).2,fun k hk=>?_⟩⟩,fun g' off e=>by cases e; exact hbg⟩;have hc:∀ r,r<2->w.cell? ⟨g,0+k*2+r,none⟩=some (MF (xs.getD k pz) r):=fun r hr=>by
    rw[Nat.zero_add,h.cellAt (k*2+r) (by omega),JH xs _ _ (by omega) hr]
   exact⟨hc 0 (by omega),hc 1 (by omega)⟩
theorem HD:(Tryz.prog.info? 24).map (fun i=>(i.zero,i.size,i.bytes))=some (some (Bs 0 0),2,16):=by kernel_rfl
theorem He(w:World)(base:Nat)(ty:TypeId)(v:Value)(n:Nat)(xs:List Value)(hown:w.ownsRow base 24 2 v n xs)(c:Nat) :
 (Builtin.append_ #[38,38] ty #[v,.slice none 0 c]).run Tryz.prog w=.ok v w:=by
 obtain⟨i0,hi,hz0,hz1,hz2⟩:=info_parts HD;rcases hown.2 with⟨rfl,rfl⟩ | ⟨g,cap,cur,rfl,_,_,hnc,_⟩
 . simp[Builtin.append_,run_underlying Tryz.underlying38,sizeOf,typeInfo,hi,Builtin.lenOf,Builtin.firstCells]
 . simp[Builtin.append_,run_underlying Tryz.underlying38,sizeOf,typeInfo,hi,Builtin.lenOf,Builtin.firstCells,hnc,storeCells]
theorem FE(w:World)(base:Nat)(ty:TypeId)(v:Value)(n:Nat)(qs:List Pt)(hown:w.ownsRow base 24 2 v n (Dv qs))(A:Option Addr)(m c:Nat)(xs:List Pt)(I:Points w A m xs)
 (hn:n+m<=10000000) (hb:base<=w.heap.size) :
 ∃ v' w',(Builtin.append_ #[38,38] ty #[v,.slice A m c]).run Tryz.prog w=.ok v' w'/\w'.ownsRow base 24 2 v' (n+m) (Dv (qs++xs))/\w.grownBy w' v.ownBlock/\(v'.ownBlock=v.ownBlock\/v'.ownBlock=some w.heap.size):=by
 obtain⟨i0,hi,hz0,hz1,hz2⟩:=info_parts HD;by_cases h:∃ b off,A=some ⟨b,off,Option.none⟩
 . obtain⟨b,off,rfl⟩:=h;obtain⟨v',w',hr,h2,h3,_,h5⟩:=run_append_own_at (P:=Tryz.prog) w base 38 ty 24 i0 (Bs 0 0) 2 16 Tryz.underlying38 hi hz0 hz1 hz2 rfl (by decide) v n _ hown ⟨b,off,Option.none⟩ m c (Dv xs) (by rw[Hk,I.1]) I.news (MI _) (by unfold maxLen; omega) (by omega) hb;exact⟨v',w',hr,by rw[HC]; exact h2,h3,h5⟩
 . have hm:m=0:=by
    rcases Nat.eq_zero_or_pos m with h0 | h0
    . exact h0
    . obtain⟨b,off,e,_⟩:=I.2 h0;exact(h ⟨b,off,e⟩).elim
   subst hm;have hy:xs=[]:=List.eq_nil_of_length_eq_zero I.1;subst hy;cases A with
   | none=>exact⟨v,w,He w base ty v n _ hown c,by simpa using hown,World.grownBy.refl w _,.inl rfl⟩
   | some ad =>
    obtain⟨v',w',hr,h2,h3,_,h5⟩:=run_append_own_at (P:=Tryz.prog) w base 38 ty 24 i0 (Bs 0 0) 2 16 Tryz.underlying38 hi hz0 hz1 hz2 rfl (by decide) v n _ hown ad 0 c [] rfl (fun j u hj=>by simp at hj) (fun u hu=>by simp at hu) (by unfold maxLen; omega) (by omega) hb;exact⟨v',w',hr,by simpa using h2,h3,h5⟩
theorem IY(w:World){ops:Array Oper}{rest:List Oper}{o:Oper}{a:Act}{Q:Exit->Act->World->Prop}(hgd:o.guard=Option.none)(s x:Operand)
 (ho:o.op=.call { callee:=.builtin .append,args:=#[s,x],argTypes:=#[38,38] }) (base:Nat) (v:Value) (n:Nat) (qs:List Pt) (hs:a.eval s=v) (hown:w.ownsRow base 24 2 v n (Dv qs))
 (A:Option Addr) (m c:Nat) (xs:List Pt) (hx:a.eval x=.slice A m c) (I:Points w A m xs) (hn:n+m<=10000000) (hb:base<=w.heap.size)
 (h:∀ v' w',w'.ownsRow base 24 2 v' (n+m) (Dv (qs++xs))->w.grownBy w' v.ownBlock->(v'.ownBlock=v.ownBlock\/v'.ownBlock=some w.heap.size)->wpList Tryz.prog ops Q rest (a.put o.dst v') w') :
 wpList Tryz.prog ops Q (o::rest) a w:=by
 refine wpList_plain hgd fun K hK=>?_;obtain⟨v',w',hr,h2,h3,h4⟩:=FE w base o.type v n qs hown A m c xs I hn hb;unfold Oper.wp execOp;simp only[ho,resolve,invoke,builtin,Sem.run_bind,Sem.run_pure,Result.andThen_ok,List.map_toArray,List.map_cons,List.map_nil,hs,hx,hr];exact hK _ _ (h v' w' h2 h3 h4)
theorem Points.one(w:World)(B:Nat)(s p:Int)(t:TypeId)(hB:B=w.heap.size):Points (w.alloc (.cells #[.int .i64 s,.int .i64 p] t)) (some ⟨B,0,none⟩) 1 [⟨s,p⟩] :=
 hB▸⟨rfl,fun _=>⟨w.heap.size,0,rfl,by simp,fun k hk=>by
  match k,hk with
  | 0,_=>exact⟨by simp,by simp⟩⟩⟩
theorem JI(W:World)(base B:Nat)(hB:B=W.heap.size)(hb:base<=W.heap.size):(W.alloc (.cells #[] 24)).ownsRow base 24 2 (.slice (some ⟨B,0,none⟩) 0 0) 0 (Dv []):=by
 subst hB;exact World.ownsRow_lit W #[] 0 hb (Nat.zero_le _) rfl
end Go.Proofs.YtaemcekcancpdaaGreatDoor
