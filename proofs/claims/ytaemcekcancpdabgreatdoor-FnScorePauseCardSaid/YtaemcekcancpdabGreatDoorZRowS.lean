import Derived.Test.YtaemcekcancpdabGreatDoorZLevS
import Derived.Deep.MidRow
import Derived.Maps.AppendAt
import Derived.OwnWalk
import Derived.Laws.OwnMore
set_option linter.all false
set_option maxRecDepth 100000
set_option maxHeartbeats 8000000
open Go.Lib
namespace Go.Proofs.YtaemcekcancpdabGreatDoor
open Go.RowKit
theorem CellsAt.range{W:World}{b:Nat}{vs:List Value}(h:CellsAt W b vs):W.rangeAt b 0 vs:=fun j v hj=>by rw[Nat.zero_add]; exact h.cell j v hj
theorem CellsAt.there{W:World}{b:Nat}{vs:List Value}(h:CellsAt W b vs){n:Nat}(hn:n<=vs.length):W.there b 0 n:=fun j hj=>by
 rw[Nat.zero_add];exact⟨by rw[h.cell j _ (List.getElem?_eq_getElem (by omega))]; rfl,h.fr j⟩
theorem Qx{b:Nat}{W A:World}(h:Kept b W A)(o:Nat)(v:Value):Kept b W (A.setCell ⟨b,o,none⟩ v):=h.trans (Kept.step A b v o 0)
theorem FW{b:Nat}{W:World}:∀(vs:List Value) (o:Nat) {A:World},Kept b W A->Kept b W (A.setCells b o vs)
 | [],_,_,h=>h
 | v::vs,o,_,h=>FW vs (o+1) (Qx h o v)
theorem CellsAt.all{W:World}{b:Nat}{us:List Value}(h:CellsAt W b us)(vs:List Value)(hl:vs.length<=us.length):CellsAt (W.setCells b 0 vs) b vs :=
 ⟨fun j v hj=>by have:=World.rangeAt_setCells_same W b 0 vs (h.there hl) j v hj; rwa [Nat.zero_add] at this,fun j=>by rw[World.frozen?_setCells]; exact h.fr j,Nat.lt_of_lt_of_le h.lt (FW vs 0 (Kept.refl b W)).size⟩
theorem Kept.sets'{r:Nat}{w a:World}(h:Kept r w a){b:Nat}(hb:w.heap.size<=b)(o:Nat)(vs:List Value):Kept r w (a.setCells b o vs) :=
 have K:=FW vs o (Kept.refl b a)
 ⟨K.os.trans h.os,K.tape.trans h.tape,K.output.trans h.output,Nat.le_trans h.size K.size,fun j hj hr=>(K.block j (Nat.lt_of_lt_of_le hj h.size) (by omega)).trans (h.block j hj hr)⟩
theorem RdU.sets'{B:Nat}{w:World}{r:Nat}{k:Int}(R:RdU B w r k){b:Nat}(hb:B<=b)(o:Nat)(vs:List Value):RdU B (w.setCells b o vs) r k :=
 R.below ((FW vs o (Kept.refl b w)).below R.base hb)
theorem Af{P:Program}{ops:Array Oper}{rest:List Oper}{o:Oper}{a:Act}{w:World}{Q:Exit->Act->World->Prop}(hgd:o.guard=none)(ty:TypeId)(x:Operand)(ho:o.op=.load ty x)
 (b:Nat) (hx:a.eval x=.pointer (some ⟨b,0,none⟩)) (vs:List Value) (L:CellsAt w b vs) {d:TypeDesc} (hu:P.underlying ty=some d) (hd:d.isRow=true) (hi:(P.info? ty).map (·.size)=some vs.length)
 (h:wpList P ops Q rest (a.put o.dst (.agg vs.toArray)) w):wpList P ops Q (o::rest) a w :=
 wpList_load_mid hgd ty x ho b 0 hx vs d L.range hu hd hi h
theorem Bt{P:Program}{ops:Array Oper}{rest:List Oper}{o:Oper}{a:Act}{w:World}{Q:Exit->Act->World->Prop}(hgd:o.guard=none)(ty:TypeId)(x y:Operand)(ho:o.op=.store ty x y)
 (b:Nat) (hx:a.eval x=.pointer (some ⟨b,0,none⟩)) (vs:List Value) (hy:a.eval y=.agg vs.toArray) (us:List Value) (D:CellsAt w b us) (hl:vs.length<=us.length) (hi:(P.info? ty).map (·.size)=some vs.length) (h1:vs.all (·.oneCell')=true)
 (h:wpList P ops Q rest (a.put o.dst undef) (w.setCells b 0 vs)):wpList P ops Q (o::rest) a w :=
 wpList_store_mid hgd ty x y ho b 0 vs.toArray hx hy (by simpa using D.there hl) (by simpa using hi) (by rw[List.all_toArray]; exact h1) (by simpa using h)
theorem Aj{P:Program}{fn:Func}{p:Tmp}{ty:TypeId}{tmps:Array Value}{w:World}(h:fn.results=#[.cell p ty])(b:Nat)(hp:tmps[p]?.getD undef=.pointer (some ⟨b,0,none⟩))(vs:List Value)(L:CellsAt w b vs){d:TypeDesc}
 (hu:P.underlying ty=some d) (hd:d.isRow=true) (hi:(P.info? ty).map (·.size)=some vs.length):(results fn tmps).run P w=.ok (.agg vs.toArray) w:=by
 simp[results,h,hp,asAddr,run_loadVar_mid w b 0 ty vs d L.range hu hd hi]
theorem A7{P:Program}{fn:Func}{p q:Tmp}{ty:TypeId}{tmps:Array Value}{w:World}(h:fn.results=#[.cell p ty,.tmp q])(b:Nat)(hp:tmps[p]?.getD undef=.pointer (some ⟨b,0,none⟩))(vs:List Value)(L:CellsAt w b vs)(v:Value)(hq:tmps[q]?.getD undef=v){d:TypeDesc}
 (hu:P.underlying ty=some d) (hd:d.isRow=true) (hi:(P.info? ty).map (·.size)=some vs.length):(results fn tmps).run P w=.ok (.tuple #[.agg vs.toArray,v]) w:=by
 simp[results,h,hp,hq,asAddr,run_loadVar_mid w b 0 ty vs d L.range hu hd hi]
theorem B7:(Tryz.prog.info? 24).map (·.size)=some 2:=by kernel_rfl
theorem Ag:(Tryz.prog.info? 29).map (·.size)=some 11:=by kernel_rfl
open Go.RowKit
theorem ID{P:Program}{o:Oper}{a:Act}{w:World}{K:Act->World->Prop}{Q:Exit->Act->World->Prop}(ty:TypeId)(x y:Operand)(ho:o.op=.store ty x y)
 (b:Nat) (hx:a.eval x=.pointer (some ⟨b,0,none⟩)) (vs:List Value) (hy:a.eval y=.agg vs.toArray) (us:List Value) (D:CellsAt w b us) (hl:vs.length<=us.length) (hi:(P.info? ty).map (·.size)=some vs.length) (h1:vs.all (·.oneCell')=true)
 (h:K (a.put o.dst undef) (w.setCells b 0 vs)):o.wp P a w K Q :=
 wp_store_mid ty x y ho b 0 vs.toArray hx hy (by simpa using D.there hl) (by simpa using hi) (by rw[List.all_toArray]; exact h1) (by simpa using h)
theorem Aq{P:Program}{o:Oper}{a:Act}{w:World}{K:Act->World->Prop}{Q:Exit->Act->World->Prop}(ty:TypeId)(x y:Operand)(ho:o.op=.store ty x y)
 (b:Nat) (hx:a.eval x=.pointer (some ⟨b,0,none⟩)) (vs:List Value) (hy:a.eval y=.agg vs.toArray) (us:List Value) (D:CellsAt w b us) (hl:vs.length<=us.length) (hi:(P.info? ty).map (·.size)=some vs.length) (h1:vs.all (·.oneCell')=true)
 (h:∀ w',Kept b w w'->CellsAt w' b vs->K (a.put o.dst undef) w'):o.wp P a w K Q :=
 ID ty x y ho b hx vs hy us D hl hi h1 (h _ (FW vs 0 (Kept.refl b w)) (D.all vs hl))
theorem Ah{P:Program}{ops:Array Oper}{rest:List Oper}{o:Oper}{a:Act}{w:World}{Q:Exit->Act->World->Prop}(hgd:o.guard=none)(ty:TypeId)(x y:Operand)(ho:o.op=.store ty x y)
 (b:Nat) (hx:a.eval x=.pointer (some ⟨b,0,none⟩)) (vs:List Value) (hy:a.eval y=.agg vs.toArray) (us:List Value) (D:CellsAt w b us) (hl:vs.length<=us.length) (hi:(P.info? ty).map (·.size)=some vs.length) (h1:vs.all (·.oneCell')=true)
 (h:∀ w',Kept b w w'->CellsAt w' b vs->wpList P ops Q rest (a.put o.dst undef) w'):wpList P ops Q (o::rest) a w :=
 Bt hgd ty x y ho b hx vs hy us D hl hi h1 (h _ (FW vs 0 (Kept.refl b w)) (D.all vs hl))
open Go.RowKit
def Enters(P:Program)(f:FuncId):Prop:=∃ fn,P.funcs[f]?=some fn/\(fn.name == "runtime.NumGoroutine")=false/\fn.body.isNone=false
theorem FX{P:Program}{f:FuncId}(hf:Enters P f)(vs:Array Value)(w:World):(callFunc f vs).run P w=.ok (.enter f vs) w:=by
 obtain⟨fn,h1,h2,h3⟩:=hf;unfold callFunc;simp only[Sem.run_bind,show(program:Sem Program).run P w=.ok P w from rfl,Result.andThen_ok,h1,h2,h3];rfl
theorem G4{P:Program}{w:World}{o:Oper}{a:Act}{K:Act->World->Prop}{Q:Exit->Act->World->Prop}{f:FuncId}{vs:Array Value}(e:(execOp a.eval o).run P w=.ok (.enter f vs) w){R:Ending->World->Prop}(hc:Calls P f vs w R)
 (h:∀ e w',R e w'->∃ v,e=.returned v/\K (a.put o.dst v) w'):o.wp P a w K Q:=by
 unfold Oper.wp;rw[e,Oper.upon_enter];refine hc.mono fun e w' hR=>?_;obtain⟨v,rfl,hK⟩:=h e w' hR;exact hK
theorem As{P:Program}{w:World}{o:Oper}{a:Act}{K:Act->World->Prop}{Q:Exit->Act->World->Prop}{f:FuncId}(hf:Enters P f)(xs:Array Operand)(ts:Array TypeId)
 (ho:o.op=.call { callee:=.value (.func f),args:=xs,argTypes:=ts }) (vs:Array Value) (hv:xs.map a.eval=vs) {R:Ending->World->Prop} (hc:Calls P f vs w R)
 (h:∀ e w',R e w'->∃ v,e=.returned v/\K (a.put o.dst v) w'):o.wp P a w K Q:=by
 refine G4 ?_ hc h;unfold execOp;have e0:(#[]++vs++#[]:Array Value)=vs:=by simp
 simp only[ho,resolve,invoke,Deferred.ofValue,hv,Sem.run_bind,Sem.run_pure,Result.andThen_ok,Act.eval,e0];exact FX hf vs w
theorem C8{P:Program}{w:World}{o:Oper}{a:Act}{K:Act->World->Prop}{Q:Exit->Act->World->Prop}{f:FuncId}(hf:Enters P f)(x:Operand)(name:String)(xs:Array Operand)(ts:Array TypeId)
 (ho:o.op=.call { callee:=.invoke x name,args:=xs,argTypes:=ts }) (t:TypeId) (v:Value) (hx:a.eval x=.iface t v) (r:Value) (hm:(method (P.types.size+Made.depth) t v name).run P w=.ok (f,r) w) (vs:Array Value) (hv:#[r]++xs.map a.eval=vs) {R:Ending->World->Prop} (hc:Calls P f vs w R)
 (h:∀ e w',R e w'->∃ v,e=.returned v/\K (a.put o.dst v) w'):o.wp P a w K Q:=by
 refine G4 ?_ hc h;unfold execOp;simp only[ho,resolve,hx,Sem.run_bind,Sem.run_pure,Result.andThen_ok];unfold invoke;have e1:(#[Value.iface t v]++xs.map a.eval)[0]?=some (.iface t v):=by rw[Array.getElem?_append_left (by simp)]; rfl
 have e2:(#[Value.iface t v]++xs.map a.eval).extract 1 (#[Value.iface t v]++xs.map a.eval).size=xs.map a.eval:=by apply Array.ext'; simp; exact List.take_of_length_le (by simp)
 rw[e1];simp only[e2];unfold callMethod;simp only[Sem.run_bind,show(program:Sem Program).run P w=.ok P w from rfl,Result.andThen_ok,hm,hv];exact FX hf vs w
theorem AP{W:World}{v:Value}{K:Value->World->Prop}(h:∀ w',Below W.heap.size W w'->K v w'):∀(e:Ending) (w':World),(e=.returned v/\Below W.heap.size W w')->∃ v,e=.returned v/\K v w':=fun _ w' ⟨he,B⟩=>⟨v,he,h w' B⟩
open Go.RowKit
open M
theorem Kept.grows{r:Nat}{w w':World}(K:Kept r w w'):w.grownBy w' (some r):=⟨K.os,K.tape,K.output,K.size,fun k hk hne=>K.block k hk (fun e=>hne (by rw[e]))⟩
theorem Kept.grown{r:Nat}{w a b:World}{row:Option Nat}(K:Kept r w a)(hg:a.grownBy b row)(hr:∀ g,row=some g->w.heap.size<=g):Kept r w b :=
 ⟨hg.os.trans K.os,hg.tape.trans K.tape,hg.output.trans K.output,Nat.le_trans K.size hg.size,fun k hk hne=>(hg.block k (Nat.lt_of_lt_of_le hk K.size) (fun e=>by have:=hr k e.symm; omega)).trans (K.block k hk hne)⟩
theorem RdU.grown{B:Nat}{a b:World}{r:Nat}{k:Int}{row:Option Nat}(R:RdU B a r k)(hg:a.grownBy b row)(hr:∀ g,row=some g->B<=g):RdU B b r k :=
 R.below ((Below.refl _ _).grown hg R.base hr)
theorem Ints.of_own{w:World}{base:Nat}{e:TypeId}{v:Value}{n:Nat}{xs:List Int}(h:w.ownsRow base e 1 v n (xs.map (Value.int .i64))):∃ A cap,v=.slice A n cap/\Ints w A n xs:=by
 have hl:xs.length=n:=by simpa using h.1
 have h0:=h;rcases h0.2 with⟨rfl,rfl⟩ | ⟨g,cap,cur,rfl,_,hh,_⟩
 . exact⟨none,0,rfl,hl,fun hn=>by omega⟩
 . refine⟨_,_,rfl,hl,fun _=>⟨g,0,rfl,?_,fun k hk=>?_⟩⟩
   . exact(h.lt g rfl).2
   . rw[Nat.zero_add,h.cellAt k (by omega),List.getElem?_map,List.getD_eq_getElem?_getD,List.getElem?_eq_getElem (by omega)];rfl
theorem LB:(Tryz.prog.info? 3).map (fun i=>(i.zero,i.size,i.bytes))=some (some (.int .i64 0),1,8):=by kernel_rfl
open Go.RowKit
open M
theorem Ints.nil(w:World)(A:Option Addr):Ints w A 0 []:=⟨rfl,fun h=>absurd h (by omega)⟩
theorem Ints.drew{w:World}{A:Option Addr}{n:Nat}{xs:List Int}(h:Ints w A n xs):Ints w.drew A n xs:=h
theorem Ints.one(w:World)(a:Int)(t:TypeId):Ints (w.alloc (.cells #[.int .i64 a] t)) (some ⟨w.heap.size,0,none⟩) 1 [a] :=
 ⟨rfl,fun _=>⟨w.heap.size,0,rfl,by simp,fun k hk=>by
  match k,hk with
  | 0,_=>simp⟩⟩
theorem Ints.two(w:World)(a b:Int)(t:TypeId):Ints (w.alloc (.cells #[.int .i64 a,.int .i64 b] t)) (some ⟨w.heap.size,0,none⟩) 2 [a,b] :=
 ⟨rfl,fun _=>⟨w.heap.size,0,rfl,by simp,fun k hk=>by
  match k,hk with
  | 0,_=>simp
  | 1,_=>simp⟩⟩
theorem Ints.news{w:World}{b off m:Nat}{ys:List Int}(I:Ints w (some ⟨b,off,Option.none⟩) m ys):∀ j u,(ys.map (Value.int .i64))[j]?=some u->w.cell? ((⟨b,off,Option.none⟩:Addr).add j)=some u:=by
 intro j u hj;rw[List.getElem?_map] at hj;have hl:j<ys.length:=by
  rcases Nat.lt_or_ge j ys.length with h | h
  . exact h
  . rw[List.getElem?_eq_none h] at hj; cases hj
 obtain⟨b',off',e,_,hc⟩:=I.2 (by have:=I.1; omega);cases e
 rw[List.getElem?_eq_getElem hl] at hj;cases hj
 rw[Addr.add_lit,hc j (by have:=I.1; omega),List.getD_eq_getElem?_getD,List.getElem?_eq_getElem hl];rfl
theorem IF(w:World)(base:Nat)(ty:TypeId)(v:Value)(n:Nat)(xs:List Value)(hown:w.ownsRow base 3 1 v n xs)(A:Option Addr)(c:Nat)(h0:∀ ad,A=some ad->False) :
 (Builtin.append_ #[38,38] ty #[v,.slice A 0 c]).run Tryz.prog w=.ok v w:=by
 obtain⟨i0,hi,hz0,hz1,hz2⟩:=info_parts LB;cases A with
 | some ad=>exact(h0 ad rfl).elim
 | none =>
  rcases hown.2 with⟨rfl,rfl⟩ | ⟨g,cap,cur,rfl,_,_,hnc,_⟩
  . simp[Builtin.append_,run_underlying Tryz.underlying38,sizeOf,typeInfo,hi,Builtin.lenOf,Builtin.firstCells]
  . simp[Builtin.append_,run_underlying Tryz.underlying38,sizeOf,typeInfo,hi,Builtin.lenOf,Builtin.firstCells,hnc,storeCells]
theorem Hd(w:World)(base:Nat)(ty:TypeId)(v:Value)(n:Nat)(xs:List Int)(hown:w.ownsRow base 3 1 v n (xs.map (Value.int .i64)))(A:Option Addr)(m c:Nat)(ys:List Int)(I:Ints w A m ys)
 (hn:n+m<=1000000) (hb:base<=w.heap.size) :
 ∃ v' w',(Builtin.append_ #[38,38] ty #[v,.slice A m c]).run Tryz.prog w=.ok v' w'/\w'.ownsRow base 3 1 v' (n+m) ((xs++ys).map (Value.int .i64))/\w.grownBy w' v.ownBlock/\(v'.ownBlock=v.ownBlock\/v'.ownBlock=some w.heap.size):=by
 obtain⟨i0,hi,hz0,hz1,hz2⟩:=info_parts LB;by_cases h:∃ b off,A=some ⟨b,off,Option.none⟩
 . obtain⟨b,off,rfl⟩:=h;obtain⟨v',w',hr,h2,h3,_,h5⟩:=run_append_own_at (P:=Tryz.prog) w base 38 ty 3 i0 (.int .i64 0) 1 8 Tryz.underlying38 hi hz0 hz1 hz2 rfl (by decide) v n _ hown ⟨b,off,Option.none⟩ m c (ys.map (Value.int .i64)) (by have:=I.1; simp; omega) I.news (ints_oneCell _ _) (by unfold maxLen; omega) (by omega) hb;exact⟨v',w',hr,by simpa using h2,h3,h5⟩
 . have hm:m=0:=by
    rcases Nat.eq_zero_or_pos m with h0 | h0
    . exact h0
    . obtain⟨b,off,e,_⟩:=I.2 h0;exact(h ⟨b,off,e⟩).elim
   subst hm;have hy:ys=[]:=List.eq_nil_of_length_eq_zero I.1;subst hy;cases A with
   | none=>exact⟨v,w,IF w base ty v n _ hown _ c (fun _ e=>by cases e),by simpa using hown,World.grownBy.refl w _,.inl rfl⟩
   | some ad =>
    obtain⟨v',w',hr,h2,h3,_,h5⟩:=run_append_own_at (P:=Tryz.prog) w base 38 ty 3 i0 (.int .i64 0) 1 8 Tryz.underlying38 hi hz0 hz1 hz2 rfl (by decide) v n _ hown ad 0 c [] rfl (fun j u hj=>by simp at hj) (fun u hu=>by simp at hu) (by unfold maxLen; omega) (by omega) hb;exact⟨v',w',hr,by simpa using h2,h3,h5⟩
theorem G6(w:World){ops:Array Oper}{rest:List Oper}{o:Oper}{a:Act}{Q:Exit->Act->World->Prop}(hgd:o.guard=Option.none)(s x:Operand)
 (ho:o.op=.call { callee:=.builtin .append,args:=#[s,x],argTypes:=#[38,38] }) (base:Nat) (v:Value) (n:Nat) (xs:List Int) (hs:a.eval s=v) (hown:w.ownsRow base 3 1 v n (xs.map (Value.int .i64)))
 (A:Option Addr) (m c:Nat) (ys:List Int) (hx:a.eval x=.slice A m c) (I:Ints w A m ys) (hn:n+m<=1000000) (hb:base<=w.heap.size)
 (h:∀ v' w',w'.ownsRow base 3 1 v' (n+m) ((xs++ys).map (Value.int .i64))->w.grownBy w' v.ownBlock->(v'.ownBlock=v.ownBlock\/v'.ownBlock=some w.heap.size)->wpList Tryz.prog ops Q rest (a.put o.dst v') w') :
 wpList Tryz.prog ops Q (o::rest) a w:=by
 refine wpList_plain hgd fun K hK=>?_;obtain⟨v',w',hr,h2,h3,h4⟩:=Hd w base o.type v n xs hown A m c ys I hn hb;unfold Oper.wp execOp;simp only[ho,resolve,invoke,builtin,Sem.run_bind,Sem.run_pure,Result.andThen_ok,List.map_toArray,List.map_cons,List.map_nil,hs,hx,hr];exact hK _ _ (h v' w' h2 h3 h4)
open Go.RowKit
open M
theorem CellsAt.grown{W w':World}{b:Nat}{vs:List Value}{row:Option Nat}(h:CellsAt W b vs)(hg:W.grownBy w' row)(hr:row≠some b):CellsAt w' b vs :=
 h.of (hg.block b h.lt (fun e=>hr e.symm)) hg.size
open Go.RowKit
open M
def EU(bs:List Bx):List Value:=(flat bs).map (Value.int .i64)
def comp(q:Bx):Nat->Int
 | 0=>q.a
 | 1=>q.b
 | 2=>q.c
 | _=>q.d
theorem ND:∀(bs:List Bx) (k r:Nat),k<bs.length->r<4->(flat bs)[k*4+r]?=some (comp (bs.getD k bz) r)
 | [],k,r,h,_=>absurd h (by simp)
 | q::bs,0,r,_,hr=>by
  match r,hr with
  | 0,_=>rfl
  | 1,_=>rfl
  | 2,_=>rfl
  | 3,_=>rfl
 | q::bs,k+1,r,h,hr=>by
  have t:=ND bs k r (by simpa using h) hr;have e:(k+1)*4+r=(k*4+r)+1+1+1+1:=by omega
  rw[e];simp only[flat,List.getElem?_cons_succ];rw[t];rfl
theorem Qy{bs:List Bx}{k r:Nat}(hk:k<bs.length)(hr:r<4):(EU bs)[k*4+r]?=some (.int .i64 (comp (bs.getD k bz) r)):=by
 unfold EU;rw[List.getElem?_map,ND bs k r hk hr];rfl
theorem Kq(bs:List Bx):(EU bs).length=bs.length*4:=by
 unfold EU;rw[List.length_map,PM,Nat.mul_comm]
theorem Fu(qs bs:List Bx):EU (qs++bs)=EU qs++EU bs:=by simp[EU,KT]
theorem BoxAt.comp{w:World}{b o:Nat}{q:Bx}(h:BoxAt w b o q){r:Nat}(hr:r<4):w.cell? ⟨b,o+r,none⟩=some (.int .i64 (comp q r)):=by
 match r,hr with
 | 0,_=>exact h.c0
 | 1,_=>exact h.c1
 | 2,_=>exact h.c2
 | 3,_=>exact h.c3
theorem Boxes.news{w:World}{b off m:Nat}{bs:List Bx}(I:Boxes w (some ⟨b,off,Option.none⟩) m bs):∀ j u,(EU bs)[j]?=some u->w.cell? ((⟨b,off,Option.none⟩:Addr).add j)=some u:=by
 intro j u hj;have hl:j<bs.length*4:=by
  rw[<- Kq];rcases Nat.lt_or_ge j (EU bs).length with h | h
  . exact h
  . rw[List.getElem?_eq_none h] at hj; cases hj
 obtain⟨b',off',e,_,hc⟩:=I.2 (by have:=I.1; omega);cases e
 have ej:j=(j / 4)*4+j % 4:=by omega
 have hk:j / 4<bs.length:=by omega
 rw[ej,Qy hk (by omega)] at hj;cases hj
 rw[Addr.add_lit];have t:=(hc (j / 4) (by have:=I.1; omega)).comp (r:=j % 4) (by omega);rw[Nat.add_assoc,<- ej] at t;exact t
theorem Boxes.of_own{w:World}{base:Nat}{e:TypeId}{v:Value}{n:Nat}{bs:List Bx}(h:w.ownsRow base e 4 v n (EU bs)):∃ A cap,v=.slice A n cap/\Boxes w A n bs/\(∀ g off,A=some ⟨g,off,none⟩->base<=g):=by
 have hl:bs.length=n:=by have:=h.1; rw[Kq] at this; omega
 have h0:=h;rcases h0.2 with⟨rfl,rfl⟩ | ⟨g,cap,cur,rfl,hbg,hh,_⟩
 . exact⟨none,0,rfl,⟨hl,fun hn=>by omega⟩,fun g off e=>by cases e⟩
 . refine⟨_,_,rfl,⟨hl,fun _=>⟨g,0,rfl,(h.lt g rfl).2,fun k hk=>?_⟩⟩,fun g' off e=>by cases e; exact hbg⟩;have hc:∀ r,r<4->w.cell? ⟨g,0+k*4+r,none⟩=some (.int .i64 (comp (bs.getD k bz) r)):=fun r hr=>by
    rw[Nat.zero_add,h.cellAt (k*4+r) (by omega),Qy (by omega) hr]
   exact⟨hc 0 (by omega),hc 1 (by omega),hc 2 (by omega),hc 3 (by omega)⟩
theorem Boxes.kept{w w':World}{A:Option Addr}{n r:Nat}{bs:List Bx}(h:Boxes w A n bs)(K:Kept r w w')(hA:0<n->∀ k off,A=some ⟨k,off,none⟩->k≠r):Boxes w' A n bs :=
 ⟨h.1,fun hn=>by
  obtain⟨b,off,e,hb,hc⟩:=h.2 hn;exact⟨b,off,e,Nat.lt_of_lt_of_le hb K.size,fun k hk=>(hc k hk).of (K.block b hb (hA hn b off e))⟩⟩
theorem Boxes.lt{w:World}{A:Option Addr}{n:Nat}{bs:List Bx}(h:Boxes w A n bs)(hn:0<n):∀ k off,A=some ⟨k,off,none⟩->k<w.heap.size:=fun k off e=>by
 obtain⟨b,off',e',hb,_⟩:=h.2 hn;rw[e'] at e;cases e
 exact hb
theorem IG:(Tryz.prog.info? 27).map (fun i=>(i.zero,i.size,i.bytes))=some (some (box 0 0 0 0),4,32):=by kernel_rfl
theorem EV(bs:List Bx):∀ u∈EU bs,u.oneCell'=true:=ints_oneCell _ _
theorem IH(w:World)(base:Nat)(ty:TypeId)(v:Value)(n:Nat)(xs:List Value)(hown:w.ownsRow base 27 4 v n xs)(c:Nat) :
 (Builtin.append_ #[25,25] ty #[v,.slice none 0 c]).run Tryz.prog w=.ok v w:=by
 obtain⟨i0,hi,hz0,hz1,hz2⟩:=info_parts IG;rcases hown.2 with⟨rfl,rfl⟩ | ⟨g,cap,cur,rfl,_,_,hnc,_⟩
 . simp[Builtin.append_,run_underlying Tryz.underlying25,sizeOf,typeInfo,hi,Builtin.lenOf,Builtin.firstCells]
 . simp[Builtin.append_,run_underlying Tryz.underlying25,sizeOf,typeInfo,hi,Builtin.lenOf,Builtin.firstCells,hnc,storeCells]
theorem GJ(w:World)(base:Nat)(ty:TypeId)(v:Value)(n:Nat)(qs:List Bx)(hown:w.ownsRow base 27 4 v n (EU qs))(A:Option Addr)(m c:Nat)(bs:List Bx)(I:Boxes w A m bs)
 (hn:n+m<=1000000) (hb:base<=w.heap.size) :
 ∃ v' w',(Builtin.append_ #[25,25] ty #[v,.slice A m c]).run Tryz.prog w=.ok v' w'/\w'.ownsRow base 27 4 v' (n+m) (EU (qs++bs))/\w.grownBy w' v.ownBlock/\(v'.ownBlock=v.ownBlock\/v'.ownBlock=some w.heap.size):=by
 obtain⟨i0,hi,hz0,hz1,hz2⟩:=info_parts IG;by_cases h:∃ b off,A=some ⟨b,off,Option.none⟩
 . obtain⟨b,off,rfl⟩:=h;obtain⟨v',w',hr,h2,h3,_,h5⟩:=run_append_own_at (P:=Tryz.prog) w base 25 ty 27 i0 (box 0 0 0 0) 4 32 Tryz.underlying25 hi hz0 hz1 hz2 rfl (by decide) v n _ hown ⟨b,off,Option.none⟩ m c (EU bs) (by rw[Kq,I.1]) I.news (EV _) (by unfold maxLen; omega) (by omega) hb;exact⟨v',w',hr,by rw[Fu]; exact h2,h3,h5⟩
 . have hm:m=0:=by
    rcases Nat.eq_zero_or_pos m with h0 | h0
    . exact h0
    . obtain⟨b,off,e,_⟩:=I.2 h0;exact(h ⟨b,off,e⟩).elim
   subst hm;have hy:bs=[]:=List.eq_nil_of_length_eq_zero I.1;subst hy;cases A with
   | none=>exact⟨v,w,IH w base ty v n _ hown c,by simpa using hown,World.grownBy.refl w _,.inl rfl⟩
   | some ad =>
    obtain⟨v',w',hr,h2,h3,_,h5⟩:=run_append_own_at (P:=Tryz.prog) w base 25 ty 27 i0 (box 0 0 0 0) 4 32 Tryz.underlying25 hi hz0 hz1 hz2 rfl (by decide) v n _ hown ad 0 c [] rfl (fun j u hj=>by simp at hj) (fun u hu=>by simp at hu) (by unfold maxLen; omega) (by omega) hb;exact⟨v',w',hr,by simpa using h2,h3,h5⟩
theorem C9(w:World){ops:Array Oper}{rest:List Oper}{o:Oper}{a:Act}{Q:Exit->Act->World->Prop}(hgd:o.guard=Option.none)(s x:Operand)
 (ho:o.op=.call { callee:=.builtin .append,args:=#[s,x],argTypes:=#[25,25] }) (base:Nat) (v:Value) (n:Nat) (qs:List Bx) (hs:a.eval s=v) (hown:w.ownsRow base 27 4 v n (EU qs))
 (A:Option Addr) (m c:Nat) (bs:List Bx) (hx:a.eval x=.slice A m c) (I:Boxes w A m bs) (hn:n+m<=1000000) (hb:base<=w.heap.size)
 (h:∀ v' w',w'.ownsRow base 27 4 v' (n+m) (EU (qs++bs))->w.grownBy w' v.ownBlock->(v'.ownBlock=v.ownBlock\/v'.ownBlock=some w.heap.size)->wpList Tryz.prog ops Q rest (a.put o.dst v') w') :
 wpList Tryz.prog ops Q (o::rest) a w:=by
 refine wpList_plain hgd fun K hK=>?_;obtain⟨v',w',hr,h2,h3,h4⟩:=GJ w base o.type v n qs hown A m c bs I hn hb;unfold Oper.wp execOp;simp only[ho,resolve,invoke,builtin,Sem.run_bind,Sem.run_pure,Result.andThen_ok,List.map_toArray,List.map_cons,List.map_nil,hs,hx,hr];exact hK _ _ (h v' w' h2 h3 h4)
theorem Boxes.one(w:World)(B:Nat)(a b c d:Int)(t:TypeId)(hB:B=w.heap.size):Boxes (w.alloc (.cells #[.int .i64 a,.int .i64 b,.int .i64 c,.int .i64 d] t)) (some ⟨B,0,none⟩) 1 [⟨a,b,c,d⟩] :=
 hB▸⟨rfl,fun _=>⟨w.heap.size,0,rfl,by simp,fun k hk=>by
  match k,hk with
  | 0,_=>exact⟨by simp,by simp,by simp,by simp⟩⟩⟩
open Go.RowKit
open M
structure ICell(w:World)(b:Nat)(x:Int):Prop where
 c0:w.cell? ⟨b,0,none⟩=some (.int .i64 x)
 f0:w.frozen? ⟨b,0,none⟩=false
 lt:b<w.heap.size
theorem ICell.of{W w':World}{b:Nat}{x:Int}(h:ICell W b x)(e:w'.heap[b]?=W.heap[b]?)(hs:W.heap.size<=w'.heap.size):ICell w' b x :=
 ⟨(World.cell?_of_block (a:=⟨b,0,none⟩) e).trans h.c0,(World.frozen?_of_block (a:=⟨b,0,none⟩) e).trans h.f0,Nat.lt_of_lt_of_le h.lt hs⟩
theorem ICell.step{W w':World}{b:Nat}{x:Int}(h:ICell W b x)(B:Below W.heap.size W w'):ICell w' b x:=h.of (B.block b h.lt) B.size
theorem ICell.alloc{W:World}{b:Nat}{x:Int}(h:ICell W b x)(o:Obj):ICell (W.alloc o) b x:=h.step (Aa (Ac W) o)
theorem ICell.drew{W:World}{b:Nat}{x:Int}(h:ICell W b x):ICell W.drew b x:=⟨h.c0,h.f0,h.lt⟩
theorem ICell.new(W:World)(b:Nat)(x:Int)(ty:TypeId)(hb:b=W.heap.size):ICell (W.alloc (.cells #[.int .i64 x] ty)) b x:=by
 subst hb;exact⟨by simp,by simp,by simp⟩
theorem ICell.set{W:World}{b:Nat}{x:Int}(h:ICell W b x)(z:Int):ICell (W.setCell ⟨b,0,none⟩ (.int .i64 z)) b z :=
 ⟨World.cell?_setCell_same' _ _ _ (by rw[h.c0]; rfl),(by rw[World.frozen?_setCell]; exact h.f0),(by rw[World.size_setCell]; exact h.lt)⟩
theorem Kept.mine{r:Nat}{w a:World}(h:Kept r w a)(o:Nat)(v:Value):Kept r w (a.setCell ⟨r,o,none⟩ v) :=
 ⟨h.os,h.tape,h.output,by simpa[World.setCell] using h.size,fun k hk hr=>(Below.heap_setCell a ⟨r,o,none⟩ v k hr).trans (h.block k hk hr)⟩
theorem Kept.drewd{r:Nat}{w a:World}(h:Kept r w a):Kept r w a.drew:=⟨h.os,h.tape,h.output,h.size,h.block⟩
def Off(A:Option Addr)(n b:Nat):Prop:=0<n->∀ k off,A=some ⟨k,off,none⟩->k≠b
theorem Ints.kept{w w':World}{A:Option Addr}{n r:Nat}{xs:List Int}(h:Ints w A n xs)(K:Kept r w w')(hA:Off A n r):Ints w' A n xs :=
 ⟨h.1,fun hn=>by
  obtain⟨b,off,e,hb,hc⟩:=h.2 hn;exact⟨b,off,e,Nat.lt_of_lt_of_le hb K.size,fun k hk=>(K.cell (p:=⟨b,off+k,none⟩) hb (hA hn b off e)).trans (hc k hk)⟩⟩
theorem Ints.off{w:World}{A:Option Addr}{n:Nat}{xs:List Int}(h:Ints w A n xs){b:Nat}(hb:w.heap.size<=b):Off A n b:=fun hn k off e=>by
 obtain⟨b',off',e',hb',_⟩:=h.2 hn;rw[e'] at e;cases e
 omega
theorem implOk'(n:Int)(b:Bool)(w:World)(h:okB n=b):Calls Tryz.prog 130 #[.int .i64 n] w fun e w'=>e=.returned (.bool b)/\w=w':=by
 subst h;exact HU n w
theorem SB{n:Int}(h:n.tmod 1000003<0):n % 1000003=n.tmod 1000003+1000003:=by
 have e:=@Int.tmod_eq_emod n 1000003;by_cases c:0<=n\/(1000003:Int) ∣ n
 . rw[if_pos c] at e;omega
 . rw[if_neg c] at e;omega
theorem Qz{n:Int}(h:0<=n.tmod 1000003):n % 1000003=n.tmod 1000003:=by
 have e:=@Int.tmod_eq_emod n 1000003;by_cases c:0<=n\/(1000003:Int) ∣ n
 . rw[if_pos c] at e;omega
 . rw[if_neg c] at e;omega
theorem SC(n r:Int)(w:World)(hr:n % 1000003=r):Calls Tryz.prog 69 #[.int .i64 n] w fun e w'=>e=.returned (.int .i64 r)/\w=w':=by
 have t1:-1000003<n.tmod 1000003:=Int.lt_tmod_of_pos n (by omega);have t2:n.tmod 1000003<1000003:=Int.tmod_lt_of_pos n (by omega);by_cases h:n.tmod 1000003<0
 . have E:=hid (hr.symm.trans (SB h));clear hr;go_enter Tryz.func69,Tryz.ntmps69;go_wp2;go_ret;exact⟨AX (by rw[E.out]),rfl⟩
 . have E:=hid (hr.symm.trans (Qz (by omega)));clear hr;go_enter Tryz.func69,Tryz.ntmps69;go_wp2;go_ret;exact⟨AX (by rw[E.out]),rfl⟩
def SD(w:World)(b n:Nat)(h:Int)(xs:List Int)(i:Value)(W:World):Prop :=
 ∃ k:Nat,k<=n/\i=.int .i64 k/\ICell W b (GL h (xs.take k))/\Kept b w W
def Vt(w:World)(b:Nat)(v:Int)(e:Ending)(w':World):Prop:=e=.returned (.int .i64 v)/\ICell w' b v/\Kept b w w'
theorem QA(h:Int)(A:Option Addr)(n cap b:Nat)(xs:List Int)(w:World)(h0:0<=h)(h1:h<1000003)(I:Ints w A n xs)(hA:Off A n b)(C:ICell w b h)(hn:n<=281474976710656) :
 Calls Tryz.prog 68 #[.slice A n cap,.pointer (some ⟨b,0,none⟩)] w (Vt w b (GL h xs)):=by
 have I:=hid I;have hA:=hid hA;have C:=hid C;go_enter Tryz.func68,Tryz.ntmps68;go_wp2
 go_loopw [8] (SD w b n h xs) (fun i _=>n-(intOf i).toNat)
 case atStart=>exact⟨0,Nat.zero_le _,rfl,C.out,Kept.refl _ _⟩
 case round =>
  obtain⟨k,hk,rfl,D,K⟩:=hrel;clear C;obtain⟨b0,b1⟩:=Pm h0 h1 (xs.take k);have hl:=hid I.out.1;by_cases hlt:k<n
  . obtain⟨b',off,rfl,hb,hcell⟩:=(I.out.kept K hA.out).2 (by omega);have hck:=hcell k hlt;have HS:=hid (KF (h:=h) (xs:=xs) (k:=k) (by have:=hl.out; omega));clear hcell;generalize xs.getD k 0=z at *;generalize GL h (xs.take k)=v at *;obtain⟨r,er⟩:∃ r,z % 1000003=r:=⟨_,rfl⟩;have r0:0<=r:=by omega
    have r1:r<1000003:=by omega
    have HS:=hid (show GL h (List.take (k+1) xs)=(v*8191+r+1) % 1000003 by rw[HS.out,<- er]; unfold Ri; rw[Int.mul_comm]);have er:=hid er;have K:=hid K;have dc:=D.c0;have df:=D.f0;have dl:=D.lt;go_wp2_with fail
    go_region_with ((go_at_call 69; (with_reducible refine(SC _ r _ er.out).mono ?_); rintro e wn ⟨rfl,rfl⟩))
    all_goals
     go_wp2
     go_roundw
     case rel=>exact⟨k+1,by omega,by go_num,by rw[HS.out]; repeat (first | with_reducible exact D.set _ | with_reducible refine ICell.drew ?_ | with_reducible exact(ICell.drew D).set _ | with_reducible exact(ICell.drew (ICell.drew D)).set _),by repeat (first | with_reducible exact K.out | with_reducible refine Kept.mine ?_ _ _ | with_reducible refine Kept.drewd ?_)⟩
     case measure=>simp[intOf]; omega
  . have e:(xs.take k)=xs:=List.take_of_length_le (by have:=hl.out; omega);rw[e] at D;have dc:=D.c0;have K:=hid K;go_wp2;go_ret;exact⟨rfl,D,K.out⟩
theorem OI(w:World):Calls Tryz.prog 38 #[] w fun e w'=>e=.returned (.func (.func 68) #[] #[.pointer (some ⟨w.heap.size,0,none⟩)])/\ICell w' w.heap.size 17/\Below w.heap.size w w':=by
 have hmf:∀(fn:Fn) (first cap:Array Value) (w:World),(Instr.makeFunc fn first cap).run Tryz.prog w=.ok (.func fn first cap) w:=fun _ _ _ _=>rfl;go_enter Tryz.func38,Tryz.ntmps38;go_wp2;go_ret;exact⟨rfl,ICell.new _ _ _ _ rfl,Aa (Ac _) _⟩
end Go.Proofs.YtaemcekcancpdabGreatDoor
