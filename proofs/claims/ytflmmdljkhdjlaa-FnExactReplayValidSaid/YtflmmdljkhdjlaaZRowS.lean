import Derived.Test.YtflmmdljkhdjlaaZHashS
import Derived.Test.YtflmmdljkhdjlaaZRdS
import Derived.Maps.AppendAt
import Derived.OwnWalk
import Derived.Laws.OwnMore
set_option linter.all false
set_option maxRecDepth 100000
set_option maxHeartbeats 8000000
namespace Go.Proofs.Ytflmmdljkhdjlaa
open Go.RowKit
open M
theorem Kept.grown{r:Nat}{w a b:World}{row:Option Nat}(K:Kept r w a)(hg:a.grownBy b row)(hr:∀ g,row=some g->w.heap.size<=g):Kept r w b :=
 ⟨hg.os.trans K.os,hg.tape.trans K.tape,hg.output.trans K.output,Nat.le_trans K.size hg.size,fun k hk hne=>(hg.block k (Nat.lt_of_lt_of_le hk K.size) (fun e=>by have:=hr k e.symm; omega)).trans (K.block k hk hne)⟩
theorem Ints.of_own{w:World}{base:Nat}{e:TypeId}{v:Value}{n:Nat}{xs:List Int}(h:w.ownsRow base e 1 v n (xs.map (Value.int .i64))):∃ A cap,v=.slice A n cap/\Ints w A n xs:=by
 have hl:xs.length=n:=by simpa using h.1
 have h0:=h;rcases h0.2 with⟨rfl,rfl⟩ | ⟨g,cap,cur,rfl,_,hh,_⟩
 . exact⟨none,0,rfl,hl,fun hn=>by omega⟩
 . refine⟨_,_,rfl,hl,fun _=>⟨g,0,rfl,?_,fun k hk=>?_⟩⟩
   . exact(h.lt g rfl).2
   . rw[Nat.zero_add,h.cellAt k (by omega),List.getElem?_map,List.getD_eq_getElem?_getD,List.getElem?_eq_getElem (by omega)];rfl
theorem F7:(Try.prog.info? 3).map (fun i=>(i.zero,i.size,i.bytes))=some (some (.int .i64 0),1,8):=by kernel_rfl
open Go.RowKit
open M
theorem Ints.nil(w:World)(A:Option Addr):Ints w A 0 []:=⟨rfl,fun h=>absurd h (by omega)⟩
theorem Ints.drew{w:World}{A:Option Addr}{n:Nat}{xs:List Int}(h:Ints w A n xs):Ints w.drew A n xs:=h
theorem Ints.one(w:World)(a:Int)(t:TypeId):Ints (w.alloc (.cells #[.int .i64 a] t)) (some ⟨w.heap.size,0,none⟩) 1 [a] :=
 ⟨rfl,fun _=>⟨w.heap.size,0,rfl,by simp,fun k hk=>by
  match k,hk with
  | 0,_=>simp⟩⟩
theorem Ints.news{w:World}{b off m:Nat}{ys:List Int}(I:Ints w (some ⟨b,off,Option.none⟩) m ys):∀ j u,(ys.map (Value.int .i64))[j]?=some u->w.cell? ((⟨b,off,Option.none⟩:Addr).add j)=some u:=by
 intro j u hj;rw[List.getElem?_map] at hj;have hl:j<ys.length:=by
  rcases Nat.lt_or_ge j ys.length with h | h
  . exact h
  . rw[List.getElem?_eq_none h] at hj; cases hj
 obtain⟨b',off',e,_,hc⟩:=I.2 (by have:=I.1; omega);cases e
 rw[List.getElem?_eq_getElem hl] at hj;cases hj
 rw[Addr.add_lit,hc j (by have:=I.1; omega),List.getD_eq_getElem?_getD,List.getElem?_eq_getElem hl];rfl
theorem Eu(w:World)(base:Nat)(ty:TypeId)(v:Value)(n:Nat)(xs:List Value)(hown:w.ownsRow base 3 1 v n xs)(A:Option Addr)(c:Nat)(h0:∀ ad,A=some ad->False) :
 (Builtin.append_ #[39,39] ty #[v,.slice A 0 c]).run Try.prog w=.ok v w:=by
 obtain⟨i0,hi,hz0,hz1,hz2⟩:=info_parts F7;cases A with
 | some ad=>exact(h0 ad rfl).elim
 | none =>
  rcases hown.2 with⟨rfl,rfl⟩ | ⟨g,cap,cur,rfl,_,_,hnc,_⟩
  . simp[Builtin.append_,run_underlying Try.underlying39,sizeOf,typeInfo,hi,Builtin.lenOf,Builtin.firstCells]
  . simp[Builtin.append_,run_underlying Try.underlying39,sizeOf,typeInfo,hi,Builtin.lenOf,Builtin.firstCells,hnc,storeCells]
theorem Dx(w:World)(base:Nat)(ty:TypeId)(v:Value)(n:Nat)(xs:List Int)(hown:w.ownsRow base 3 1 v n (xs.map (Value.int .i64)))(A:Option Addr)(m c:Nat)(ys:List Int)(I:Ints w A m ys)
 (hn:n+m<=8000000) (hb:base<=w.heap.size) :
 ∃ v' w',(Builtin.append_ #[39,39] ty #[v,.slice A m c]).run Try.prog w=.ok v' w'/\w'.ownsRow base 3 1 v' (n+m) ((xs++ys).map (Value.int .i64))/\w.grownBy w' v.ownBlock/\(v'.ownBlock=v.ownBlock\/v'.ownBlock=some w.heap.size):=by
 obtain⟨i0,hi,hz0,hz1,hz2⟩:=info_parts F7;by_cases h:∃ b off,A=some ⟨b,off,Option.none⟩
 . obtain⟨b,off,rfl⟩:=h;obtain⟨v',w',hr,h2,h3,_,h5⟩:=run_append_own_at (P:=Try.prog) w base 39 ty 3 i0 (.int .i64 0) 1 8 Try.underlying39 hi hz0 hz1 hz2 rfl (by decide) v n _ hown ⟨b,off,Option.none⟩ m c (ys.map (Value.int .i64)) (by have:=I.1; simp; omega) I.news (ints_oneCell _ _) (by unfold maxLen; omega) (by omega) hb;exact⟨v',w',hr,by simpa using h2,h3,h5⟩
 . have hm:m=0:=by
    rcases Nat.eq_zero_or_pos m with h0 | h0
    . exact h0
    . obtain⟨b,off,e,_⟩:=I.2 h0;exact(h ⟨b,off,e⟩).elim
   subst hm;have hy:ys=[]:=List.eq_nil_of_length_eq_zero I.1;subst hy;cases A with
   | none=>exact⟨v,w,Eu w base ty v n _ hown _ c (fun _ e=>by cases e),by simpa using hown,World.grownBy.refl w _,.inl rfl⟩
   | some ad =>
    obtain⟨v',w',hr,h2,h3,_,h5⟩:=run_append_own_at (P:=Try.prog) w base 39 ty 3 i0 (.int .i64 0) 1 8 Try.underlying39 hi hz0 hz1 hz2 rfl (by decide) v n _ hown ad 0 c [] rfl (fun j u hj=>by simp at hj) (fun u hu=>by simp at hu) (by unfold maxLen; omega) (by omega) hb;exact⟨v',w',hr,by simpa using h2,h3,h5⟩
theorem AO(w:World){ops:Array Oper}{rest:List Oper}{o:Oper}{a:Act}{Q:Exit->Act->World->Prop}(hgd:o.guard=Option.none)(s x:Operand)
 (ho:o.op=.call { callee:=.builtin .append,args:=#[s,x],argTypes:=#[39,39] }) (base:Nat) (v:Value) (n:Nat) (xs:List Int) (hs:a.eval s=v) (hown:w.ownsRow base 3 1 v n (xs.map (Value.int .i64)))
 (A:Option Addr) (m c:Nat) (ys:List Int) (hx:a.eval x=.slice A m c) (I:Ints w A m ys) (hn:n+m<=8000000) (hb:base<=w.heap.size)
 (h:∀ v' w',w'.ownsRow base 3 1 v' (n+m) ((xs++ys).map (Value.int .i64))->w.grownBy w' v.ownBlock->(v'.ownBlock=v.ownBlock\/v'.ownBlock=some w.heap.size)->wpList Try.prog ops Q rest (a.put o.dst v') w') :
 wpList Try.prog ops Q (o::rest) a w:=by
 refine wpList_plain hgd fun K hK=>?_;obtain⟨v',w',hr,h2,h3,h4⟩:=Dx w base o.type v n xs hown A m c ys I hn hb;unfold Oper.wp execOp;simp only[ho,resolve,invoke,builtin,Sem.run_bind,Sem.run_pure,Result.andThen_ok,List.map_toArray,List.map_cons,List.map_nil,hs,hx,hr];exact hK _ _ (h v' w' h2 h3 h4)
end Go.Proofs.Ytflmmdljkhdjlaa
