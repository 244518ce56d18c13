import Derived.Test.YtbeohbhhmcjokaaZRdS
import Derived.Maps.AppendAt
import Derived.OwnWalk
import Derived.Laws.OwnMore
set_option linter.all false
set_option maxRecDepth 100000
set_option maxHeartbeats 8000000
open Go.Lib
namespace Go.Proofs.Ytbeohbhhmcjokaa
open Go.RowKit
open M
theorem Kept.grows{r:Nat}{w w':World}(K:Kept r w w'):w.grownBy w' (some r):=⟨K.os,K.tape,K.output,K.size,fun k hk hne=>K.block k hk (fun e=>hne (by rw[e]))⟩
theorem Kept.grown{r:Nat}{w a b:World}{row:Option Nat}(K:Kept r w a)(hg:a.grownBy b row)(hr:∀ g,row=some g->w.heap.size<=g):Kept r w b :=
 ⟨hg.os.trans K.os,hg.tape.trans K.tape,hg.output.trans K.output,Nat.le_trans K.size hg.size,fun k hk hne=>(hg.block k (Nat.lt_of_lt_of_le hk K.size) (fun e=>by have:=hr k e.symm; omega)).trans (K.block k hk hne)⟩
theorem RdU.grown{B:Nat}{a b:World}{r:Nat}{k:Int}{row:Option Nat}(R:RdU B a r k)(hg:a.grownBy b row)(hr:∀ g,row=some g->B<=g):RdU B b r k :=
 R.below ((Below.refl _ _).grown hg R.base hr)
theorem Cz{w w':World}{base:Nat}{e:TypeId}{v:Value}{n r:Nat}{xs:List Value}(h:w.ownsRow base e 1 v n xs)(K:Kept r w w')(hr:r<base):w'.ownsRow base e 1 v n xs :=
 h.kept K.grows (.inr fun he=>by have:=(h.lt r he).1; omega)
theorem Ints.of_own{w:World}{base:Nat}{e:TypeId}{v:Value}{n:Nat}{xs:List Int}(h:w.ownsRow base e 1 v n (xs.map (Value.int .i64))):∃ A cap,v=.slice A n cap/\Ints w A n xs:=by
 have hl:xs.length=n:=by simpa using h.1
 have h0:=h;rcases h0.2 with⟨rfl,rfl⟩ | ⟨g,cap,cur,rfl,_,hh,_⟩
 . exact⟨none,0,rfl,hl,fun hn=>by omega⟩
 . refine⟨_,_,rfl,hl,fun _=>⟨g,0,rfl,?_,fun k hk=>?_⟩⟩
   . exact(h.lt g rfl).2
   . rw[Nat.zero_add,h.cellAt k (by omega),List.getElem?_map,List.getD_eq_getElem?_getD,List.getElem?_eq_getElem (by omega)];rfl
theorem A3:(Try.prog.info? 3).map (fun i=>(i.zero,i.size,i.bytes))=some (some (.int .i64 0),1,8):=by kernel_rfl
def FT(B:Nat)(r:Nat)(k:Int)(w:World)(e:Ending)(w':World):Prop :=
 ∃ x:Int,(-1<=x/\x<=10000)/\e=.returned (.int .i64 x)/\RdU B w' r (k+3)/\Kept r w w'
theorem EP{B:Nat}(r:Nat)(k:Int)(w:World)(R:RdU B w r k)(hk:k<=70000) :
 Calls Try.prog 41 #[.pointer (some ⟨r,0,none⟩)] w (FT B r k w):=by
 have hB:=R.base;have hr:r<w.heap.size:=by have:=R.here; omega
 have R:=hid R;go_enter Try.func41,Try.ntmps41;go_wp2_with fail;refine(AK r 20 k _ R.out (by omega) (by omega) (by omega)).mono ?_;rintro e w1 ⟨a,⟨a0,a1⟩,rfl,R1,K1⟩;have r1:r<w1.heap.size:=by have:=K1.size; omega
 have K1:=hid K1;have R1:=hid R1;by_cases ha:a=0
 . subst ha;go_wp2_with fail;refine(AK r 4 _ _ (R1.out.alloc _) (by omega) (by omega) (by omega)).mono ?_;rintro e w2 ⟨c,⟨c0,c1⟩,rfl,R2,K2⟩;have cell:∀ q,q<4->w2.cell? ⟨w1.heap.size,q,none⟩=#[Value.int .i64 0,.int .i64 9999,.int .i64 10000,.int .i64 (-1)][q]?:=fun q hq=>by
    rw[K2.cell (p:=⟨w1.heap.size,q,none⟩) (by simp) (by simp; omega)];simp[World.cell?_alloc_new]
   have cc:c=0\/c=1\/c=2\/c=3:=by omega
   have K2:=hid (K1.out.trans ((Kept.refl r w1).alloc _ |>.trans K2));have R2:=hid R2;have q0:=cell 0 (by omega);have q1:=cell 1 (by omega);have q2:=cell 2 (by omega);have q3:=cell 3 (by omega);simp at q0 q1 q2 q3;clear cell;rcases cc with rfl | rfl | rfl | rfl
   all_goals
    go_wp2;go_ret;exact⟨_,by omega,rfl,R2.out.mono (by omega),K2.out⟩
 . have ha':(a==0)=false:=beq_eq_false_iff_ne.2 ha;go_wp2_with fail;refine(AK r 99 _ _ R1.out (by omega) (by omega) (by omega)).mono ?_;rintro e w2 ⟨x,⟨x0,x1⟩,rfl,R2,K2⟩;have K2:=hid (K1.out.trans K2);have R2:=hid R2;go_wp2_with fail;refine(AK r 100 _ _ R2.out (by omega) (by omega) (by omega)).mono ?_;rintro e w3 ⟨y,⟨y0,y1⟩,rfl,R3,K3⟩;have K3:=hid (K2.out.trans K3);have R3:=hid R3;clear K1 K2 R1 R2 R;go_wp2;go_ret;exact⟨_,by omega,rfl,R3.out.mono (by omega),K3.out⟩
open Go.RowKit
open M
theorem Ints.nil(w:World)(A:Option Addr):Ints w A 0 []:=⟨rfl,fun h=>absurd h (by omega)⟩
theorem Ints.drew{w:World}{A:Option Addr}{n:Nat}{xs:List Int}(h:Ints w A n xs):Ints w.drew A n xs:=h
theorem Ints.one(w:World)(a:Int)(t:TypeId):Ints (w.alloc (.cells #[.int .i64 a] t)) (some ⟨w.heap.size,0,none⟩) 1 [a] :=
 ⟨rfl,fun _=>⟨w.heap.size,0,rfl,by simp,fun k hk=>by
  match k,hk with
  | 0,_=>simp⟩⟩
theorem Ints.news{w:World}{b off m:Nat}{ys:List Int}(I:Ints w (some ⟨b,off,Option.none⟩) m ys):∀ j u,(ys.map (Value.int .i64))[j]?=some u->w.cell? ((⟨b,off,Option.none⟩:Addr).add j)=some u:=by
 intro j u hj;rw[List.getElem?_map] at hj;have hl:j<ys.length:=by
  rcases Nat.lt_or_ge j ys.length with h | h
  . exact h
  . rw[List.getElem?_eq_none h] at hj; cases hj
 obtain⟨b',off',e,_,hc⟩:=I.2 (by have:=I.1; omega);cases e
 rw[List.getElem?_eq_getElem hl] at hj;cases hj
 rw[Addr.add_lit,hc j (by have:=I.1; omega),List.getD_eq_getElem?_getD,List.getElem?_eq_getElem hl];rfl
theorem CB(w:World)(base:Nat)(ty:TypeId)(v:Value)(n:Nat)(xs:List Value)(hown:w.ownsRow base 3 1 v n xs)(A:Option Addr)(c:Nat)(h0:∀ ad,A=some ad->False) :
 (Builtin.append_ #[23,23] ty #[v,.slice A 0 c]).run Try.prog w=.ok v w:=by
 obtain⟨i0,hi,hz0,hz1,hz2⟩:=info_parts A3;cases A with
 | some ad=>exact(h0 ad rfl).elim
 | none =>
  rcases hown.2 with⟨rfl,rfl⟩ | ⟨g,cap,cur,rfl,_,_,hnc,_⟩
  . simp[Builtin.append_,run_underlying Try.underlying23,sizeOf,typeInfo,hi,Builtin.lenOf,Builtin.firstCells]
  . simp[Builtin.append_,run_underlying Try.underlying23,sizeOf,typeInfo,hi,Builtin.lenOf,Builtin.firstCells,hnc,storeCells]
theorem BX(w:World)(base:Nat)(ty:TypeId)(v:Value)(n:Nat)(xs:List Int)(hown:w.ownsRow base 3 1 v n (xs.map (Value.int .i64)))(A:Option Addr)(m c:Nat)(ys:List Int)(I:Ints w A m ys)
 (hn:n+m<=8000000) (hb:base<=w.heap.size) :
 ∃ v' w',(Builtin.append_ #[23,23] ty #[v,.slice A m c]).run Try.prog w=.ok v' w'/\w'.ownsRow base 3 1 v' (n+m) ((xs++ys).map (Value.int .i64))/\w.grownBy w' v.ownBlock/\(v'.ownBlock=v.ownBlock\/v'.ownBlock=some w.heap.size):=by
 obtain⟨i0,hi,hz0,hz1,hz2⟩:=info_parts A3;by_cases h:∃ b off,A=some ⟨b,off,Option.none⟩
 . obtain⟨b,off,rfl⟩:=h;obtain⟨v',w',hr,h2,h3,_,h5⟩:=run_append_own_at (P:=Try.prog) w base 23 ty 3 i0 (.int .i64 0) 1 8 Try.underlying23 hi hz0 hz1 hz2 rfl (by decide) v n _ hown ⟨b,off,Option.none⟩ m c (ys.map (Value.int .i64)) (by have:=I.1; simp; omega) I.news (ints_oneCell _ _) (by unfold maxLen; omega) (by omega) hb;exact⟨v',w',hr,by simpa using h2,h3,h5⟩
 . have hm:m=0:=by
    rcases Nat.eq_zero_or_pos m with h0 | h0
    . exact h0
    . obtain⟨b,off,e,_⟩:=I.2 h0;exact(h ⟨b,off,e⟩).elim
   subst hm;have hy:ys=[]:=List.eq_nil_of_length_eq_zero I.1;subst hy;cases A with
   | none=>exact⟨v,w,CB w base ty v n _ hown _ c (fun _ e=>by cases e),by simpa using hown,World.grownBy.refl w _,.inl rfl⟩
   | some ad =>
    obtain⟨v',w',hr,h2,h3,_,h5⟩:=run_append_own_at (P:=Try.prog) w base 23 ty 3 i0 (.int .i64 0) 1 8 Try.underlying23 hi hz0 hz1 hz2 rfl (by decide) v n _ hown ad 0 c [] rfl (fun j u hj=>by simp at hj) (fun u hu=>by simp at hu) (by unfold maxLen; omega) (by omega) hb;exact⟨v',w',hr,by simpa using h2,h3,h5⟩
theorem A4(w:World){ops:Array Oper}{rest:List Oper}{o:Oper}{a:Act}{Q:Exit->Act->World->Prop}(hgd:o.guard=Option.none)(s x:Operand)
 (ho:o.op=.call { callee:=.builtin .append,args:=#[s,x],argTypes:=#[23,23] }) (base:Nat) (v:Value) (n:Nat) (xs:List Int) (hs:a.eval s=v) (hown:w.ownsRow base 3 1 v n (xs.map (Value.int .i64)))
 (A:Option Addr) (m c:Nat) (ys:List Int) (hx:a.eval x=.slice A m c) (I:Ints w A m ys) (hn:n+m<=8000000) (hb:base<=w.heap.size)
 (h:∀ v' w',w'.ownsRow base 3 1 v' (n+m) ((xs++ys).map (Value.int .i64))->w.grownBy w' v.ownBlock->(v'.ownBlock=v.ownBlock\/v'.ownBlock=some w.heap.size)->wpList Try.prog ops Q rest (a.put o.dst v') w') :
 wpList Try.prog ops Q (o::rest) a w:=by
 refine wpList_plain hgd fun K hK=>?_;obtain⟨v',w',hr,h2,h3,h4⟩:=BX w base o.type v n xs hown A m c ys I hn hb;unfold Oper.wp execOp;simp only[ho,resolve,invoke,builtin,Sem.run_bind,Sem.run_pure,Result.andThen_ok,List.map_toArray,List.map_cons,List.map_nil,hs,hx,hr];exact hK _ _ (h v' w' h2 h3 h4)
end Go.Proofs.Ytbeohbhhmcjokaa
