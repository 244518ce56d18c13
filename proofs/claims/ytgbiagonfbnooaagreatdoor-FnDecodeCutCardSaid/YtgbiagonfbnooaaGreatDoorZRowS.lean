import Derived.Maps.AppendAt
import Derived.OwnWalk
import Derived.Laws.OwnMore
import Derived.Test.YtgbiagonfbnooaaGreatDoorZLevS
set_option linter.all false
set_option maxRecDepth 100000
set_option maxHeartbeats 8000000
namespace Go.Proofs.YtgbiagonfbnooaaGreatDoor
open Go.RowKit
open M
theorem Kept.grows{r:Nat}{w w':World}(K:Kept r w w'):w.grownBy w' (some r):=⟨K.os,K.tape,K.output,K.size,fun k hk hne=>K.block k hk (fun e=>hne (by rw[e]))⟩
theorem Kept.grown{r:Nat}{w a b:World}{row:Option Nat}(K:Kept r w a)(hg:a.grownBy b row)(hr:∀ g,row=some g->w.heap.size<=g):Kept r w b :=
 ⟨hg.os.trans K.os,hg.tape.trans K.tape,hg.output.trans K.output,Nat.le_trans K.size hg.size,fun k hk hne=>(hg.block k (Nat.lt_of_lt_of_le hk K.size) (fun e=>by have:=hr k e.symm; omega)).trans (K.block k hk hne)⟩
theorem RdU.grown{B:Nat}{a b:World}{r:Nat}{k:Int}{row:Option Nat}(R:RdU B a r k)(hg:a.grownBy b row)(hr:∀ g,row=some g->B<=g):RdU B b r k :=
 R.below ((Below.refl _ _).grown hg R.base hr)
theorem Ints.of_own{w:World}{base:Nat}{e:TypeId}{v:Value}{n:Nat}{xs:List Int}(h:w.ownsRow base e 1 v n (xs.map (Value.int .i64))):∃ A cap,v=.slice A n cap/\Ints w A n xs:=by
 have hl:xs.length=n:=by simpa using h.1
 have h0:=h;rcases h0.2 with⟨rfl,rfl⟩ | ⟨g,cap,cur,rfl,_,hh,_⟩
 . exact⟨none,0,rfl,hl,fun hn=>by omega⟩
 . refine⟨_,_,rfl,hl,fun _=>⟨g,0,rfl,?_,fun k hk=>?_⟩⟩
   . exact(h.lt g rfl).2
   . rw[Nat.zero_add,h.cellAt k (by omega),List.getElem?_map,List.getD_eq_getElem?_getD,List.getElem?_eq_getElem (by omega)];rfl
theorem BO:(Tryz.prog.info? 3).map (fun i=>(i.zero,i.size,i.bytes))=some (some (.int .i64 0),1,8):=by kernel_rfl
open Go.RowKit
open M
theorem Ints.nil(w:World)(A:Option Addr):Ints w A 0 []:=⟨rfl,fun h=>absurd h (by omega)⟩
theorem Ints.drew{w:World}{A:Option Addr}{n:Nat}{xs:List Int}(h:Ints w A n xs):Ints w.drew A n xs:=h
theorem Ints.one(w:World)(a:Int)(t:TypeId):Ints (w.alloc (.cells #[.int .i64 a] t)) (some ⟨w.heap.size,0,none⟩) 1 [a] :=
 ⟨rfl,fun _=>⟨w.heap.size,0,rfl,by simp,fun k hk=>by
  match k,hk with
  | 0,_=>simp⟩⟩
theorem Ints.two(w:World)(a b:Int)(t:TypeId):Ints (w.alloc (.cells #[.int .i64 a,.int .i64 b] t)) (some ⟨w.heap.size,0,none⟩) 2 [a,b] :=
 ⟨rfl,fun _=>⟨w.heap.size,0,rfl,by simp,fun k hk=>by
  match k,hk with
  | 0,_=>simp
  | 1,_=>simp⟩⟩
theorem Ints.news{w:World}{b off m:Nat}{ys:List Int}(I:Ints w (some ⟨b,off,Option.none⟩) m ys):∀ j u,(ys.map (Value.int .i64))[j]?=some u->w.cell? ((⟨b,off,Option.none⟩:Addr).add j)=some u:=by
 intro j u hj;rw[List.getElem?_map] at hj;have hl:j<ys.length:=by
  rcases Nat.lt_or_ge j ys.length with h | h
  . exact h
  . rw[List.getElem?_eq_none h] at hj; cases hj
 obtain⟨b',off',e,_,hc⟩:=I.2 (by have:=I.1; omega);cases e
 rw[List.getElem?_eq_getElem hl] at hj;cases hj
 rw[Addr.add_lit,hc j (by have:=I.1; omega),List.getD_eq_getElem?_getD,List.getElem?_eq_getElem hl];rfl
theorem EU(w:World)(base:Nat)(ty:TypeId)(v:Value)(n:Nat)(xs:List Value)(hown:w.ownsRow base 3 1 v n xs)(A:Option Addr)(c:Nat)(h0:∀ ad,A=some ad->False) :
 (Builtin.append_ #[24,24] ty #[v,.slice A 0 c]).run Tryz.prog w=.ok v w:=by
 obtain⟨i0,hi,hz0,hz1,hz2⟩:=info_parts BO;cases A with
 | some ad=>exact(h0 ad rfl).elim
 | none =>
  rcases hown.2 with⟨rfl,rfl⟩ | ⟨g,cap,cur,rfl,_,_,hnc,_⟩
  . simp[Builtin.append_,run_underlying Tryz.underlying24,sizeOf,typeInfo,hi,Builtin.lenOf,Builtin.firstCells]
  . simp[Builtin.append_,run_underlying Tryz.underlying24,sizeOf,typeInfo,hi,Builtin.lenOf,Builtin.firstCells,hnc,storeCells]
theorem Cl(w:World)(base:Nat)(ty:TypeId)(v:Value)(n:Nat)(xs:List Int)(hown:w.ownsRow base 3 1 v n (xs.map (Value.int .i64)))(A:Option Addr)(m c:Nat)(ys:List Int)(I:Ints w A m ys)
 (hn:n+m<=8000000) (hb:base<=w.heap.size) :
 ∃ v' w',(Builtin.append_ #[24,24] ty #[v,.slice A m c]).run Tryz.prog w=.ok v' w'/\w'.ownsRow base 3 1 v' (n+m) ((xs++ys).map (Value.int .i64))/\w.grownBy w' v.ownBlock/\(v'.ownBlock=v.ownBlock\/v'.ownBlock=some w.heap.size):=by
 obtain⟨i0,hi,hz0,hz1,hz2⟩:=info_parts BO;by_cases h:∃ b off,A=some ⟨b,off,Option.none⟩
 . obtain⟨b,off,rfl⟩:=h;obtain⟨v',w',hr,h2,h3,_,h5⟩:=run_append_own_at (P:=Tryz.prog) w base 24 ty 3 i0 (.int .i64 0) 1 8 Tryz.underlying24 hi hz0 hz1 hz2 rfl (by decide) v n _ hown ⟨b,off,Option.none⟩ m c (ys.map (Value.int .i64)) (by have:=I.1; simp; omega) I.news (ints_oneCell _ _) (by unfold maxLen; omega) (by omega) hb;exact⟨v',w',hr,by simpa using h2,h3,h5⟩
 . have hm:m=0:=by
    rcases Nat.eq_zero_or_pos m with h0 | h0
    . exact h0
    . obtain⟨b,off,e,_⟩:=I.2 h0;exact(h ⟨b,off,e⟩).elim
   subst hm;have hy:ys=[]:=List.eq_nil_of_length_eq_zero I.1;subst hy;cases A with
   | none=>exact⟨v,w,EU w base ty v n _ hown _ c (fun _ e=>by cases e),by simpa using hown,World.grownBy.refl w _,.inl rfl⟩
   | some ad =>
    obtain⟨v',w',hr,h2,h3,_,h5⟩:=run_append_own_at (P:=Tryz.prog) w base 24 ty 3 i0 (.int .i64 0) 1 8 Tryz.underlying24 hi hz0 hz1 hz2 rfl (by decide) v n _ hown ad 0 c [] rfl (fun j u hj=>by simp at hj) (fun u hu=>by simp at hu) (by unfold maxLen; omega) (by omega) hb;exact⟨v',w',hr,by simpa using h2,h3,h5⟩
theorem AP(w:World){ops:Array Oper}{rest:List Oper}{o:Oper}{a:Act}{Q:Exit->Act->World->Prop}(hgd:o.guard=Option.none)(s x:Operand)
 (ho:o.op=.call { callee:=.builtin .append,args:=#[s,x],argTypes:=#[24,24] }) (base:Nat) (v:Value) (n:Nat) (xs:List Int) (hs:a.eval s=v) (hown:w.ownsRow base 3 1 v n (xs.map (Value.int .i64)))
 (A:Option Addr) (m c:Nat) (ys:List Int) (hx:a.eval x=.slice A m c) (I:Ints w A m ys) (hn:n+m<=8000000) (hb:base<=w.heap.size)
 (h:∀ v' w',w'.ownsRow base 3 1 v' (n+m) ((xs++ys).map (Value.int .i64))->w.grownBy w' v.ownBlock->(v'.ownBlock=v.ownBlock\/v'.ownBlock=some w.heap.size)->wpList Tryz.prog ops Q rest (a.put o.dst v') w') :
 wpList Tryz.prog ops Q (o::rest) a w:=by
 refine wpList_plain hgd fun K hK=>?_;obtain⟨v',w',hr,h2,h3,h4⟩:=Cl w base o.type v n xs hown A m c ys I hn hb;unfold Oper.wp execOp;simp only[ho,resolve,invoke,builtin,Sem.run_bind,Sem.run_pure,Result.andThen_ok,List.map_toArray,List.map_cons,List.map_nil,hs,hx,hr];exact hK _ _ (h v' w' h2 h3 h4)
open Go.RowKit
open M
theorem CellsAt.grown{W w':World}{b:Nat}{vs:List Value}{row:Option Nat}(h:CellsAt W b vs)(hg:W.grownBy w' row)(hr:row≠some b):CellsAt w' b vs :=
 h.of (hg.block b h.lt (fun e=>hr e.symm)) hg.size
open Go.RowKit
open M
def Do(bs:List Bx):List Value:=(flat bs).map (Value.int .i64)
def comp(q:Bx):Nat->Int
 | 0=>q.a
 | 1=>q.b
 | 2=>q.c
 | _=>q.d
theorem Iu:∀(bs:List Bx) (k r:Nat),k<bs.length->r<4->(flat bs)[k*4+r]?=some (comp (bs.getD k bz) r)
 | [],k,r,h,_=>absurd h (by simp)
 | q::bs,0,r,_,hr=>by
  match r,hr with
  | 0,_=>rfl
  | 1,_=>rfl
  | 2,_=>rfl
  | 3,_=>rfl
 | q::bs,k+1,r,h,hr=>by
  have t:=Iu bs k r (by simpa using h) hr;have e:(k+1)*4+r=(k*4+r)+1+1+1+1:=by omega
  rw[e];simp only[flat,List.getElem?_cons_succ];rw[t];rfl
theorem KO{bs:List Bx}{k r:Nat}(hk:k<bs.length)(hr:r<4):(Do bs)[k*4+r]?=some (.int .i64 (comp (bs.getD k bz) r)):=by
 unfold Do;rw[List.getElem?_map,Iu bs k r hk hr];rfl
theorem Iv(bs:List Bx):(Do bs).length=bs.length*4:=by
 unfold Do;rw[List.length_map,JR,Nat.mul_comm]
theorem EV(qs bs:List Bx):Do (qs++bs)=Do qs++Do bs:=by simp[Do,Gi]
theorem BoxAt.comp{w:World}{b o:Nat}{q:Bx}(h:BoxAt w b o q){r:Nat}(hr:r<4):w.cell? ⟨b,o+r,none⟩=some (.int .i64 (comp q r)):=by
 match r,hr with
 | 0,_=>exact h.c0
 | 1,_=>exact h.c1
 | 2,_=>exact h.c2
 | 3,_=>exact h.c3
theorem Boxes.news{w:World}{b off m:Nat}{bs:List Bx}(I:Boxes w (some ⟨b,off,Option.none⟩) m bs):∀ j u,(Do bs)[j]?=some u->w.cell? ((⟨b,off,Option.none⟩:Addr).add j)=some u:=by
 intro j u hj;have hl:j<bs.length*4:=by
  rw[<- Iv];rcases Nat.lt_or_ge j (Do bs).length with h | h
  . exact h
  . rw[List.getElem?_eq_none h] at hj; cases hj
 obtain⟨b',off',e,_,hc⟩:=I.2 (by have:=I.1; omega);cases e
 have ej:j=(j / 4)*4+j % 4:=by omega
 have hk:j / 4<bs.length:=by omega
 rw[ej,KO hk (by omega)] at hj;cases hj
 rw[Addr.add_lit];have t:=(hc (j / 4) (by have:=I.1; omega)).comp (r:=j % 4) (by omega);rw[Nat.add_assoc,<- ej] at t;exact t
theorem Boxes.of_own{w:World}{base:Nat}{e:TypeId}{v:Value}{n:Nat}{bs:List Bx}(h:w.ownsRow base e 4 v n (Do bs)):∃ A cap,v=.slice A n cap/\Boxes w A n bs/\(∀ g off,A=some ⟨g,off,none⟩->base<=g):=by
 have hl:bs.length=n:=by have:=h.1; rw[Iv] at this; omega
 have h0:=h;rcases h0.2 with⟨rfl,rfl⟩ | ⟨g,cap,cur,rfl,hbg,hh,_⟩
 . exact⟨none,0,rfl,⟨hl,fun hn=>by omega⟩,fun g off e=>by cases e⟩
 . refine⟨_,_,rfl,⟨hl,fun _=>⟨g,0,rfl,(h.lt g rfl).2,fun k hk=>?_⟩⟩,fun g' off e=>by cases e; exact hbg⟩;have hc:∀ r,r<4->w.cell? ⟨g,0+k*4+r,none⟩=some (.int .i64 (comp (bs.getD k bz) r)):=fun r hr=>by
    rw[Nat.zero_add,h.cellAt (k*4+r) (by omega),KO (by omega) hr]
   exact⟨hc 0 (by omega),hc 1 (by omega),hc 2 (by omega),hc 3 (by omega)⟩
theorem Boxes.kept{w w':World}{A:Option Addr}{n r:Nat}{bs:List Bx}(h:Boxes w A n bs)(K:Kept r w w')(hA:0<n->∀ k off,A=some ⟨k,off,none⟩->k≠r):Boxes w' A n bs :=
 ⟨h.1,fun hn=>by
  obtain⟨b,off,e,hb,hc⟩:=h.2 hn;exact⟨b,off,e,Nat.lt_of_lt_of_le hb K.size,fun k hk=>(hc k hk).of (K.block b hb (hA hn b off e))⟩⟩
theorem Boxes.lt{w:World}{A:Option Addr}{n:Nat}{bs:List Bx}(h:Boxes w A n bs)(hn:0<n):∀ k off,A=some ⟨k,off,none⟩->k<w.heap.size:=fun k off e=>by
 obtain⟨b,off',e',hb,_⟩:=h.2 hn;rw[e'] at e;cases e
 exact hb
theorem KP:(Tryz.prog.info? 60).map (fun i=>(i.zero,i.size,i.bytes))=some (some (box 0 0 0 0),4,32):=by kernel_rfl
theorem Dp(bs:List Bx):∀ u∈Do bs,u.oneCell'=true:=ints_oneCell _ _
theorem Boxes.one(w:World)(B:Nat)(a b c d:Int)(t:TypeId)(hB:B=w.heap.size):Boxes (w.alloc (.cells #[.int .i64 a,.int .i64 b,.int .i64 c,.int .i64 d] t)) (some ⟨B,0,none⟩) 1 [⟨a,b,c,d⟩] :=
 hB▸⟨rfl,fun _=>⟨w.heap.size,0,rfl,by simp,fun k hk=>by
  match k,hk with
  | 0,_=>exact⟨by simp,by simp,by simp,by simp⟩⟩⟩
open Go.RowKit
open M
def Strs(w:World)(A:Option Addr)(n:Nat)(xs:List ByteArray):Prop :=
 xs.length=n/\(0<n->∃ b off,A=some ⟨b,off,none⟩/\b<w.heap.size/\∀ k,k<n->w.cell? ⟨b,off+k,none⟩=some (.string (xs.getD k ByteArray.empty)))
theorem Strs.step{w w':World}{A:Option Addr}{n:Nat}{xs:List ByteArray}(h:Strs w A n xs)(B:Below w.heap.size w w'):Strs w' A n xs :=
 ⟨h.1,fun hn=>by
  obtain⟨b,off,e,hb,hc⟩:=h.2 hn;exact⟨b,off,e,Nat.lt_of_lt_of_le hb B.size,fun k hk=>(B.cell (p:=⟨b,off+k,none⟩) hb).trans (hc k hk)⟩⟩
theorem Strs.alloc{w:World}{A:Option Addr}{n:Nat}{xs:List ByteArray}(h:Strs w A n xs)(o:Obj):Strs (w.alloc o) A n xs:=h.step (Ab (Ac w) o)
theorem Strs.of_own{w:World}{base:Nat}{e:TypeId}{v:Value}{n:Nat}{xs:List ByteArray}(h:w.ownsRow base e 1 v n (xs.map Value.string)):∃ A cap,v=.slice A n cap/\Strs w A n xs:=by
 have hl:xs.length=n:=by simpa using h.1
 have h0:=h;rcases h0.2 with⟨rfl,rfl⟩ | ⟨g,cap,cur,rfl,_,hh,_⟩
 . exact⟨none,0,rfl,hl,fun hn=>by omega⟩
 . refine⟨_,_,rfl,hl,fun _=>⟨g,0,rfl,?_,fun k hk=>?_⟩⟩
   . exact(h.lt g rfl).2
   . rw[Nat.zero_add,h.cellAt k (by omega),List.getElem?_map,List.getD_eq_getElem?_getD,List.getElem?_eq_getElem (by omega)];rfl
theorem Oj:(Tryz.prog.info? 9).map (fun i=>(i.zero,i.size,i.bytes))=some (some (.string ByteArray.empty),1,16):=by kernel_rfl
theorem OX:∀(xs:List ByteArray),∀ u∈xs.map Value.string,u.oneCell'=true:=by
 intro xs u hu;obtain⟨x,_,rfl⟩:=List.mem_map.1 hu;rfl
theorem Strs.nil(w:World)(A:Option Addr):Strs w A 0 []:=⟨rfl,fun h=>absurd h (by omega)⟩
theorem Strs.drew{w:World}{A:Option Addr}{n:Nat}{xs:List ByteArray}(h:Strs w A n xs):Strs w.drew A n xs:=h
theorem Strs.one(w:World)(a:ByteArray)(t:TypeId):Strs (w.alloc (.cells #[.string a] t)) (some ⟨w.heap.size,0,none⟩) 1 [a] :=
 ⟨rfl,fun _=>⟨w.heap.size,0,rfl,by simp,fun k hk=>by
  match k,hk with
  | 0,_=>simp⟩⟩
theorem Strs.news{w:World}{b off m:Nat}{ys:List ByteArray}(I:Strs w (some ⟨b,off,Option.none⟩) m ys):∀ j u,(ys.map Value.string)[j]?=some u->w.cell? ((⟨b,off,Option.none⟩:Addr).add j)=some u:=by
 intro j u hj;rw[List.getElem?_map] at hj;have hl:j<ys.length:=by
  rcases Nat.lt_or_ge j ys.length with h | h
  . exact h
  . rw[List.getElem?_eq_none h] at hj; cases hj
 obtain⟨b',off',e,_,hc⟩:=I.2 (by have:=I.1; omega);cases e
 rw[List.getElem?_eq_getElem hl] at hj;cases hj
 rw[Addr.add_lit,hc j (by have:=I.1; omega),List.getD_eq_getElem?_getD,List.getElem?_eq_getElem hl];rfl
theorem OB(w:World)(base:Nat)(ty:TypeId)(v:Value)(n:Nat)(xs:List Value)(hown:w.ownsRow base 9 1 v n xs)(A:Option Addr)(c:Nat)(h0:∀ ad,A=some ad->False) :
 (Builtin.append_ #[68,68] ty #[v,.slice A 0 c]).run Tryz.prog w=.ok v w:=by
 obtain⟨i0,hi,hz0,hz1,hz2⟩:=info_parts Oj;cases A with
 | some ad=>exact(h0 ad rfl).elim
 | none =>
  rcases hown.2 with⟨rfl,rfl⟩ | ⟨g,cap,cur,rfl,_,_,hnc,_⟩
  . simp[Builtin.append_,run_underlying Tryz.underlying68,sizeOf,typeInfo,hi,Builtin.lenOf,Builtin.firstCells]
  . simp[Builtin.append_,run_underlying Tryz.underlying68,sizeOf,typeInfo,hi,Builtin.lenOf,Builtin.firstCells,hnc,storeCells]
theorem On(w:World)(base:Nat)(ty:TypeId)(v:Value)(n:Nat)(xs:List ByteArray)(hown:w.ownsRow base 9 1 v n (xs.map Value.string))(A:Option Addr)(m c:Nat)(ys:List ByteArray)(I:Strs w A m ys)
 (hn:n+m<=8000000) (hb:base<=w.heap.size) :
 ∃ v' w',(Builtin.append_ #[68,68] ty #[v,.slice A m c]).run Tryz.prog w=.ok v' w'/\w'.ownsRow base 9 1 v' (n+m) ((xs++ys).map Value.string)/\w.grownBy w' v.ownBlock/\(v'.ownBlock=v.ownBlock\/v'.ownBlock=some w.heap.size):=by
 obtain⟨i0,hi,hz0,hz1,hz2⟩:=info_parts Oj;by_cases h:∃ b off,A=some ⟨b,off,Option.none⟩
 . obtain⟨b,off,rfl⟩:=h;obtain⟨v',w',hr,h2,h3,_,h5⟩:=run_append_own_at (P:=Tryz.prog) w base 68 ty 9 i0 (.string ByteArray.empty) 1 16 Tryz.underlying68 hi hz0 hz1 hz2 rfl (by decide) v n _ hown ⟨b,off,Option.none⟩ m c (ys.map Value.string) (by have:=I.1; simp; omega) I.news (OX _) (by unfold maxLen; omega) (by omega) hb;exact⟨v',w',hr,by simpa using h2,h3,h5⟩
 . have hm:m=0:=by
    rcases Nat.eq_zero_or_pos m with h0 | h0
    . exact h0
    . obtain⟨b,off,e,_⟩:=I.2 h0;exact(h ⟨b,off,e⟩).elim
   subst hm;have hy:ys=[]:=List.eq_nil_of_length_eq_zero I.1;subst hy;cases A with
   | none=>exact⟨v,w,OB w base ty v n _ hown _ c (fun _ e=>by cases e),by simpa using hown,World.grownBy.refl w _,.inl rfl⟩
   | some ad =>
    obtain⟨v',w',hr,h2,h3,_,h5⟩:=run_append_own_at (P:=Tryz.prog) w base 68 ty 9 i0 (.string ByteArray.empty) 1 16 Tryz.underlying68 hi hz0 hz1 hz2 rfl (by decide) v n _ hown ad 0 c [] rfl (fun j u hj=>by simp at hj) (fun u hu=>by simp at hu) (by unfold maxLen; omega) (by omega) hb;exact⟨v',w',hr,by simpa using h2,h3,h5⟩
theorem Om(w:World){ops:Array Oper}{rest:List Oper}{o:Oper}{a:Act}{Q:Exit->Act->World->Prop}(hgd:o.guard=Option.none)(s x:Operand)
 (ho:o.op=.call { callee:=.builtin .append,args:=#[s,x],argTypes:=#[68,68] }) (base:Nat) (v:Value) (n:Nat) (xs:List ByteArray) (hs:a.eval s=v) (hown:w.ownsRow base 9 1 v n (xs.map Value.string))
 (A:Option Addr) (m c:Nat) (ys:List ByteArray) (hx:a.eval x=.slice A m c) (I:Strs w A m ys) (hn:n+m<=8000000) (hb:base<=w.heap.size)
 (h:∀ v' w',w'.ownsRow base 9 1 v' (n+m) ((xs++ys).map Value.string)->w.grownBy w' v.ownBlock->(v'.ownBlock=v.ownBlock\/v'.ownBlock=some w.heap.size)->wpList Tryz.prog ops Q rest (a.put o.dst v') w') :
 wpList Tryz.prog ops Q (o::rest) a w:=by
 refine wpList_plain hgd fun K hK=>?_;obtain⟨v',w',hr,h2,h3,h4⟩:=On w base o.type v n xs hown A m c ys I hn hb;unfold Oper.wp execOp;simp only[ho,resolve,invoke,builtin,Sem.run_bind,Sem.run_pure,Result.andThen_ok,List.map_toArray,List.map_cons,List.map_nil,hs,hx,hr];exact hK _ _ (h v' w' h2 h3 h4)
end Go.Proofs.YtgbiagonfbnooaaGreatDoor
