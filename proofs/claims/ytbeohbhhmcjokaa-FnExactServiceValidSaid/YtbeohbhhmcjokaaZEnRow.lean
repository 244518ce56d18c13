import Derived.Test.YtbeohbhhmcjokaaZBdMath
import Derived.Test.YtbeohbhhmcjokaaZLevH
set_option linter.all false
set_option maxRecDepth 100000
set_option maxHeartbeats 8000000
namespace Go.Proofs.Ytbeohbhhmcjokaa
open Go.RowKit
open M
structure EnAt(w:World)(b o:Nat)(q:En):Prop where
 c0:w.cell? ⟨b,o,none⟩=some (.int .i64 q.p)
 c1:w.cell? ⟨b,o+1,none⟩=some (.int .i64 q.s)
def Ents(w:World)(A:Option Addr)(n:Nat)(xs:List En):Prop :=
 xs.length=n/\(0<n->∃ b off,A=some ⟨b,off,none⟩/\b<w.heap.size/\∀ k,k<n->EnAt w b (off+k*2) (xs.getD k ez))
theorem EnAt.of{w w':World}{b o:Nat}{q:En}(h:EnAt w b o q)(e:w'.heap[b]?=w.heap[b]?):EnAt w' b o q :=
 ⟨(World.cell?_of_block (a:=⟨b,o,none⟩) e).trans h.c0,(World.cell?_of_block (a:=⟨b,o+1,none⟩) e).trans h.c1⟩
theorem Ents.step{w w':World}{A:Option Addr}{n:Nat}{xs:List En}(h:Ents w A n xs)(B:Below w.heap.size w w'):Ents w' A n xs :=
 ⟨h.1,fun hn=>by
  obtain⟨b,off,e,hb,hc⟩:=h.2 hn;exact⟨b,off,e,Nat.lt_of_lt_of_le hb B.size,fun k hk=>(hc k hk).of (B.block b hb)⟩⟩
theorem Ents.alloc{w:World}{A:Option Addr}{n:Nat}{xs:List En}(h:Ents w A n xs)(o:Obj):Ents (w.alloc o) A n xs:=h.step (Ab (Ac w) o)
theorem Ents.drew{w:World}{A:Option Addr}{n:Nat}{xs:List En}(h:Ents w A n xs):Ents w.drew A n xs:=h.step (Ac w).drew
theorem Ents.nil(w:World)(A:Option Addr):Ents w A 0 []:=⟨rfl,fun h=>absurd h (by omega)⟩
theorem Ents.kept{w w':World}{A:Option Addr}{n r:Nat}{xs:List En}(h:Ents w A n xs)(K:Kept r w w')(hA:0<n->∀ k off,A=some ⟨k,off,none⟩->k≠r):Ents w' A n xs :=
 ⟨h.1,fun hn=>by
  obtain⟨b,off,e,hb,hc⟩:=h.2 hn;exact⟨b,off,e,Nat.lt_of_lt_of_le hb K.size,fun k hk=>(hc k hk).of (K.block b hb (hA hn b off e))⟩⟩
theorem Ents.grown{W w':World}{A:Option Addr}{n:Nat}{xs:List En}{row:Option Nat}(h:Ents W A n xs)(hg:W.grownBy w' row)(hr:0<n->∀ k off,A=some ⟨k,off,none⟩->row≠some k):Ents w' A n xs :=
 ⟨h.1,fun hn=>by
  obtain⟨b,off,e,hb,hc⟩:=h.2 hn;exact⟨b,off,e,Nat.lt_of_lt_of_le hb hg.size,fun k hk=>(hc k hk).of (hg.block b hb (fun e'=>hr hn b off e e'.symm))⟩⟩
theorem Ents.lt{w:World}{A:Option Addr}{n:Nat}{xs:List En}(h:Ents w A n xs)(hn:0<n):∀ k off,A=some ⟨k,off,none⟩->k<w.heap.size:=fun k off e=>by
 obtain⟨b,off',e',hb,_⟩:=h.2 hn;rw[e'] at e;cases e
 exact hb
theorem Ents.take{w:World}{A:Option Addr}{n:Nat}{xs:List En}(h:Ents w A n xs){j:Nat}(hj:j<=n):Ents w A j (xs.take j) :=
 ⟨by rw[List.length_take,h.1]; omega,fun h0=>by
  obtain⟨b,off,e,hb,hc⟩:=h.2 (by omega);refine⟨b,off,e,hb,fun k hk=>?_⟩;have t:=hc k (by omega);have e2:(xs.take j).getD k ez=xs.getD k ez:=by simp[List.getD_eq_getElem?_getD,List.getElem?_take,hk]
  rw[e2];exact t⟩
def BF:List En->List Value
 | []=>[]
 | q::xs=>.int .i64 q.p::.int .i64 q.s::BF xs
def Ff(q:En):Nat->Value
 | 0=>.int .i64 q.p
 | _=>.int .i64 q.s
theorem DT:∀(xs:List En) (k r:Nat),k<xs.length->r<2->(BF xs)[k*2+r]?=some (Ff (xs.getD k ez) r)
 | [],k,r,h,_=>absurd h (by simp)
 | q::xs,0,r,_,hr=>by
  match r,hr with
  | 0,_=>rfl
  | 1,_=>rfl
 | q::xs,k+1,r,h,hr=>by
  have t:=DT xs k r (by simpa using h) hr;have e:(k+1)*2+r=(k*2+r)+1+1:=by omega
  rw[e];simp only[BF,List.getElem?_cons_succ];rw[t];rfl
theorem B7:∀ xs:List En,(BF xs).length=xs.length*2
 | []=>rfl
 | q::xs=>by simp only[BF,List.length_cons,B7 xs]; omega
theorem Cl:∀ qs xs:List En,BF (qs++xs)=BF qs++BF xs
 | [],_=>rfl
 | q::qs,xs=>by simp only[List.cons_append,BF,Cl qs xs]
theorem Ek:∀ xs:List En,∀ u∈BF xs,u.oneCell'=true
 | [],u,h=>by cases h
 | q::xs,u,h=>by
  simp only[BF,List.mem_cons] at h;rcases h with rfl | rfl | h
  . rfl
  . rfl
  . exact Ek xs u h
theorem EnAt.comp{w:World}{b o:Nat}{q:En}(h:EnAt w b o q){r:Nat}(hr:r<2):w.cell? ⟨b,o+r,none⟩=some (Ff q r):=by
 match r,hr with
 | 0,_=>exact h.c0
 | 1,_=>exact h.c1
theorem Ents.news{w:World}{b off m:Nat}{xs:List En}(I:Ents w (some ⟨b,off,Option.none⟩) m xs):∀ j u,(BF xs)[j]?=some u->w.cell? ((⟨b,off,Option.none⟩:Addr).add j)=some u:=by
 intro j u hj;have hl:j<xs.length*2:=by
  rw[<- B7];rcases Nat.lt_or_ge j (BF xs).length with h | h
  . exact h
  . rw[List.getElem?_eq_none h] at hj; cases hj
 obtain⟨b',off',e,_,hc⟩:=I.2 (by have:=I.1; omega);cases e
 have ej:j=(j / 2)*2+j % 2:=by omega
 have hk:j / 2<xs.length:=by omega
 rw[ej,DT xs _ _ hk (by omega)] at hj;cases hj
 rw[Addr.add_lit];have t:=(hc (j / 2) (by have:=I.1; omega)).comp (r:=j % 2) (by omega);rw[Nat.add_assoc,<- ej] at t;exact t
theorem Ents.of_own{w:World}{base:Nat}{e:TypeId}{v:Value}{n:Nat}{xs:List En}(h:w.ownsRow base e 2 v n (BF xs)):∃ A cap,v=.slice A n cap/\Ents w A n xs/\(∀ g off,A=some ⟨g,off,none⟩->base<=g):=by
 have hl:xs.length=n:=by have:=h.1; rw[B7] at this; omega
 have h0:=h;rcases h0.2 with⟨rfl,rfl⟩ | ⟨g,cap,cur,rfl,hbg,hh,_⟩
 . exact⟨none,0,rfl,⟨hl,fun hn=>by omega⟩,fun g off e=>by cases e⟩
 . refine⟨_,_,rfl,⟨hl,fun _=>⟨g,0,rfl,(h.lt g rfl).2,fun k hk=>?_⟩⟩,fun g' off e=>by cases e; exact hbg⟩;have hc:∀ r,r<2->w.cell? ⟨g,0+k*2+r,none⟩=some (Ff (xs.getD k ez) r):=fun r hr=>by
    rw[Nat.zero_add,h.cellAt (k*2+r) (by omega),DT xs _ _ (by omega) hr]
   exact⟨hc 0 (by omega),hc 1 (by omega)⟩
theorem Bt:(Try.prog.info? 88).map (fun i=>(i.zero,i.size,i.bytes))=some (some (.agg #[.int .i64 0,.int .i64 0]),2,16):=by kernel_rfl
theorem CG(w:World)(base:Nat)(ty:TypeId)(v:Value)(n:Nat)(xs:List Value)(hown:w.ownsRow base 88 2 v n xs)(c:Nat) :
 (Builtin.append_ #[68,68] ty #[v,.slice none 0 c]).run Try.prog w=.ok v w:=by
 obtain⟨i0,hi,hz0,hz1,hz2⟩:=info_parts Bt;rcases hown.2 with⟨rfl,rfl⟩ | ⟨g,cap,cur,rfl,_,_,hnc,_⟩
 . simp[Builtin.append_,run_underlying Try.underlying68,sizeOf,typeInfo,hi,Builtin.lenOf,Builtin.firstCells]
 . simp[Builtin.append_,run_underlying Try.underlying68,sizeOf,typeInfo,hi,Builtin.lenOf,Builtin.firstCells,hnc,storeCells]
theorem AU(w:World)(base:Nat)(ty:TypeId)(v:Value)(n:Nat)(qs:List En)(hown:w.ownsRow base 88 2 v n (BF qs))(A:Option Addr)(m c:Nat)(xs:List En)(I:Ents w A m xs)
 (hn:n+m<=10000000) (hb:base<=w.heap.size) :
 ∃ v' w',(Builtin.append_ #[68,68] ty #[v,.slice A m c]).run Try.prog w=.ok v' w'/\w'.ownsRow base 88 2 v' (n+m) (BF (qs++xs))/\w.grownBy w' v.ownBlock/\(v'.ownBlock=v.ownBlock\/v'.ownBlock=some w.heap.size):=by
 obtain⟨i0,hi,hz0,hz1,hz2⟩:=info_parts Bt;by_cases h:∃ b off,A=some ⟨b,off,Option.none⟩
 . obtain⟨b,off,rfl⟩:=h;obtain⟨v',w',hr,h2,h3,_,h5⟩:=run_append_own_at (P:=Try.prog) w base 68 ty 88 i0 (.agg #[.int .i64 0,.int .i64 0]) 2 16 Try.underlying68 hi hz0 hz1 hz2 rfl (by decide) v n _ hown ⟨b,off,Option.none⟩ m c (BF xs) (by rw[B7,I.1]) I.news (Ek _) (by unfold maxLen; omega) (by omega) hb;exact⟨v',w',hr,by rw[Cl]; exact h2,h3,h5⟩
 . have hm:m=0:=by
    rcases Nat.eq_zero_or_pos m with h0 | h0
    . exact h0
    . obtain⟨b,off,e,_⟩:=I.2 h0;exact(h ⟨b,off,e⟩).elim
   subst hm;have hy:xs=[]:=List.eq_nil_of_length_eq_zero I.1;subst hy;cases A with
   | none=>exact⟨v,w,CG w base ty v n _ hown c,by simpa using hown,World.grownBy.refl w _,.inl rfl⟩
   | some ad =>
    obtain⟨v',w',hr,h2,h3,_,h5⟩:=run_append_own_at (P:=Try.prog) w base 68 ty 88 i0 (.agg #[.int .i64 0,.int .i64 0]) 2 16 Try.underlying68 hi hz0 hz1 hz2 rfl (by decide) v n _ hown ad 0 c [] rfl (fun j u hj=>by simp at hj) (fun u hu=>by simp at hu) (by unfold maxLen; omega) (by omega) hb;exact⟨v',w',hr,by simpa using h2,h3,h5⟩
theorem Dl(w:World){ops:Array Oper}{rest:List Oper}{o:Oper}{a:Act}{Q:Exit->Act->World->Prop}(hgd:o.guard=Option.none)(s x:Operand)
 (ho:o.op=.call { callee:=.builtin .append,args:=#[s,x],argTypes:=#[68,68] }) (base:Nat) (v:Value) (n:Nat) (qs:List En) (hs:a.eval s=v) (hown:w.ownsRow base 88 2 v n (BF qs))
 (A:Option Addr) (m c:Nat) (xs:List En) (hx:a.eval x=.slice A m c) (I:Ents w A m xs) (hn:n+m<=10000000) (hb:base<=w.heap.size)
 (h:∀ v' w',w'.ownsRow base 88 2 v' (n+m) (BF (qs++xs))->w.grownBy w' v.ownBlock->(v'.ownBlock=v.ownBlock\/v'.ownBlock=some w.heap.size)->wpList Try.prog ops Q rest (a.put o.dst v') w') :
 wpList Try.prog ops Q (o::rest) a w:=by
 refine wpList_plain hgd fun K hK=>?_;obtain⟨v',w',hr,h2,h3,h4⟩:=AU w base o.type v n qs hown A m c xs I hn hb;unfold Oper.wp execOp;simp only[ho,resolve,invoke,builtin,Sem.run_bind,Sem.run_pure,Result.andThen_ok,List.map_toArray,List.map_cons,List.map_nil,hs,hx,hr];exact hK _ _ (h v' w' h2 h3 h4)
theorem Ents.one(w:World)(B:Nat)(s p:Int)(t:TypeId)(hB:B=w.heap.size):Ents (w.alloc (.cells #[.int .i64 s,.int .i64 p] t)) (some ⟨B,0,none⟩) 1 [⟨s,p⟩] :=
 hB▸⟨rfl,fun _=>⟨w.heap.size,0,rfl,by simp,fun k hk=>by
  match k,hk with
  | 0,_=>exact⟨by simp,by simp⟩⟩⟩
theorem Az(W:World)(base B:Nat)(hB:B=W.heap.size)(hb:base<=W.heap.size):(W.alloc (.cells #[] 88)).ownsRow base 88 2 (.slice (some ⟨B,0,none⟩) 0 0) 0 (BF []):=by
 subst hB;exact World.ownsRow_lit W #[] 0 hb (Nat.zero_le _) rfl
end Go.Proofs.Ytbeohbhhmcjokaa
