import Derived.Test.YtgghhedkephohaaZEnRow
import Derived.Test.YtgghhedkephohaaZInBuild
set_option linter.all false
set_option maxRecDepth 100000
set_option maxHeartbeats 8000000
namespace Go.Proofs.Ytgghhedkephohaa
open Go.RowKit
open M
structure CtAt(w:World)(b o:Nat)(q:Ct):Prop where
 c0:w.cell? ⟨b,o,none⟩=some (.int .i64 q.p)
 c1:w.cell? ⟨b,o+1,none⟩=some (.int .i64 q.s)
 c2:w.cell? ⟨b,o+2,none⟩=some (.int .i64 q.t)
def Conts(w:World)(A:Option Addr)(n:Nat)(xs:List Ct):Prop :=
 xs.length=n/\(0<n->∃ b off,A=some ⟨b,off,none⟩/\b<w.heap.size/\∀ k,k<n->CtAt w b (off+k*3) (xs.getD k cz))
theorem CtAt.of{w w':World}{b o:Nat}{q:Ct}(h:CtAt w b o q)(e:w'.heap[b]?=w.heap[b]?):CtAt w' b o q :=
 ⟨(World.cell?_of_block (a:=⟨b,o,none⟩) e).trans h.c0,(World.cell?_of_block (a:=⟨b,o+1,none⟩) e).trans h.c1,(World.cell?_of_block (a:=⟨b,o+2,none⟩) e).trans h.c2⟩
theorem Conts.step{w w':World}{A:Option Addr}{n:Nat}{xs:List Ct}(h:Conts w A n xs)(B:Below w.heap.size w w'):Conts w' A n xs :=
 ⟨h.1,fun hn=>by
  obtain⟨b,off,e,hb,hc⟩:=h.2 hn;exact⟨b,off,e,Nat.lt_of_lt_of_le hb B.size,fun k hk=>(hc k hk).of (B.block b hb)⟩⟩
theorem Conts.alloc{w:World}{A:Option Addr}{n:Nat}{xs:List Ct}(h:Conts w A n xs)(o:Obj):Conts (w.alloc o) A n xs:=h.step (Ad (Ac w) o)
theorem Conts.drew{w:World}{A:Option Addr}{n:Nat}{xs:List Ct}(h:Conts w A n xs):Conts w.drew A n xs:=h.step (Ac w).drew
theorem Conts.nil(w:World)(A:Option Addr):Conts w A 0 []:=⟨rfl,fun h=>absurd h (by omega)⟩
theorem Conts.kept{w w':World}{A:Option Addr}{n r:Nat}{xs:List Ct}(h:Conts w A n xs)(K:Kept r w w')(hA:0<n->∀ k off,A=some ⟨k,off,none⟩->k≠r):Conts w' A n xs :=
 ⟨h.1,fun hn=>by
  obtain⟨b,off,e,hb,hc⟩:=h.2 hn;exact⟨b,off,e,Nat.lt_of_lt_of_le hb K.size,fun k hk=>(hc k hk).of (K.block b hb (hA hn b off e))⟩⟩
theorem Conts.grown{W w':World}{A:Option Addr}{n:Nat}{xs:List Ct}{row:Option Nat}(h:Conts W A n xs)(hg:W.grownBy w' row)(hr:0<n->∀ k off,A=some ⟨k,off,none⟩->row≠some k):Conts w' A n xs :=
 ⟨h.1,fun hn=>by
  obtain⟨b,off,e,hb,hc⟩:=h.2 hn;exact⟨b,off,e,Nat.lt_of_lt_of_le hb hg.size,fun k hk=>(hc k hk).of (hg.block b hb (fun e'=>hr hn b off e e'.symm))⟩⟩
theorem Conts.lt{w:World}{A:Option Addr}{n:Nat}{xs:List Ct}(h:Conts w A n xs)(hn:0<n):∀ k off,A=some ⟨k,off,none⟩->k<w.heap.size:=fun k off e=>by
 obtain⟨b,off',e',hb,_⟩:=h.2 hn;rw[e'] at e;cases e
 exact hb
theorem Conts.take{w:World}{A:Option Addr}{n:Nat}{xs:List Ct}(h:Conts w A n xs){j:Nat}(hj:j<=n):Conts w A j (xs.take j) :=
 ⟨by rw[List.length_take,h.1]; omega,fun h0=>by
  obtain⟨b,off,e,hb,hc⟩:=h.2 (by omega);refine⟨b,off,e,hb,fun k hk=>?_⟩;have t:=hc k (by omega);have e2:(xs.take j).getD k cz=xs.getD k cz:=by simp[List.getD_eq_getElem?_getD,List.getElem?_take,hk]
  rw[e2];exact t⟩
def AS:List Ct->List Value
 | []=>[]
 | q::xs=>.int .i64 q.p::.int .i64 q.s::.int .i64 q.t::AS xs
def EA(q:Ct):Nat->Value
 | 0=>.int .i64 q.p
 | 1=>.int .i64 q.s
 | _=>.int .i64 q.t
theorem Dn:∀(xs:List Ct) (k r:Nat),k<xs.length->r<3->(AS xs)[k*3+r]?=some (EA (xs.getD k cz) r)
 | [],k,r,h,_=>absurd h (by simp)
 | q::xs,0,r,_,hr=>by
  match r,hr with
  | 0,_=>rfl
  | 1,_=>rfl
  | 2,_=>rfl
 | q::xs,k+1,r,h,hr=>by
  have t:=Dn xs k r (by simpa using h) hr;have e:(k+1)*3+r=(k*3+r)+1+1+1:=by omega
  rw[e];simp only[AS,List.getElem?_cons_succ];rw[t];rfl
theorem AZ:∀ xs:List Ct,(AS xs).length=xs.length*3
 | []=>rfl
 | q::xs=>by simp only[AS,List.length_cons,AZ xs]; omega
theorem Co:∀ qs xs:List Ct,AS (qs++xs)=AS qs++AS xs
 | [],_=>rfl
 | q::qs,xs=>by simp only[List.cons_append,AS,Co qs xs]
theorem DD:∀ xs:List Ct,∀ u∈AS xs,u.oneCell'=true
 | [],u,h=>by cases h
 | q::xs,u,h=>by
  simp only[AS,List.mem_cons] at h;rcases h with rfl | rfl | rfl | h
  . rfl
  . rfl
  . rfl
  . exact DD xs u h
theorem CtAt.comp{w:World}{b o:Nat}{q:Ct}(h:CtAt w b o q){r:Nat}(hr:r<3):w.cell? ⟨b,o+r,none⟩=some (EA q r):=by
 match r,hr with
 | 0,_=>exact h.c0
 | 1,_=>exact h.c1
 | 2,_=>exact h.c2
theorem Conts.news{w:World}{b off m:Nat}{xs:List Ct}(I:Conts w (some ⟨b,off,Option.none⟩) m xs):∀ j u,(AS xs)[j]?=some u->w.cell? ((⟨b,off,Option.none⟩:Addr).add j)=some u:=by
 intro j u hj;have hl:j<xs.length*3:=by
  rw[<- AZ];rcases Nat.lt_or_ge j (AS xs).length with h | h
  . exact h
  . rw[List.getElem?_eq_none h] at hj; cases hj
 obtain⟨b',off',e,_,hc⟩:=I.2 (by have:=I.1; omega);cases e
 have ej:j=(j / 3)*3+j % 3:=by omega
 have hk:j / 3<xs.length:=by omega
 rw[ej,Dn xs _ _ hk (by omega)] at hj;cases hj
 rw[Addr.add_lit];have t:=(hc (j / 3) (by have:=I.1; omega)).comp (r:=j % 3) (by omega);rw[Nat.add_assoc,<- ej] at t;exact t
theorem Conts.of_own{w:World}{base:Nat}{e:TypeId}{v:Value}{n:Nat}{xs:List Ct}(h:w.ownsRow base e 3 v n (AS xs)):∃ A cap,v=.slice A n cap/\Conts w A n xs/\(∀ g off,A=some ⟨g,off,none⟩->base<=g):=by
 have hl:xs.length=n:=by have:=h.1; rw[AZ] at this; omega
 have h0:=h;rcases h0.2 with⟨rfl,rfl⟩ | ⟨g,cap,cur,rfl,hbg,hh,_⟩
 . exact⟨none,0,rfl,⟨hl,fun hn=>by omega⟩,fun g off e=>by cases e⟩
 . refine⟨_,_,rfl,⟨hl,fun _=>⟨g,0,rfl,(h.lt g rfl).2,fun k hk=>?_⟩⟩,fun g' off e=>by cases e; exact hbg⟩;have hc:∀ r,r<3->w.cell? ⟨g,0+k*3+r,none⟩=some (EA (xs.getD k cz) r):=fun r hr=>by
    rw[Nat.zero_add,h.cellAt (k*3+r) (by omega),Dn xs _ _ (by omega) hr]
   exact⟨hc 0 (by omega),hc 1 (by omega),hc 2 (by omega)⟩
theorem DF:(Try.prog.info? 66).map (·.size)=some 3:=by kernel_rfl
theorem BX:(Try.prog.info? 66).map (fun i=>(i.zero,i.size,i.bytes))=some (some (.agg #[.int .i64 0,.int .i64 0,.int .i64 0]),3,24):=by kernel_rfl
theorem Cp(w:World)(base:Nat)(ty:TypeId)(v:Value)(n:Nat)(xs:List Value)(hown:w.ownsRow base 66 3 v n xs)(c:Nat) :
 (Builtin.append_ #[62,62] ty #[v,.slice none 0 c]).run Try.prog w=.ok v w:=by
 obtain⟨i0,hi,hz0,hz1,hz2⟩:=info_parts BX;rcases hown.2 with⟨rfl,rfl⟩ | ⟨g,cap,cur,rfl,_,_,hnc,_⟩
 . simp[Builtin.append_,run_underlying Try.underlying62,sizeOf,typeInfo,hi,Builtin.lenOf,Builtin.firstCells]
 . simp[Builtin.append_,run_underlying Try.underlying62,sizeOf,typeInfo,hi,Builtin.lenOf,Builtin.firstCells,hnc,storeCells]
theorem BZ(w:World)(base:Nat)(ty:TypeId)(v:Value)(n:Nat)(qs:List Ct)(hown:w.ownsRow base 66 3 v n (AS qs))(A:Option Addr)(m c:Nat)(xs:List Ct)(I:Conts w A m xs)
 (hn:n+m<=10000000) (hb:base<=w.heap.size) :
 ∃ v' w',(Builtin.append_ #[62,62] ty #[v,.slice A m c]).run Try.prog w=.ok v' w'/\w'.ownsRow base 66 3 v' (n+m) (AS (qs++xs))/\w.grownBy w' v.ownBlock/\(v'.ownBlock=v.ownBlock\/v'.ownBlock=some w.heap.size):=by
 obtain⟨i0,hi,hz0,hz1,hz2⟩:=info_parts BX;by_cases h:∃ b off,A=some ⟨b,off,Option.none⟩
 . obtain⟨b,off,rfl⟩:=h;obtain⟨v',w',hr,h2,h3,_,h5⟩:=run_append_own_at (P:=Try.prog) w base 62 ty 66 i0 (.agg #[.int .i64 0,.int .i64 0,.int .i64 0]) 3 24 Try.underlying62 hi hz0 hz1 hz2 rfl (by decide) v n _ hown ⟨b,off,Option.none⟩ m c (AS xs) (by rw[AZ,I.1]) I.news (DD _) (by unfold maxLen; omega) (by omega) hb;exact⟨v',w',hr,by rw[Co]; exact h2,h3,h5⟩
 . have hm:m=0:=by
    rcases Nat.eq_zero_or_pos m with h0 | h0
    . exact h0
    . obtain⟨b,off,e,_⟩:=I.2 h0;exact(h ⟨b,off,e⟩).elim
   subst hm;have hy:xs=[]:=List.eq_nil_of_length_eq_zero I.1;subst hy;cases A with
   | none=>exact⟨v,w,Cp w base ty v n _ hown c,by simpa using hown,World.grownBy.refl w _,.inl rfl⟩
   | some ad =>
    obtain⟨v',w',hr,h2,h3,_,h5⟩:=run_append_own_at (P:=Try.prog) w base 62 ty 66 i0 (.agg #[.int .i64 0,.int .i64 0,.int .i64 0]) 3 24 Try.underlying62 hi hz0 hz1 hz2 rfl (by decide) v n _ hown ad 0 c [] rfl (fun j u hj=>by simp at hj) (fun u hu=>by simp at hu) (by unfold maxLen; omega) (by omega) hb;exact⟨v',w',hr,by simpa using h2,h3,h5⟩
theorem Conts.one(w:World)(B:Nat)(p s t0:Int)(t:TypeId)(hB:B=w.heap.size):Conts (w.alloc (.cells #[.int .i64 p,.int .i64 s,.int .i64 t0] t)) (some ⟨B,0,none⟩) 1 [⟨p,s,t0⟩] :=
 hB▸⟨rfl,fun _=>⟨w.heap.size,0,rfl,by simp,fun k hk=>by
  match k,hk with
  | 0,_=>exact⟨by simp,by simp,by simp⟩⟩⟩
end Go.Proofs.Ytgghhedkephohaa
