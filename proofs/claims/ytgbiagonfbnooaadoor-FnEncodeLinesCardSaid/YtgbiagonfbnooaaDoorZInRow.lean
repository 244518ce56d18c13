import Derived.Test.YtgbiagonfbnooaaDoorZCelS
import Derived.Great.BuildSlice
import Derived.Laws.StructEq
set_option linter.all false
set_option maxRecDepth 100000
set_option maxHeartbeats 8000000
open Go.Lib
namespace Go.Proofs.YtgbiagonfbnooaaDoor
namespace M
def LW:List Pt->Int->Bool
 | [],_=>false
 | q::_,c=>decide (q.c=c)
theorem JQ{c:Int}{cs:List Int}(h:LW (AU cs) c=false):AU (c::cs)=⟨c,1⟩::AU cs:=by
 rw[AU];cases e:AU cs with
 | nil=>rfl
 | cons p ps=>rw[e] at h; simp[LW] at h; simp[h]
theorem JR{c m:Int}{cs:List Int}{ps:List Pt}(h:AU cs=⟨c,m⟩::ps):AU (c::cs)=⟨c,m+1⟩::ps:=by
 rw[AU,h]; simp
theorem Hh{α:Type}(z:α){xs:List α}{k:Nat}(h:k<xs.length):xs.drop k=xs.getD k z::xs.drop (k+1):=by
 rw[List.drop_eq_getElem_cons h,List.getD_eq_getElem?_getD,List.getElem?_eq_getElem h];rfl
end M
end Go.Proofs.YtgbiagonfbnooaaDoor
namespace Go.Proofs.YtgbiagonfbnooaaDoor
open Go.RowKit
open M
structure InAt(w:World)(b o:Nat)(q:In):Prop where
 c0:w.cell? ⟨b,o,none⟩=some (.int .i64 q.s)
 c1:w.cell? ⟨b,o+1,none⟩=some (.int .i64 q.p)
 c2:w.cell? ⟨b,o+2,none⟩=some (.bool q.z)
def Inputs(w:World)(A:Option Addr)(n:Nat)(xs:List In):Prop :=
 xs.length=n/\(0<n->∃ b off,A=some ⟨b,off,none⟩/\b<w.heap.size/\∀ k,k<n->InAt w b (off+k*3) (xs.getD k iz))
theorem InAt.of{w w':World}{b o:Nat}{q:In}(h:InAt w b o q)(e:w'.heap[b]?=w.heap[b]?):InAt w' b o q :=
 ⟨(World.cell?_of_block (a:=⟨b,o,none⟩) e).trans h.c0,(World.cell?_of_block (a:=⟨b,o+1,none⟩) e).trans h.c1,(World.cell?_of_block (a:=⟨b,o+2,none⟩) e).trans h.c2⟩
theorem Inputs.step{w w':World}{A:Option Addr}{n:Nat}{xs:List In}(h:Inputs w A n xs)(B:Below w.heap.size w w'):Inputs w' A n xs :=
 ⟨h.1,fun hn=>by
  obtain⟨b,off,e,hb,hc⟩:=h.2 hn;exact⟨b,off,e,Nat.lt_of_lt_of_le hb B.size,fun k hk=>(hc k hk).of (B.block b hb)⟩⟩
theorem Inputs.alloc{w:World}{A:Option Addr}{n:Nat}{xs:List In}(h:Inputs w A n xs)(o:Obj):Inputs (w.alloc o) A n xs:=h.step (Ab (Ac w) o)
theorem Inputs.drew{w:World}{A:Option Addr}{n:Nat}{xs:List In}(h:Inputs w A n xs):Inputs w.drew A n xs:=h.step (Ac w).drew
theorem Inputs.nil(w:World)(A:Option Addr):Inputs w A 0 []:=⟨rfl,fun h=>absurd h (by omega)⟩
theorem Inputs.kept{w w':World}{A:Option Addr}{n r:Nat}{xs:List In}(h:Inputs w A n xs)(K:Kept r w w')(hA:0<n->∀ k off,A=some ⟨k,off,none⟩->k≠r):Inputs w' A n xs :=
 ⟨h.1,fun hn=>by
  obtain⟨b,off,e,hb,hc⟩:=h.2 hn;exact⟨b,off,e,Nat.lt_of_lt_of_le hb K.size,fun k hk=>(hc k hk).of (K.block b hb (hA hn b off e))⟩⟩
theorem Inputs.grown{W w':World}{A:Option Addr}{n:Nat}{xs:List In}{row:Option Nat}(h:Inputs W A n xs)(hg:W.grownBy w' row)(hr:0<n->∀ k off,A=some ⟨k,off,none⟩->row≠some k):Inputs w' A n xs :=
 ⟨h.1,fun hn=>by
  obtain⟨b,off,e,hb,hc⟩:=h.2 hn;exact⟨b,off,e,Nat.lt_of_lt_of_le hb hg.size,fun k hk=>(hc k hk).of (hg.block b hb (fun e'=>hr hn b off e e'.symm))⟩⟩
theorem Inputs.lt{w:World}{A:Option Addr}{n:Nat}{xs:List In}(h:Inputs w A n xs)(hn:0<n):∀ k off,A=some ⟨k,off,none⟩->k<w.heap.size:=fun k off e=>by
 obtain⟨b,off',e',hb,_⟩:=h.2 hn;rw[e'] at e;cases e
 exact hb
theorem Inputs.take{w:World}{A:Option Addr}{n:Nat}{xs:List In}(h:Inputs w A n xs){j:Nat}(hj:j<=n):Inputs w A j (xs.take j) :=
 ⟨by rw[List.length_take,h.1]; omega,fun h0=>by
  obtain⟨b,off,e,hb,hc⟩:=h.2 (by omega);refine⟨b,off,e,hb,fun k hk=>?_⟩;have t:=hc k (by omega);have e2:(xs.take j).getD k iz=xs.getD k iz:=by simp[List.getD_eq_getElem?_getD,hk]
  rw[e2];exact t⟩
def BM:List In->List Value
 | []=>[]
 | q::xs=>.int .i64 q.s::.int .i64 q.p::.bool q.z::BM xs
def Es(q:In):Nat->Value
 | 0=>.int .i64 q.s
 | 1=>.int .i64 q.p
 | _=>.bool q.z
theorem CQ:∀(xs:List In) (k r:Nat),k<xs.length->r<3->(BM xs)[k*3+r]?=some (Es (xs.getD k iz) r)
 | [],k,r,h,_=>absurd h (by simp)
 | q::xs,0,r,_,hr=>by
  match r,hr with
  | 0,_=>rfl
  | 1,_=>rfl
  | 2,_=>rfl
 | q::xs,k+1,r,h,hr=>by
  have t:=CQ xs k r (by simpa using h) hr;have e:(k+1)*3+r=(k*3+r)+1+1+1:=by omega
  rw[e];simp only[BM,List.getElem?_cons_succ];rw[t];rfl
theorem BX:∀ xs:List In,(BM xs).length=xs.length*3
 | []=>rfl
 | q::xs=>by simp only[BM,List.length_cons,BX xs]; omega
theorem Dx:∀ qs xs:List In,BM (qs++xs)=BM qs++BM xs
 | [],_=>rfl
 | q::qs,xs=>by simp only[List.cons_append,BM,Dx qs xs]
theorem GA:∀ xs:List In,∀ u∈BM xs,u.oneCell'=true
 | [],u,h=>by cases h
 | q::xs,u,h=>by
  simp only[BM,List.mem_cons] at h;rcases h with rfl | rfl | rfl | h
  . rfl
  . rfl
  . rfl
  . exact GA xs u h
theorem InAt.comp{w:World}{b o:Nat}{q:In}(h:InAt w b o q){r:Nat}(hr:r<3):w.cell? ⟨b,o+r,none⟩=some (Es q r):=by
 match r,hr with
 | 0,_=>exact h.c0
 | 1,_=>exact h.c1
 | 2,_=>exact h.c2
theorem Inputs.news{w:World}{b off m:Nat}{xs:List In}(I:Inputs w (some ⟨b,off,Option.none⟩) m xs):∀ j u,(BM xs)[j]?=some u->w.cell? ((⟨b,off,Option.none⟩:Addr).add j)=some u:=by
 intro j u hj;have hl:j<xs.length*3:=by
  rw[<- BX];rcases Nat.lt_or_ge j (BM xs).length with h | h
  . exact h
  . rw[List.getElem?_eq_none h] at hj; cases hj
 obtain⟨b',off',e,_,hc⟩:=I.2 (by have:=I.1; omega);cases e
 have ej:j=(j / 3)*3+j % 3:=by omega
 have hk:j / 3<xs.length:=by omega
 rw[ej,CQ xs _ _ hk (by omega)] at hj;cases hj
 rw[Addr.add_lit];have t:=(hc (j / 3) (by have:=I.1; omega)).comp (r:=j % 3) (by omega);rw[Nat.add_assoc,<- ej] at t;exact t
theorem Inputs.of_own{w:World}{base:Nat}{e:TypeId}{v:Value}{n:Nat}{xs:List In}(h:w.ownsRow base e 3 v n (BM xs)):∃ A cap,v=.slice A n cap/\Inputs w A n xs/\(∀ g off,A=some ⟨g,off,none⟩->base<=g):=by
 have hl:xs.length=n:=by have:=h.1; rw[BX] at this; omega
 have h0:=h;rcases h0.2 with⟨rfl,rfl⟩ | ⟨g,cap,cur,rfl,hbg,hh,_⟩
 . exact⟨none,0,rfl,⟨hl,fun hn=>by omega⟩,fun g off e=>by cases e⟩
 . refine⟨_,_,rfl,⟨hl,fun _=>⟨g,0,rfl,(h.lt g rfl).2,fun k hk=>?_⟩⟩,fun g' off e=>by cases e; exact hbg⟩;have hc:∀ r,r<3->w.cell? ⟨g,0+k*3+r,none⟩=some (Es (xs.getD k iz) r):=fun r hr=>by
    rw[Nat.zero_add,h.cellAt (k*3+r) (by omega),CQ xs _ _ (by omega) hr]
   exact⟨hc 0 (by omega),hc 1 (by omega),hc 2 (by omega)⟩
theorem Dj:(Tryd.prog.info? 89).map (·.size)=some 3:=by kernel_rfl
theorem Bl:(Tryd.prog.info? 89).map (fun i=>(i.zero,i.size,i.bytes))=some (some (Bw 0 0 false),3,24):=by kernel_rfl
theorem Dc(w:World)(base:Nat)(ty:TypeId)(v:Value)(n:Nat)(xs:List Value)(hown:w.ownsRow base 89 3 v n xs)(c:Nat) :
 (Builtin.append_ #[23,23] ty #[v,.slice none 0 c]).run Tryd.prog w=.ok v w:=by
 obtain⟨i0,hi,hz0,hz1,hz2⟩:=info_parts Bl;rcases hown.2 with⟨rfl,rfl⟩ | ⟨g,cap,cur,rfl,_,_,hnc,_⟩
 . simp[Builtin.append_,run_underlying Tryd.underlying23,sizeOf,typeInfo,hi,Builtin.lenOf,Builtin.firstCells]
 . simp[Builtin.append_,run_underlying Tryd.underlying23,sizeOf,typeInfo,hi,Builtin.lenOf,Builtin.firstCells,hnc,storeCells]
theorem A4(w:World)(base:Nat)(ty:TypeId)(v:Value)(n:Nat)(qs:List In)(hown:w.ownsRow base 89 3 v n (BM qs))(A:Option Addr)(m c:Nat)(xs:List In)(I:Inputs w A m xs)
 (hn:n+m<=10000000) (hb:base<=w.heap.size) :
 ∃ v' w',(Builtin.append_ #[23,23] ty #[v,.slice A m c]).run Tryd.prog w=.ok v' w'/\w'.ownsRow base 89 3 v' (n+m) (BM (qs++xs))/\w.grownBy w' v.ownBlock/\(v'.ownBlock=v.ownBlock\/v'.ownBlock=some w.heap.size):=by
 obtain⟨i0,hi,hz0,hz1,hz2⟩:=info_parts Bl;by_cases h:∃ b off,A=some ⟨b,off,Option.none⟩
 . obtain⟨b,off,rfl⟩:=h;obtain⟨v',w',hr,h2,h3,_,h5⟩:=run_append_own_at (P:=Tryd.prog) w base 23 ty 89 i0 (Bw 0 0 false) 3 24 Tryd.underlying23 hi hz0 hz1 hz2 rfl (by decide) v n _ hown ⟨b,off,Option.none⟩ m c (BM xs) (by rw[BX,I.1]) I.news (GA _) (by unfold maxLen; omega) (by omega) hb;exact⟨v',w',hr,by rw[Dx]; exact h2,h3,h5⟩
 . have hm:m=0:=by
    rcases Nat.eq_zero_or_pos m with h0 | h0
    . exact h0
    . obtain⟨b,off,e,_⟩:=I.2 h0;exact(h ⟨b,off,e⟩).elim
   subst hm;have hy:xs=[]:=List.eq_nil_of_length_eq_zero I.1;subst hy;cases A with
   | none=>exact⟨v,w,Dc w base ty v n _ hown c,by simpa using hown,World.grownBy.refl w _,.inl rfl⟩
   | some ad =>
    obtain⟨v',w',hr,h2,h3,_,h5⟩:=run_append_own_at (P:=Tryd.prog) w base 23 ty 89 i0 (Bw 0 0 false) 3 24 Tryd.underlying23 hi hz0 hz1 hz2 rfl (by decide) v n _ hown ad 0 c [] rfl (fun j u hj=>by simp at hj) (fun u hu=>by simp at hu) (by unfold maxLen; omega) (by omega) hb;exact⟨v',w',hr,by simpa using h2,h3,h5⟩
theorem Ck(w:World){ops:Array Oper}{rest:List Oper}{o:Oper}{a:Act}{Q:Exit->Act->World->Prop}(hgd:o.guard=Option.none)(s x:Operand)
 (ho:o.op=.call { callee:=.builtin .append,args:=#[s,x],argTypes:=#[23,23] }) (base:Nat) (v:Value) (n:Nat) (qs:List In) (hs:a.eval s=v) (hown:w.ownsRow base 89 3 v n (BM qs))
 (A:Option Addr) (m c:Nat) (xs:List In) (hx:a.eval x=.slice A m c) (I:Inputs w A m xs) (hn:n+m<=10000000) (hb:base<=w.heap.size)
 (h:∀ v' w',w'.ownsRow base 89 3 v' (n+m) (BM (qs++xs))->w.grownBy w' v.ownBlock->(v'.ownBlock=v.ownBlock\/v'.ownBlock=some w.heap.size)->wpList Tryd.prog ops Q rest (a.put o.dst v') w') :
 wpList Tryd.prog ops Q (o::rest) a w:=by
 refine wpList_plain hgd fun K hK=>?_;obtain⟨v',w',hr,h2,h3,h4⟩:=A4 w base o.type v n qs hown A m c xs I hn hb;unfold Oper.wp execOp;simp only[ho,resolve,invoke,builtin,Sem.run_bind,Sem.run_pure,Result.andThen_ok,List.map_toArray,List.map_cons,List.map_nil,hs,hx,hr];exact hK _ _ (h v' w' h2 h3 h4)
theorem Inputs.one(w:World)(B:Nat)(s p:Int)(z:Bool)(t:TypeId)(hB:B=w.heap.size):Inputs (w.alloc (.cells #[.int .i64 s,.int .i64 p,.bool z] t)) (some ⟨B,0,none⟩) 1 [⟨s,p,z⟩] :=
 hB▸⟨rfl,fun _=>⟨w.heap.size,0,rfl,by simp,fun k hk=>by
  match k,hk with
  | 0,_=>exact⟨by simp,by simp,by simp⟩⟩⟩
theorem BE(W:World)(base B:Nat)(hB:B=W.heap.size)(hb:base<=W.heap.size):(W.alloc (.cells #[] 89)).ownsRow base 89 3 (.slice (some ⟨B,0,none⟩) 0 0) 0 (BM []):=by
 subst hB;exact World.ownsRow_lit W #[] 0 hb (Nat.zero_le _) rfl
open Go.RowKit
open M
theorem Gc(w:World):(Instr.buildSlice 23 0 #[]).run Tryd.prog w=.ok (.slice (some ⟨w.heap.size,0,none⟩) 0 0) (w.alloc (.cells #[] 89)):=by
 obtain⟨i0,hi,hz0,hz1,hz2⟩:=info_parts Bl;simp[Instr.buildSlice,run_underlying Tryd.underlying23,sizeOf,typeInfo,hi,Instr.fill,newRow]
 first | rfl | kernel_rfl | simp[Array.range]
theorem AW{w:World}{o:Oper}{a:Act}{K:Act->World->Prop}{Q:Exit->Act->World->Prop}(hop:o.op=.buildSlice 23 0 #[])
 (h:∀(g:Nat) (w':World),Below w.heap.size w w'->w.heap.size<=g->w'.ownsRow g 89 3 (.slice (some ⟨g,0,none⟩) 0 0) 0 (BM [])->K (a.put o.dst (.slice (some ⟨g,0,none⟩) 0 0)) w'):o.wp Tryd.prog a w K Q:=by
 unfold Oper.wp execOp;simp only[hop,Sem.run_bind,List.map_toArray,List.map_nil,Gc,Result.andThen_ok];exact h _ _ (Ab (Ac w) _) (Nat.le_refl _) (BE w _ _ rfl (Nat.le_refl _))
theorem Bi{w:World}{o:Oper}{a:Act}{K:Act->World->Prop}{Q:Exit->Act->World->Prop}(x:Operand)(hop:o.op=.buildSlice 23 1 #[(0,x)])(s p:Int)(z:Bool)(hx:a.eval x=Bw s p z)
 (h:∀(g:Nat) (w':World),Below w.heap.size w w'->w.heap.size<=g->Inputs w' (some ⟨g,0,none⟩) 1 [⟨s,p,z⟩]->K (a.put o.dst (.slice (some ⟨g,0,none⟩) 1 1)) w'):o.wp Tryd.prog a w K Q:=by
 obtain⟨i0,hi,hz0,hz1,hz2⟩:=info_parts Bl;refine wp_buildSlice 23 89 1 _ hop #[.int .i64 s,.int .i64 p,.bool z] i0 (Bw 0 0 false) Tryd.underlying23 hi hz0 (by rw[hz1]; decide) (by rw[hz1]; decide) ?_ (h _ _ (Ab (Ac w) _) (Nat.le_refl _) (Inputs.one w _ s p z _ rfl));rw[hz1];simp only[List.map_toArray,List.map_cons,List.map_nil,hx]
 first | kernel_rfl | (simp[Instr.fill,Array.range,Value.cells]; done) | go_simp
theorem Ay{w:World}{o:Oper}{a:Act}{K:Act->World->Prop}{Q:Exit->Act->World->Prop}(s x:Operand)
 (ho:o.op=.call { callee:=.builtin .append,args:=#[s,x],argTypes:=#[23,23] }) (base:Nat) (v:Value) (n:Nat) (qs:List In) (hs:a.eval s=v) (hown:w.ownsRow base 89 3 v n (BM qs))
 (A:Option Addr) (m c:Nat) (xs:List In) (hx:a.eval x=.slice A m c) (I:Inputs w A m xs) (hn:n+m<=10000000) (hb:base<=w.heap.size)
 (h:∀ v' w',w'.ownsRow base 89 3 v' (n+m) (BM (qs++xs))->w.grownBy w' v.ownBlock->K (a.put o.dst v') w'):o.wp Tryd.prog a w K Q:=by
 obtain⟨v',w',hr,h2,h3,_⟩:=A4 w base o.type v n qs hown A m c xs I hn hb;unfold Oper.wp execOp;simp only[ho,resolve,invoke,builtin,Sem.run_bind,Sem.run_pure,Result.andThen_ok,List.map_toArray,List.map_cons,List.map_nil,hs,hx,hr];exact h v' w' h2 h3
theorem Cx{W:World}{base lo:Nat}{e:TypeId}{sz:Nat}{v:Value}{n:Nat}{xs:List Value}(h:W.ownsRow base e sz v n xs)(hb:lo<=base):W.ownsRow lo e sz v n xs :=
 ⟨h.1,h.2.imp id (fun⟨g,cap,cur,e1,hg,r⟩=>⟨g,cap,cur,e1,Nat.le_trans hb hg,r⟩)⟩
open Go.RowKit
open M
theorem Kept.mine{r:Nat}{w a:World}(h:Kept r w a)(o:Nat)(v:Value):Kept r w (a.setCell ⟨r,o,none⟩ v) :=
 ⟨h.os,h.tape,h.output,by simpa[World.setCell] using h.size,fun k hk hr=>(Below.heap_setCell a ⟨r,o,none⟩ v k hr).trans (h.block k hk hr)⟩
def Off(A:Option Addr)(n b:Nat):Prop:=0<n->∀ k off,A=some ⟨k,off,none⟩->k≠b
theorem Ints.kept{w w':World}{A:Option Addr}{n r:Nat}{xs:List Int}(h:Ints w A n xs)(K:Kept r w w')(hA:Off A n r):Ints w' A n xs :=
 ⟨h.1,fun hn=>by
  obtain⟨b,off,e,hb,hc⟩:=h.2 hn;exact⟨b,off,e,Nat.lt_of_lt_of_le hb K.size,fun k hk=>(K.cell (p:=⟨b,off+k,none⟩) hb (hA hn b off e)).trans (hc k hk)⟩⟩
theorem Ints.off{w:World}{A:Option Addr}{n:Nat}{xs:List Int}(h:Ints w A n xs){b:Nat}(hb:w.heap.size<=b):Off A n b:=fun hn k off e=>by
 obtain⟨b',off',e',hb',_⟩:=h.2 hn;rw[e'] at e;cases e
 omega
open Go.RowKit
open M
open Go.RowKit
open M
theorem Fq(s p:Int)(z:Bool)(w:World):Calls Tryd.prog 53 #[Bw s p z] w fun e w'=>e=.returned (Bw s p z)/\Below w.heap.size w w':=by
 go_enter Tryd.func53,Tryd.ntmps53;go_wp2;exact bodyPost_ret (v:=Bw s p z) (by simp[results,Tryd.results53,go_sem]) rfl ⟨rfl,(by repeat (first | exact Ac _ | refine Ab ?_ _ | refine Ao ?_ _ _ _ (by omega)))⟩
theorem EU(s p:Int)(z:Bool)(w:World):Calls Tryd.prog 54 #[Bw s p z,Bw s p z] w fun e w'=>e=.returned (.bool true)/\Below w.heap.size w w':=by
 cases z
 all_goals
  go_enter Tryd.func54,Tryd.ntmps54;go_wp2;go_ret;exact⟨rfl,Ab (Ab (Ac w) _) _⟩
open Go.RowKit
open M
theorem Gd(w:World)(m k:Nat):(w.drewN m).drewN k=w.drewN (m+k):=by simp[World.drewN,Nat.add_assoc]
def part(xs:List Int)(n k:Nat):List Int:=xs.take k++List.replicate (n-k) 0
theorem Hi(xs:List Int)(n:Nat):part xs n 0=List.replicate n 0:=by simp[part]
theorem Ip{xs:List Int}{n:Nat}(h:xs.length=n):part xs n n=xs:=by simp[part,<- h]
theorem Iq{xs:List Int}{n k:Nat}(h:xs.length=n)(hk:k<=n):(part xs n k).length=n:=by simp[part]; omega
theorem Hj{xs:List Int}{n k:Nat}(h:xs.length=n)(hk:k<n):(part xs n k).set k (xs.getD k 0)=part xs n (k+1):=by
 unfold part;rw[El (by omega),List.set_append_right _ _ (by simp; omega)];have e:k-(xs.take k).length=0:=by simp; omega
 rw[e,show n-k=(n-(k+1))+1 by omega,List.replicate_succ,List.set_cons_zero,List.append_assoc];rfl
def JS(w:World)(n:Nat)(xs:List Int)(i:Value)(W:World):Prop :=
 ∃ k:Nat,k<=n/\i=.int .i64 k/\W.ownsRow w.heap.size 3 1 (.slice (some ⟨w.heap.size,0,none⟩) n n) n ((part xs n k).map (Value.int .i64))/\Below w.heap.size w W
theorem Fs(A D:Option Addr)(n c d:Nat)(xs:List Int)(w:World)(I:Ints w A n xs)(J:Ints w D n xs)(hn:n<=1048576) :
 Calls Tryd.prog 28 #[.slice A n c,.slice D n d] w fun e w'=>e=.returned (.bool true)/\Below w.heap.size w w':=by
 have I:=hid I;have J:=hid J;go_enter Tryd.func28,Tryd.ntmps28;go_wp2
 go_loopw [5] (fun i W=>∃ k m:Nat,k<=n/\i=.int .i64 k/\w.drewN m=W) (fun i _=>n-(intOf i).toNat)
 case atStart=>exact⟨0,0,Nat.zero_le _,rfl,rfl⟩
 case round =>
  obtain⟨k,m,hk,rfl,rfl⟩:=hrel;by_cases hlt:k<n
  . obtain⟨b,off,hA,_,hc⟩:=I.out.2 (by omega);obtain⟨b2,off2,hD,_,hc2⟩:=J.out.2 (by omega);have ck:(w.drewN m).cell? ⟨b,off+k,none⟩=some (.int .i64 (xs.getD k 0)):=hc k hlt;have ck2:(w.drewN m).cell? ⟨b2,off2+k,none⟩=some (.int .i64 (xs.getD k 0)):=hc2 k hlt;clear hc hc2;subst hA hD;generalize xs.getD k 0=z at *;obtain⟨W,hW⟩:∃ W,w.drewN m=W:=⟨_,rfl⟩;rw[hW] at ck ck2 ⊢;have hW:=hid hW;go_wp2_with fail
    go_quiet (fail)
    go_wp2
    go_roundw
    case rel=>exact⟨k+1,m+_,by omega,by go_num,by rw[<- hW.out]; exact(Gd w m _).symm⟩
    case measure=>simp[intOf]; omega
  . go_wp2;go_ret;exact⟨rfl,Cg (Ac w) m⟩
open Go.RowKit
open M
end Go.Proofs.YtgbiagonfbnooaaDoor
