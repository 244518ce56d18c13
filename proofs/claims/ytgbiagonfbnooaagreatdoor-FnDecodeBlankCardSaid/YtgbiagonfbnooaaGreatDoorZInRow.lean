import Derived.Test.YtgbiagonfbnooaaGreatDoorZCelS
import Derived.Great.BuildSlice
set_option linter.all false
set_option maxRecDepth 100000
set_option maxHeartbeats 8000000
namespace Go.Proofs.YtgbiagonfbnooaaGreatDoor
open Go.RowKit
open M
structure InAt(w:World)(b o:Nat)(q:In):Prop where
 c0:w.cell? ⟨b,o,none⟩=some (.int .i64 q.s)
 c1:w.cell? ⟨b,o+1,none⟩=some (.int .i64 q.p)
 c2:w.cell? ⟨b,o+2,none⟩=some (.bool q.z)
def Inputs(w:World)(A:Option Addr)(n:Nat)(xs:List In):Prop :=
 xs.length=n/\(0<n->∃ b off,A=some ⟨b,off,none⟩/\b<w.heap.size/\∀ k,k<n->InAt w b (off+k*3) (xs.getD k iz))
theorem InAt.of{w w':World}{b o:Nat}{q:In}(h:InAt w b o q)(e:w'.heap[b]?=w.heap[b]?):InAt w' b o q :=
 ⟨(World.cell?_of_block (a:=⟨b,o,none⟩) e).trans h.c0,(World.cell?_of_block (a:=⟨b,o+1,none⟩) e).trans h.c1,(World.cell?_of_block (a:=⟨b,o+2,none⟩) e).trans h.c2⟩
theorem Inputs.step{w w':World}{A:Option Addr}{n:Nat}{xs:List In}(h:Inputs w A n xs)(B:Below w.heap.size w w'):Inputs w' A n xs :=
 ⟨h.1,fun hn=>by
  obtain⟨b,off,e,hb,hc⟩:=h.2 hn;exact⟨b,off,e,Nat.lt_of_lt_of_le hb B.size,fun k hk=>(hc k hk).of (B.block b hb)⟩⟩
theorem Inputs.alloc{w:World}{A:Option Addr}{n:Nat}{xs:List In}(h:Inputs w A n xs)(o:Obj):Inputs (w.alloc o) A n xs:=h.step (Ab (Ac w) o)
theorem Inputs.drew{w:World}{A:Option Addr}{n:Nat}{xs:List In}(h:Inputs w A n xs):Inputs w.drew A n xs:=h.step (Ac w).drew
theorem Inputs.nil(w:World)(A:Option Addr):Inputs w A 0 []:=⟨rfl,fun h=>absurd h (by omega)⟩
theorem Inputs.kept{w w':World}{A:Option Addr}{n r:Nat}{xs:List In}(h:Inputs w A n xs)(K:Kept r w w')(hA:0<n->∀ k off,A=some ⟨k,off,none⟩->k≠r):Inputs w' A n xs :=
 ⟨h.1,fun hn=>by
  obtain⟨b,off,e,hb,hc⟩:=h.2 hn;exact⟨b,off,e,Nat.lt_of_lt_of_le hb K.size,fun k hk=>(hc k hk).of (K.block b hb (hA hn b off e))⟩⟩
theorem Inputs.grown{W w':World}{A:Option Addr}{n:Nat}{xs:List In}{row:Option Nat}(h:Inputs W A n xs)(hg:W.grownBy w' row)(hr:0<n->∀ k off,A=some ⟨k,off,none⟩->row≠some k):Inputs w' A n xs :=
 ⟨h.1,fun hn=>by
  obtain⟨b,off,e,hb,hc⟩:=h.2 hn;exact⟨b,off,e,Nat.lt_of_lt_of_le hb hg.size,fun k hk=>(hc k hk).of (hg.block b hb (fun e'=>hr hn b off e e'.symm))⟩⟩
theorem Inputs.lt{w:World}{A:Option Addr}{n:Nat}{xs:List In}(h:Inputs w A n xs)(hn:0<n):∀ k off,A=some ⟨k,off,none⟩->k<w.heap.size:=fun k off e=>by
 obtain⟨b,off',e',hb,_⟩:=h.2 hn;rw[e'] at e;cases e
 exact hb
theorem Inputs.take{w:World}{A:Option Addr}{n:Nat}{xs:List In}(h:Inputs w A n xs){j:Nat}(hj:j<=n):Inputs w A j (xs.take j) :=
 ⟨by rw[List.length_take,h.1]; omega,fun h0=>by
  obtain⟨b,off,e,hb,hc⟩:=h.2 (by omega);refine⟨b,off,e,hb,fun k hk=>?_⟩;have t:=hc k (by omega);have e2:(xs.take j).getD k iz=xs.getD k iz:=by simp[List.getD_eq_getElem?_getD,hk]
  rw[e2];exact t⟩
def AZ:List In->List Value
 | []=>[]
 | q::xs=>.int .i64 q.s::.int .i64 q.p::.bool q.z::AZ xs
def DK(q:In):Nat->Value
 | 0=>.int .i64 q.s
 | 1=>.int .i64 q.p
 | _=>.bool q.z
theorem CU:∀(xs:List In) (k r:Nat),k<xs.length->r<3->(AZ xs)[k*3+r]?=some (DK (xs.getD k iz) r)
 | [],k,r,h,_=>absurd h (by simp)
 | q::xs,0,r,_,hr=>by
  match r,hr with
  | 0,_=>rfl
  | 1,_=>rfl
  | 2,_=>rfl
 | q::xs,k+1,r,h,hr=>by
  have t:=CU xs k r (by simpa using h) hr;have e:(k+1)*3+r=(k*3+r)+1+1+1:=by omega
  rw[e];simp only[AZ,List.getElem?_cons_succ];rw[t];rfl
theorem AV:∀ xs:List In,(AZ xs).length=xs.length*3
 | []=>rfl
 | q::xs=>by simp only[AZ,List.length_cons,AV xs]; omega
theorem Bf:∀ qs xs:List In,AZ (qs++xs)=AZ qs++AZ xs
 | [],_=>rfl
 | q::qs,xs=>by simp only[List.cons_append,AZ,Bf qs xs]
theorem FE:∀ xs:List In,∀ u∈AZ xs,u.oneCell'=true
 | [],u,h=>by cases h
 | q::xs,u,h=>by
  simp only[AZ,List.mem_cons] at h;rcases h with rfl | rfl | rfl | h
  . rfl
  . rfl
  . rfl
  . exact FE xs u h
theorem InAt.comp{w:World}{b o:Nat}{q:In}(h:InAt w b o q){r:Nat}(hr:r<3):w.cell? ⟨b,o+r,none⟩=some (DK q r):=by
 match r,hr with
 | 0,_=>exact h.c0
 | 1,_=>exact h.c1
 | 2,_=>exact h.c2
theorem Inputs.news{w:World}{b off m:Nat}{xs:List In}(I:Inputs w (some ⟨b,off,Option.none⟩) m xs):∀ j u,(AZ xs)[j]?=some u->w.cell? ((⟨b,off,Option.none⟩:Addr).add j)=some u:=by
 intro j u hj;have hl:j<xs.length*3:=by
  rw[<- AV];rcases Nat.lt_or_ge j (AZ xs).length with h | h
  . exact h
  . rw[List.getElem?_eq_none h] at hj; cases hj
 obtain⟨b',off',e,_,hc⟩:=I.2 (by have:=I.1; omega);cases e
 have ej:j=(j / 3)*3+j % 3:=by omega
 have hk:j / 3<xs.length:=by omega
 rw[ej,CU xs _ _ hk (by omega)] at hj;cases hj
 rw[Addr.add_lit];have t:=(hc (j / 3) (by have:=I.1; omega)).comp (r:=j % 3) (by omega);rw[Nat.add_assoc,<- ej] at t;exact t
theorem Inputs.of_own{w:World}{base:Nat}{e:TypeId}{v:Value}{n:Nat}{xs:List In}(h:w.ownsRow base e 3 v n (AZ xs)):∃ A cap,v=.slice A n cap/\Inputs w A n xs/\(∀ g off,A=some ⟨g,off,none⟩->base<=g):=by
 have hl:xs.length=n:=by have:=h.1; rw[AV] at this; omega
 have h0:=h;rcases h0.2 with⟨rfl,rfl⟩ | ⟨g,cap,cur,rfl,hbg,hh,_⟩
 . exact⟨none,0,rfl,⟨hl,fun hn=>by omega⟩,fun g off e=>by cases e⟩
 . refine⟨_,_,rfl,⟨hl,fun _=>⟨g,0,rfl,(h.lt g rfl).2,fun k hk=>?_⟩⟩,fun g' off e=>by cases e; exact hbg⟩;have hc:∀ r,r<3->w.cell? ⟨g,0+k*3+r,none⟩=some (DK (xs.getD k iz) r):=fun r hr=>by
    rw[Nat.zero_add,h.cellAt (k*3+r) (by omega),CU xs _ _ (by omega) hr]
   exact⟨hc 0 (by omega),hc 1 (by omega),hc 2 (by omega)⟩
theorem D7:(Tryz.prog.info? 89).map (·.size)=some 3:=by kernel_rfl
theorem Dl:(Tryz.prog.info? 89).map (fun i=>(i.zero,i.size,i.bytes))=some (some (BK 0 0 false),3,24):=by kernel_rfl
theorem DU(w:World)(base:Nat)(ty:TypeId)(v:Value)(n:Nat)(xs:List Value)(hown:w.ownsRow base 89 3 v n xs)(c:Nat) :
 (Builtin.append_ #[23,23] ty #[v,.slice none 0 c]).run Tryz.prog w=.ok v w:=by
 obtain⟨i0,hi,hz0,hz1,hz2⟩:=info_parts Dl;rcases hown.2 with⟨rfl,rfl⟩ | ⟨g,cap,cur,rfl,_,_,hnc,_⟩
 . simp[Builtin.append_,run_underlying Tryz.underlying23,sizeOf,typeInfo,hi,Builtin.lenOf,Builtin.firstCells]
 . simp[Builtin.append_,run_underlying Tryz.underlying23,sizeOf,typeInfo,hi,Builtin.lenOf,Builtin.firstCells,hnc,storeCells]
theorem AX(w:World)(base:Nat)(ty:TypeId)(v:Value)(n:Nat)(qs:List In)(hown:w.ownsRow base 89 3 v n (AZ qs))(A:Option Addr)(m c:Nat)(xs:List In)(I:Inputs w A m xs)
 (hn:n+m<=10000000) (hb:base<=w.heap.size) :
 ∃ v' w',(Builtin.append_ #[23,23] ty #[v,.slice A m c]).run Tryz.prog w=.ok v' w'/\w'.ownsRow base 89 3 v' (n+m) (AZ (qs++xs))/\w.grownBy w' v.ownBlock/\(v'.ownBlock=v.ownBlock\/v'.ownBlock=some w.heap.size):=by
 obtain⟨i0,hi,hz0,hz1,hz2⟩:=info_parts Dl;by_cases h:∃ b off,A=some ⟨b,off,Option.none⟩
 . obtain⟨b,off,rfl⟩:=h;obtain⟨v',w',hr,h2,h3,_,h5⟩:=run_append_own_at (P:=Tryz.prog) w base 23 ty 89 i0 (BK 0 0 false) 3 24 Tryz.underlying23 hi hz0 hz1 hz2 rfl (by decide) v n _ hown ⟨b,off,Option.none⟩ m c (AZ xs) (by rw[AV,I.1]) I.news (FE _) (by unfold maxLen; omega) (by omega) hb;exact⟨v',w',hr,by rw[Bf]; exact h2,h3,h5⟩
 . have hm:m=0:=by
    rcases Nat.eq_zero_or_pos m with h0 | h0
    . exact h0
    . obtain⟨b,off,e,_⟩:=I.2 h0;exact(h ⟨b,off,e⟩).elim
   subst hm;have hy:xs=[]:=List.eq_nil_of_length_eq_zero I.1;subst hy;cases A with
   | none=>exact⟨v,w,DU w base ty v n _ hown c,by simpa using hown,World.grownBy.refl w _,.inl rfl⟩
   | some ad =>
    obtain⟨v',w',hr,h2,h3,_,h5⟩:=run_append_own_at (P:=Tryz.prog) w base 23 ty 89 i0 (BK 0 0 false) 3 24 Tryz.underlying23 hi hz0 hz1 hz2 rfl (by decide) v n _ hown ad 0 c [] rfl (fun j u hj=>by simp at hj) (fun u hu=>by simp at hu) (by unfold maxLen; omega) (by omega) hb;exact⟨v',w',hr,by simpa using h2,h3,h5⟩
theorem CS(w:World){ops:Array Oper}{rest:List Oper}{o:Oper}{a:Act}{Q:Exit->Act->World->Prop}(hgd:o.guard=Option.none)(s x:Operand)
 (ho:o.op=.call { callee:=.builtin .append,args:=#[s,x],argTypes:=#[23,23] }) (base:Nat) (v:Value) (n:Nat) (qs:List In) (hs:a.eval s=v) (hown:w.ownsRow base 89 3 v n (AZ qs))
 (A:Option Addr) (m c:Nat) (xs:List In) (hx:a.eval x=.slice A m c) (I:Inputs w A m xs) (hn:n+m<=10000000) (hb:base<=w.heap.size)
 (h:∀ v' w',w'.ownsRow base 89 3 v' (n+m) (AZ (qs++xs))->w.grownBy w' v.ownBlock->(v'.ownBlock=v.ownBlock\/v'.ownBlock=some w.heap.size)->wpList Tryz.prog ops Q rest (a.put o.dst v') w') :
 wpList Tryz.prog ops Q (o::rest) a w:=by
 refine wpList_plain hgd fun K hK=>?_;obtain⟨v',w',hr,h2,h3,h4⟩:=AX w base o.type v n qs hown A m c xs I hn hb;unfold Oper.wp execOp;simp only[ho,resolve,invoke,builtin,Sem.run_bind,Sem.run_pure,Result.andThen_ok,List.map_toArray,List.map_cons,List.map_nil,hs,hx,hr];exact hK _ _ (h v' w' h2 h3 h4)
theorem Inputs.one(w:World)(B:Nat)(s p:Int)(z:Bool)(t:TypeId)(hB:B=w.heap.size):Inputs (w.alloc (.cells #[.int .i64 s,.int .i64 p,.bool z] t)) (some ⟨B,0,none⟩) 1 [⟨s,p,z⟩] :=
 hB▸⟨rfl,fun _=>⟨w.heap.size,0,rfl,by simp,fun k hk=>by
  match k,hk with
  | 0,_=>exact⟨by simp,by simp,by simp⟩⟩⟩
theorem Bl(W:World)(base B:Nat)(hB:B=W.heap.size)(hb:base<=W.heap.size):(W.alloc (.cells #[] 89)).ownsRow base 89 3 (.slice (some ⟨B,0,none⟩) 0 0) 0 (AZ []):=by
 subst hB;exact World.ownsRow_lit W #[] 0 hb (Nat.zero_le _) rfl
open Go.RowKit
open M
theorem Ht(w:World):(Instr.buildSlice 23 0 #[]).run Tryz.prog w=.ok (.slice (some ⟨w.heap.size,0,none⟩) 0 0) (w.alloc (.cells #[] 89)):=by
 obtain⟨i0,hi,hz0,hz1,hz2⟩:=info_parts Dl;simp[Instr.buildSlice,run_underlying Tryz.underlying23,sizeOf,typeInfo,hi,Instr.fill,newRow]
 first | rfl | kernel_rfl | simp[Array.range]
theorem Bc{w:World}{o:Oper}{a:Act}{K:Act->World->Prop}{Q:Exit->Act->World->Prop}(hop:o.op=.buildSlice 23 0 #[])
 (h:∀(g:Nat) (w':World),Below w.heap.size w w'->w.heap.size<=g->w'.ownsRow g 89 3 (.slice (some ⟨g,0,none⟩) 0 0) 0 (AZ [])->K (a.put o.dst (.slice (some ⟨g,0,none⟩) 0 0)) w'):o.wp Tryz.prog a w K Q:=by
 unfold Oper.wp execOp;simp only[hop,Sem.run_bind,List.map_toArray,List.map_nil,Ht,Result.andThen_ok];exact h _ _ (Ab (Ac w) _) (Nat.le_refl _) (Bl w _ _ rfl (Nat.le_refl _))
theorem BJ{w:World}{o:Oper}{a:Act}{K:Act->World->Prop}{Q:Exit->Act->World->Prop}(x:Operand)(hop:o.op=.buildSlice 23 1 #[(0,x)])(s p:Int)(z:Bool)(hx:a.eval x=BK s p z)
 (h:∀(g:Nat) (w':World),Below w.heap.size w w'->w.heap.size<=g->Inputs w' (some ⟨g,0,none⟩) 1 [⟨s,p,z⟩]->K (a.put o.dst (.slice (some ⟨g,0,none⟩) 1 1)) w'):o.wp Tryz.prog a w K Q:=by
 obtain⟨i0,hi,hz0,hz1,hz2⟩:=info_parts Dl;refine wp_buildSlice 23 89 1 _ hop #[.int .i64 s,.int .i64 p,.bool z] i0 (BK 0 0 false) Tryz.underlying23 hi hz0 (by rw[hz1]; decide) (by rw[hz1]; decide) ?_ (h _ _ (Ab (Ac w) _) (Nat.le_refl _) (Inputs.one w _ s p z _ rfl));rw[hz1];simp only[List.map_toArray,List.map_cons,List.map_nil,hx]
 first | kernel_rfl | (simp[Instr.fill,Array.range,Value.cells]; done) | go_simp
theorem AA{w:World}{o:Oper}{a:Act}{K:Act->World->Prop}{Q:Exit->Act->World->Prop}(s x:Operand)
 (ho:o.op=.call { callee:=.builtin .append,args:=#[s,x],argTypes:=#[23,23] }) (base:Nat) (v:Value) (n:Nat) (qs:List In) (hs:a.eval s=v) (hown:w.ownsRow base 89 3 v n (AZ qs))
 (A:Option Addr) (m c:Nat) (xs:List In) (hx:a.eval x=.slice A m c) (I:Inputs w A m xs) (hn:n+m<=10000000) (hb:base<=w.heap.size)
 (h:∀ v' w',w'.ownsRow base 89 3 v' (n+m) (AZ (qs++xs))->w.grownBy w' v.ownBlock->K (a.put o.dst v') w'):o.wp Tryz.prog a w K Q:=by
 obtain⟨v',w',hr,h2,h3,_⟩:=AX w base o.type v n qs hown A m c xs I hn hb;unfold Oper.wp execOp;simp only[ho,resolve,invoke,builtin,Sem.run_bind,Sem.run_pure,Result.andThen_ok,List.map_toArray,List.map_cons,List.map_nil,hs,hx,hr];exact h v' w' h2 h3
theorem Ds{W:World}{base lo:Nat}{e:TypeId}{sz:Nat}{v:Value}{n:Nat}{xs:List Value}(h:W.ownsRow base e sz v n xs)(hb:lo<=base):W.ownsRow lo e sz v n xs :=
 ⟨h.1,h.2.imp id (fun⟨g,cap,cur,e1,hg,r⟩=>⟨g,cap,cur,e1,Nat.le_trans hb hg,r⟩)⟩
end Go.Proofs.YtgbiagonfbnooaaGreatDoor
namespace Go.Proofs.YtgbiagonfbnooaaGreatDoor
namespace M
def Hu(ps:Int)(z:Bool):Int:=if z then ps+1 else ps
def Co(t b i ps s0:Int)(q:In):Bool:=decide (t<=i)||decide (3<Hu ps q.z)||!Er b s0 q.s q.p q.z
def F8(t b:Int):List In->Int->Int->Int->Int
 | [],_,_,_=>-1
 | q::xs,i,ps,s0=>if Co t b i ps s0 q then i else F8 t b xs (i+1) (Hu ps q.z) q.s
def GW(t b:Int)(xs:List In):Int:=F8 t b xs 0 0 0
def Jm(i t x y:Int)(ws gs:List Bx)(fp fq fs fz b:Int)(xs:List In):Int:=if Cd i t x y ws gs fp fq fs fz b then GW t b xs else 0
theorem Bz{t b i ps s0:Int}{q:In}{xs:List In}(h:Co t b i ps s0 q=true):F8 t b (q::xs) i ps s0=i:=by simp[F8,h]
theorem E3{t b i ps s0:Int}{q:In}{xs:List In}(h:Co t b i ps s0 q=false):F8 t b (q::xs) i ps s0=F8 t b xs (i+1) (Hu ps q.z) q.s:=by simp[F8,h]
theorem La{t b i ps s0:Int}{q:In}(h:Co t b i ps s0 q=false):i<t/\Hu ps q.z<=3/\Er b s0 q.s q.p q.z=true:=by
 simp only[Co,Bool.or_eq_false_iff,decide_eq_false_iff_not,Bool.not_eq_false'] at h;exact⟨by omega,by omega,h.2⟩
theorem NP{t b i ps s0:Int}{q:In}(h:t<=i):Co t b i ps s0 q=true:=by simp[Co,h]
theorem NY{t b i ps s0:Int}{q:In}(h:3<Hu ps q.z):Co t b i ps s0 q=true:=by simp[Co,h]
theorem NQ{t b i ps s0:Int}{q:In}(h:Er b s0 q.s q.p q.z=false):Co t b i ps s0 q=true:=by simp[Co,h]
theorem Lb{t b i ps s0:Int}{q:In}(h1:i<t)(h2:Hu ps q.z<=3)(h3:Er b s0 q.s q.p q.z=true):Co t b i ps s0 q=false:=by
 have a1:¬ t<=i:=by omega
 have a2:¬ 3<Hu ps q.z:=by omega
 simp[Co,a1,a2,h3]
theorem FY{b s0 s p:Int}{z:Bool}(h:Er b s0 s p z=true):Bm s p z=true:=by
 simp only[Er,Bool.and_eq_true] at h;exact h.1.1.1
theorem Lc(t b:Int):∀(xs:List In) (i ps s0:Int),F8 t b xs i ps s0=-1\/(i<=F8 t b xs i ps s0/\F8 t b xs i ps s0<i+xs.length)
 | [],i,ps,s0=>.inl rfl
 | q::xs,i,ps,s0=>by
  cases h:Co t b i ps s0 q
  . rw[E3 h];rcases Lc t b xs (i+1) (Hu ps q.z) q.s with g | g
    . exact .inl g
    . right;simp only[List.length_cons];omega
  . rw[Bz h];right;simp only[List.length_cons];omega
theorem Iy(t b:Int):∀(xs:List In) (k:Nat) (i ps s0:Int),0<=i->F8 t b xs i ps s0=-1->F8 t b (xs.take k) i ps s0=-1
 | [],k,i,ps,s0,_,_=>by simp[F8]
 | q::xs,0,i,ps,s0,_,_=>rfl
 | q::xs,k+1,i,ps,s0,hi,h=>by
  cases g:Co t b i ps s0 q
  . rw[E3 g] at h;rw[List.take_succ_cons,E3 g];exact Iy t b xs k _ _ _ (by omega) h
  . rw[Bz g] at h;omega
theorem drop_at{xs:List In}{k:Nat}(h:k<xs.length):xs.drop k=xs.getD k iz::xs.drop (k+1):=by
 rw[List.drop_eq_getElem_cons h];simp[List.getD_eq_getElem?_getD,h]
end M
end Go.Proofs.YtgbiagonfbnooaaGreatDoor
