import Derived.Lib.Strings
import Derived.Lib.Slices
import Derived.Test.YtgbiagonfbnooaaGreatDoorZRepMath
import Derived.Deep.MidRow
import Derived.Test.YtgbiagonfbnooaaGreatDoorZRowS
import Derived.Laws.StructEq
set_option linter.all false
set_option maxRecDepth 100000
set_option maxHeartbeats 8000000
namespace Go.Proofs.YtgbiagonfbnooaaGreatDoor
open Go.RowKit
open M
abbrev tx(s:ByteArray):Tx:=s.data.toList
theorem BV(s:ByteArray):(tx s).length=s.size:=by simp[tx]
theorem OJ(s:ByteArray)(h:0<s.size):(tx s).headD 0=s[0]:=by
 have:0<(tx s).length:=by rw[BV]; exact h
 rw[List.headD_eq_head?_getD,List.head?_eq_getElem?,List.getElem?_eq_getElem this];rfl
abbrev str(l:Tx):ByteArray:=⟨l.toArray⟩
theorem Cz(l:Tx):tx (str l)=l:=rfl
theorem Nn(s:ByteArray):str (tx s)=s:=by cases s; simp[str,tx]
theorem Hs(s:ByteArray)(a b:Nat):s.extract a b=str (((tx s).take b).drop a):=by
 obtain⟨l⟩:=s;rw[show(⟨l⟩:ByteArray)=⟨l.toList.toArray⟩ by simp,ByteArray.extract_mk];simp[str,tx,List.drop_take]
end Go.Proofs.YtgbiagonfbnooaaGreatDoor
namespace Go.Proofs.YtgbiagonfbnooaaGreatDoor
namespace M
def Fg:List Pt->Int->Bool
 | [],_=>false
 | q::_,c=>decide (q.c=c)
def CB:List Pt->Nat->Option (List Int)
 | [],_=>some []
 | p::ps,n=>if decide (0<=p.c/\p.c<=9)&&decide (1<=p.m)&&decide (p.m<=60-n)&&!(Fg ps p.c) then (CB ps (n+p.m.toNat)).map (List.replicate p.m.toNat p.c++·) else none
theorem GK:∀(ps:List Pt) (n:Nat) (b:Option Int),Lo ps n b=if b=none\/(∀ c,b=some c->Fg ps c=false) then CB ps n else none
 | [],n,b=>by simp[Lo,CB,Fg]
 | p::ps,n,b=>by
  rw[Lo,CB,GK ps _ (some p.c)];cases b with
  | none =>
   cases hn:Fg ps p.c<;>simp[hn]
  | some c =>
   by_cases hc:p.c=c
   . subst hc;simp[Fg]
   . have h1:Fg (p::ps) c=false:=by simp[Fg,hc]
     have h2:¬ c=p.c:=fun e=>hc e.symm;cases hn:Fg ps p.c<;>simp[hn,h1,h2]
theorem KY(ps:List Pt):Lo ps 0 none=CB ps 0:=by rw[GK]; simp
theorem Mf{p:Pt}{ps:List Pt}{n:Nat}(h:(decide (0<=p.c/\p.c<=9)&&decide (1<=p.m)&&decide (p.m<=60-n)&&!(Fg ps p.c))=false):CB (p::ps) n=none:=by
 rw[CB,h]; simp
theorem K0{p:Pt}{ps:List Pt}{n:Nat}(h:(decide (0<=p.c/\p.c<=9)&&decide (1<=p.m)&&decide (p.m<=60-n)&&!(Fg ps p.c))=true):CB (p::ps) n=(CB ps (n+p.m.toNat)).map (List.replicate p.m.toNat p.c++·):=by
 rw[CB,h]; simp
theorem Mg{c:Int}{cs:List Int}(h:Fg (Ba cs) c=false):Ba (c::cs)=⟨c,1⟩::Ba cs:=by
 rw[Ba];cases e:Ba cs with
 | nil=>rfl
 | cons p ps=>rw[e] at h; simp[Fg] at h; simp[h]
theorem Mh{c m:Int}{cs:List Int}{ps:List Pt}(h:Ba cs=⟨c,m⟩::ps):Ba (c::cs)=⟨c,m+1⟩::ps:=by
 rw[Ba,h]; simp
theorem Jf{α:Type}(z:α){xs:List α}{k:Nat}(h:k<xs.length):xs.drop k=xs.getD k z::xs.drop (k+1):=by
 rw[List.drop_eq_getElem_cons h,List.getD_eq_getElem?_getD,List.getElem?_eq_getElem h];rfl
end M
end Go.Proofs.YtgbiagonfbnooaaGreatDoor
namespace Go.Proofs.YtgbiagonfbnooaaGreatDoor
open Go.RowKit
theorem CellsAt.range{W:World}{b:Nat}{vs:List Value}(h:CellsAt W b vs):W.rangeAt b 0 vs:=fun j v hj=>by rw[Nat.zero_add]; exact h.cell j v hj
theorem CellsAt.there{W:World}{b:Nat}{vs:List Value}(h:CellsAt W b vs){n:Nat}(hn:n<=vs.length):W.there b 0 n:=fun j hj=>by
 rw[Nat.zero_add];exact⟨by rw[h.cell j _ (List.getElem?_eq_getElem (by omega))]; rfl,h.fr j⟩
theorem Gb{b:Nat}{W A:World}(h:Kept b W A)(o:Nat)(v:Value):Kept b W (A.setCell ⟨b,o,none⟩ v):=h.trans (Kept.step A b v o 0)
theorem Cq{b:Nat}{W:World}:∀(vs:List Value) (o:Nat) {A:World},Kept b W A->Kept b W (A.setCells b o vs)
 | [],_,_,h=>h
 | v::vs,o,_,h=>Cq vs (o+1) (Gb h o v)
theorem CellsAt.all{W:World}{b:Nat}{us:List Value}(h:CellsAt W b us)(vs:List Value)(hl:vs.length<=us.length):CellsAt (W.setCells b 0 vs) b vs :=
 ⟨fun j v hj=>by have:=World.rangeAt_setCells_same W b 0 vs (h.there hl) j v hj; rwa [Nat.zero_add] at this,fun j=>by rw[World.frozen?_setCells]; exact h.fr j,Nat.lt_of_lt_of_le h.lt (Cq vs 0 (Kept.refl b W)).size⟩
theorem Bj{w a:World}(h:Below w.heap.size w a){b:Nat}(hb:w.heap.size<=b)(o:Nat)(vs:List Value):Below w.heap.size w (a.setCells b o vs) :=
 h.trans ((Cq vs o (Kept.refl b a)).below h.size hb)
theorem Ag{P:Program}{ops:Array Oper}{rest:List Oper}{o:Oper}{a:Act}{w:World}{Q:Exit->Act->World->Prop}(hgd:o.guard=none)(ty:TypeId)(x:Operand)(ho:o.op=.load ty x)
 (b:Nat) (hx:a.eval x=.pointer (some ⟨b,0,none⟩)) (vs:List Value) (L:CellsAt w b vs) {d:TypeDesc} (hu:P.underlying ty=some d) (hd:d.isRow=true) (hi:(P.info? ty).map (·.size)=some vs.length)
 (h:wpList P ops Q rest (a.put o.dst (.agg vs.toArray)) w):wpList P ops Q (o::rest) a w :=
 wpList_load_mid hgd ty x ho b 0 hx vs d L.range hu hd hi h
theorem Av{P:Program}{ops:Array Oper}{rest:List Oper}{o:Oper}{a:Act}{w:World}{Q:Exit->Act->World->Prop}(hgd:o.guard=none)(ty:TypeId)(x y:Operand)(ho:o.op=.store ty x y)
 (b:Nat) (hx:a.eval x=.pointer (some ⟨b,0,none⟩)) (vs:List Value) (hy:a.eval y=.agg vs.toArray) (us:List Value) (D:CellsAt w b us) (hl:vs.length<=us.length) (hi:(P.info? ty).map (·.size)=some vs.length) (h1:vs.all (·.oneCell')=true)
 (h:wpList P ops Q rest (a.put o.dst undef) (w.setCells b 0 vs)):wpList P ops Q (o::rest) a w :=
 wpList_store_mid hgd ty x y ho b 0 vs.toArray hx hy (by simpa using D.there hl) (by simpa using hi) (by rw[List.all_toArray]; exact h1) (by simpa using h)
theorem Ai{P:Program}{fn:Func}{p:Tmp}{ty:TypeId}{tmps:Array Value}{w:World}(h:fn.results=#[.cell p ty])(b:Nat)(hp:tmps[p]?.getD undef=.pointer (some ⟨b,0,none⟩))(vs:List Value)(L:CellsAt w b vs){d:TypeDesc}
 (hu:P.underlying ty=some d) (hd:d.isRow=true) (hi:(P.info? ty).map (·.size)=some vs.length):(results fn tmps).run P w=.ok (.agg vs.toArray) w:=by
 simp[results,h,hp,asAddr,run_loadVar_mid w b 0 ty vs d L.range hu hd hi]
theorem Ay{P:Program}{fn:Func}{p q:Tmp}{ty:TypeId}{tmps:Array Value}{w:World}(h:fn.results=#[.cell p ty,.tmp q])(b:Nat)(hp:tmps[p]?.getD undef=.pointer (some ⟨b,0,none⟩))(vs:List Value)(L:CellsAt w b vs)(v:Value)(hq:tmps[q]?.getD undef=v){d:TypeDesc}
 (hu:P.underlying ty=some d) (hd:d.isRow=true) (hi:(P.info? ty).map (·.size)=some vs.length):(results fn tmps).run P w=.ok (.tuple #[.agg vs.toArray,v]) w:=by
 simp[results,h,hp,hq,asAddr,run_loadVar_mid w b 0 ty vs d L.range hu hd hi]
theorem BX:(Tryz.prog.info? 57).map (·.size)=some 2:=by kernel_rfl
theorem Am:(Tryz.prog.info? 62).map (·.size)=some 11:=by kernel_rfl
open Go.RowKit
theorem En{P:Program}{o:Oper}{a:Act}{w:World}{K:Act->World->Prop}{Q:Exit->Act->World->Prop}(ty:TypeId)(x y:Operand)(ho:o.op=.store ty x y)
 (b:Nat) (hx:a.eval x=.pointer (some ⟨b,0,none⟩)) (vs:List Value) (hy:a.eval y=.agg vs.toArray) (us:List Value) (D:CellsAt w b us) (hl:vs.length<=us.length) (hi:(P.info? ty).map (·.size)=some vs.length) (h1:vs.all (·.oneCell')=true)
 (h:K (a.put o.dst undef) (w.setCells b 0 vs)):o.wp P a w K Q :=
 wp_store_mid ty x y ho b 0 vs.toArray hx hy (by simpa using D.there hl) (by simpa using hi) (by rw[List.all_toArray]; exact h1) (by simpa using h)
theorem Ao{P:Program}{o:Oper}{a:Act}{w:World}{K:Act->World->Prop}{Q:Exit->Act->World->Prop}(ty:TypeId)(x y:Operand)(ho:o.op=.store ty x y)
 (b:Nat) (hx:a.eval x=.pointer (some ⟨b,0,none⟩)) (vs:List Value) (hy:a.eval y=.agg vs.toArray) (us:List Value) (D:CellsAt w b us) (hl:vs.length<=us.length) (hi:(P.info? ty).map (·.size)=some vs.length) (h1:vs.all (·.oneCell')=true)
 (h:∀ w',Kept b w w'->CellsAt w' b vs->K (a.put o.dst undef) w'):o.wp P a w K Q :=
 En ty x y ho b hx vs hy us D hl hi h1 (h _ (Cq vs 0 (Kept.refl b w)) (D.all vs hl))
theorem Ah{P:Program}{ops:Array Oper}{rest:List Oper}{o:Oper}{a:Act}{w:World}{Q:Exit->Act->World->Prop}(hgd:o.guard=none)(ty:TypeId)(x y:Operand)(ho:o.op=.store ty x y)
 (b:Nat) (hx:a.eval x=.pointer (some ⟨b,0,none⟩)) (vs:List Value) (hy:a.eval y=.agg vs.toArray) (us:List Value) (D:CellsAt w b us) (hl:vs.length<=us.length) (hi:(P.info? ty).map (·.size)=some vs.length) (h1:vs.all (·.oneCell')=true)
 (h:∀ w',Kept b w w'->CellsAt w' b vs->wpList P ops Q rest (a.put o.dst undef) w'):wpList P ops Q (o::rest) a w :=
 Av hgd ty x y ho b hx vs hy us D hl hi h1 (h _ (Cq vs 0 (Kept.refl b w)) (D.all vs hl))
open Go.RowKit
open M
structure PtAt(w:World)(b o:Nat)(q:Pt):Prop where
 c0:w.cell? ⟨b,o,none⟩=some (.int .i64 q.c)
 c1:w.cell? ⟨b,o+1,none⟩=some (.int .i64 q.m)
def Parts(w:World)(A:Option Addr)(n:Nat)(xs:List Pt):Prop :=
 xs.length=n/\(0<n->∃ b off,A=some ⟨b,off,none⟩/\b<w.heap.size/\∀ k,k<n->PtAt w b (off+k*2) (xs.getD k pz))
theorem PtAt.of{w w':World}{b o:Nat}{q:Pt}(h:PtAt w b o q)(e:w'.heap[b]?=w.heap[b]?):PtAt w' b o q :=
 ⟨(World.cell?_of_block (a:=⟨b,o,none⟩) e).trans h.c0,(World.cell?_of_block (a:=⟨b,o+1,none⟩) e).trans h.c1⟩
theorem Parts.step{w w':World}{A:Option Addr}{n:Nat}{xs:List Pt}(h:Parts w A n xs)(B:Below w.heap.size w w'):Parts w' A n xs :=
 ⟨h.1,fun hn=>by
  obtain⟨b,off,e,hb,hc⟩:=h.2 hn;exact⟨b,off,e,Nat.lt_of_lt_of_le hb B.size,fun k hk=>(hc k hk).of (B.block b hb)⟩⟩
theorem Parts.alloc{w:World}{A:Option Addr}{n:Nat}{xs:List Pt}(h:Parts w A n xs)(o:Obj):Parts (w.alloc o) A n xs:=h.step (Ab (Ac w) o)
theorem Parts.drew{w:World}{A:Option Addr}{n:Nat}{xs:List Pt}(h:Parts w A n xs):Parts w.drew A n xs:=h.step (Ac w).drew
theorem Parts.nil(w:World)(A:Option Addr):Parts w A 0 []:=⟨rfl,fun h=>absurd h (by omega)⟩
theorem Parts.kept{w w':World}{A:Option Addr}{n r:Nat}{xs:List Pt}(h:Parts w A n xs)(K:Kept r w w')(hA:0<n->∀ k off,A=some ⟨k,off,none⟩->k≠r):Parts w' A n xs :=
 ⟨h.1,fun hn=>by
  obtain⟨b,off,e,hb,hc⟩:=h.2 hn;exact⟨b,off,e,Nat.lt_of_lt_of_le hb K.size,fun k hk=>(hc k hk).of (K.block b hb (hA hn b off e))⟩⟩
theorem Parts.grown{W w':World}{A:Option Addr}{n:Nat}{xs:List Pt}{row:Option Nat}(h:Parts W A n xs)(hg:W.grownBy w' row)(hr:0<n->∀ k off,A=some ⟨k,off,none⟩->row≠some k):Parts w' A n xs :=
 ⟨h.1,fun hn=>by
  obtain⟨b,off,e,hb,hc⟩:=h.2 hn;exact⟨b,off,e,Nat.lt_of_lt_of_le hb hg.size,fun k hk=>(hc k hk).of (hg.block b hb (fun e'=>hr hn b off e e'.symm))⟩⟩
theorem Parts.lt{w:World}{A:Option Addr}{n:Nat}{xs:List Pt}(h:Parts w A n xs)(hn:0<n):∀ k off,A=some ⟨k,off,none⟩->k<w.heap.size:=fun k off e=>by
 obtain⟨b,off',e',hb,_⟩:=h.2 hn;rw[e'] at e;cases e
 exact hb
theorem Parts.take{w:World}{A:Option Addr}{n:Nat}{xs:List Pt}(h:Parts w A n xs){j:Nat}(hj:j<=n):Parts w A j (xs.take j) :=
 ⟨by rw[List.length_take,h.1]; omega,fun h0=>by
  obtain⟨b,off,e,hb,hc⟩:=h.2 (by omega);refine⟨b,off,e,hb,fun k hk=>?_⟩;have t:=hc k (by omega);have e2:(xs.take j).getD k pz=xs.getD k pz:=by simp[List.getD_eq_getElem?_getD,List.getElem?_take,hk]
  rw[e2];exact t⟩
def Cm:List Pt->List Value
 | []=>[]
 | q::xs=>.int .i64 q.c::.int .i64 q.m::Cm xs
def J9(q:Pt):Nat->Value
 | 0=>.int .i64 q.c
 | _=>.int .i64 q.m
theorem Ex:∀(xs:List Pt) (k r:Nat),k<xs.length->r<2->(Cm xs)[k*2+r]?=some (J9 (xs.getD k pz) r)
 | [],k,r,h,_=>absurd h (by simp)
 | q::xs,0,r,_,hr=>by
  match r,hr with
  | 0,_=>rfl
  | 1,_=>rfl
 | q::xs,k+1,r,h,hr=>by
  have t:=Ex xs k r (by simpa using h) hr;have e:(k+1)*2+r=(k*2+r)+1+1:=by omega
  rw[e];simp only[Cm,List.getElem?_cons_succ];rw[t];rfl
theorem Ee:∀ xs:List Pt,(Cm xs).length=xs.length*2
 | []=>rfl
 | q::xs=>by simp only[Cm,List.length_cons,Ee xs]; omega
theorem Ey:∀ qs xs:List Pt,Cm (qs++xs)=Cm qs++Cm xs
 | [],_=>rfl
 | q::qs,xs=>by simp only[List.cons_append,Cm,Ey qs xs]
theorem HX:∀ xs:List Pt,∀ u∈Cm xs,u.oneCell'=true
 | [],u,h=>by cases h
 | q::xs,u,h=>by
  simp only[Cm,List.mem_cons] at h;rcases h with rfl | rfl | h
  . rfl
  . rfl
  . exact HX xs u h
theorem PtAt.comp{w:World}{b o:Nat}{q:Pt}(h:PtAt w b o q){r:Nat}(hr:r<2):w.cell? ⟨b,o+r,none⟩=some (J9 q r):=by
 match r,hr with
 | 0,_=>exact h.c0
 | 1,_=>exact h.c1
theorem Parts.news{w:World}{b off m:Nat}{xs:List Pt}(I:Parts w (some ⟨b,off,Option.none⟩) m xs):∀ j u,(Cm xs)[j]?=some u->w.cell? ((⟨b,off,Option.none⟩:Addr).add j)=some u:=by
 intro j u hj;have hl:j<xs.length*2:=by
  rw[<- Ee];rcases Nat.lt_or_ge j (Cm xs).length with h | h
  . exact h
  . rw[List.getElem?_eq_none h] at hj; cases hj
 obtain⟨b',off',e,_,hc⟩:=I.2 (by have:=I.1; omega);cases e
 have ej:j=(j / 2)*2+j % 2:=by omega
 have hk:j / 2<xs.length:=by omega
 rw[ej,Ex xs _ _ hk (by omega)] at hj;cases hj
 rw[Addr.add_lit];have t:=(hc (j / 2) (by have:=I.1; omega)).comp (r:=j % 2) (by omega);rw[Nat.add_assoc,<- ej] at t;exact t
theorem Parts.of_own{w:World}{base:Nat}{e:TypeId}{v:Value}{n:Nat}{xs:List Pt}(h:w.ownsRow base e 2 v n (Cm xs)):∃ A cap,v=.slice A n cap/\Parts w A n xs/\(∀ g off,A=some ⟨g,off,none⟩->base<=g):=by
 have hl:xs.length=n:=by have:=h.1; rw[Ee] at this; omega
 have h0:=h;rcases h0.2 with⟨rfl,rfl⟩ | ⟨g,cap,cur,rfl,hbg,hh,_⟩
 . exact⟨none,0,rfl,⟨hl,fun hn=>by omega⟩,fun g off e=>by cases e⟩
 . refine⟨_,_,rfl,⟨hl,fun _=>⟨g,0,rfl,(h.lt g rfl).2,fun k hk=>?_⟩⟩,fun g' off e=>by cases e; exact hbg⟩;have hc:∀ r,r<2->w.cell? ⟨g,0+k*2+r,none⟩=some (J9 (xs.getD k pz) r):=fun r hr=>by
    rw[Nat.zero_add,h.cellAt (k*2+r) (by omega),Ex xs _ _ (by omega) hr]
   exact⟨hc 0 (by omega),hc 1 (by omega)⟩
theorem Fv:(Tryz.prog.info? 73).map (fun i=>(i.zero,i.size,i.bytes))=some (some (.agg #[.int .i64 0,.int .i64 0]),2,16):=by kernel_rfl
theorem Ez(w:World)(base:Nat)(ty:TypeId)(v:Value)(n:Nat)(xs:List Value)(hown:w.ownsRow base 73 2 v n xs)(c:Nat) :
 (Builtin.append_ #[39,39] ty #[v,.slice none 0 c]).run Tryz.prog w=.ok v w:=by
 obtain⟨i0,hi,hz0,hz1,hz2⟩:=info_parts Fv;rcases hown.2 with⟨rfl,rfl⟩ | ⟨g,cap,cur,rfl,_,_,hnc,_⟩
 . simp[Builtin.append_,run_underlying Tryz.underlying39,sizeOf,typeInfo,hi,Builtin.lenOf,Builtin.firstCells]
 . simp[Builtin.append_,run_underlying Tryz.underlying39,sizeOf,typeInfo,hi,Builtin.lenOf,Builtin.firstCells,hnc,storeCells]
theorem B8(w:World)(base:Nat)(ty:TypeId)(v:Value)(n:Nat)(qs:List Pt)(hown:w.ownsRow base 73 2 v n (Cm qs))(A:Option Addr)(m c:Nat)(xs:List Pt)(I:Parts w A m xs)
 (hn:n+m<=10000000) (hb:base<=w.heap.size) :
 ∃ v' w',(Builtin.append_ #[39,39] ty #[v,.slice A m c]).run Tryz.prog w=.ok v' w'/\w'.ownsRow base 73 2 v' (n+m) (Cm (qs++xs))/\w.grownBy w' v.ownBlock/\(v'.ownBlock=v.ownBlock\/v'.ownBlock=some w.heap.size):=by
 obtain⟨i0,hi,hz0,hz1,hz2⟩:=info_parts Fv;by_cases h:∃ b off,A=some ⟨b,off,Option.none⟩
 . obtain⟨b,off,rfl⟩:=h;obtain⟨v',w',hr,h2,h3,_,h5⟩:=run_append_own_at (P:=Tryz.prog) w base 39 ty 73 i0 (.agg #[.int .i64 0,.int .i64 0]) 2 16 Tryz.underlying39 hi hz0 hz1 hz2 rfl (by decide) v n _ hown ⟨b,off,Option.none⟩ m c (Cm xs) (by rw[Ee,I.1]) I.news (HX _) (by unfold maxLen; omega) (by omega) hb;exact⟨v',w',hr,by rw[Ey]; exact h2,h3,h5⟩
 . have hm:m=0:=by
    rcases Nat.eq_zero_or_pos m with h0 | h0
    . exact h0
    . obtain⟨b,off,e,_⟩:=I.2 h0;exact(h ⟨b,off,e⟩).elim
   subst hm;have hy:xs=[]:=List.eq_nil_of_length_eq_zero I.1;subst hy;cases A with
   | none=>exact⟨v,w,Ez w base ty v n _ hown c,by simpa using hown,World.grownBy.refl w _,.inl rfl⟩
   | some ad =>
    obtain⟨v',w',hr,h2,h3,_,h5⟩:=run_append_own_at (P:=Tryz.prog) w base 39 ty 73 i0 (.agg #[.int .i64 0,.int .i64 0]) 2 16 Tryz.underlying39 hi hz0 hz1 hz2 rfl (by decide) v n _ hown ad 0 c [] rfl (fun j u hj=>by simp at hj) (fun u hu=>by simp at hu) (by unfold maxLen; omega) (by omega) hb;exact⟨v',w',hr,by simpa using h2,h3,h5⟩
theorem Ce(w:World){ops:Array Oper}{rest:List Oper}{o:Oper}{a:Act}{Q:Exit->Act->World->Prop}(hgd:o.guard=Option.none)(s x:Operand)
 (ho:o.op=.call { callee:=.builtin .append,args:=#[s,x],argTypes:=#[39,39] }) (base:Nat) (v:Value) (n:Nat) (qs:List Pt) (hs:a.eval s=v) (hown:w.ownsRow base 73 2 v n (Cm qs))
 (A:Option Addr) (m c:Nat) (xs:List Pt) (hx:a.eval x=.slice A m c) (I:Parts w A m xs) (hn:n+m<=10000000) (hb:base<=w.heap.size)
 (h:∀ v' w',w'.ownsRow base 73 2 v' (n+m) (Cm (qs++xs))->w.grownBy w' v.ownBlock->(v'.ownBlock=v.ownBlock\/v'.ownBlock=some w.heap.size)->wpList Tryz.prog ops Q rest (a.put o.dst v') w') :
 wpList Tryz.prog ops Q (o::rest) a w:=by
 refine wpList_plain hgd fun K hK=>?_;obtain⟨v',w',hr,h2,h3,h4⟩:=B8 w base o.type v n qs hown A m c xs I hn hb;unfold Oper.wp execOp;simp only[ho,resolve,invoke,builtin,Sem.run_bind,Sem.run_pure,Result.andThen_ok,List.map_toArray,List.map_cons,List.map_nil,hs,hx,hr];exact hK _ _ (h v' w' h2 h3 h4)
theorem Parts.one(w:World)(B:Nat)(s p:Int)(t:TypeId)(hB:B=w.heap.size):Parts (w.alloc (.cells #[.int .i64 s,.int .i64 p] t)) (some ⟨B,0,none⟩) 1 [⟨s,p⟩] :=
 hB▸⟨rfl,fun _=>⟨w.heap.size,0,rfl,by simp,fun k hk=>by
  match k,hk with
  | 0,_=>exact⟨by simp,by simp⟩⟩⟩
theorem Ct(W:World)(base B:Nat)(hB:B=W.heap.size)(hb:base<=W.heap.size):(W.alloc (.cells #[] 73)).ownsRow base 73 2 (.slice (some ⟨B,0,none⟩) 0 0) 0 (Cm []):=by
 subst hB;exact World.ownsRow_lit W #[] 0 hb (Nat.zero_le _) rfl
end Go.Proofs.YtgbiagonfbnooaaGreatDoor
namespace Go.Proofs.YtgbiagonfbnooaaGreatDoor
open Go.RowKit
def Enters(P:Program)(f:FuncId):Prop:=∃ fn,P.funcs[f]?=some fn/\(fn.name == "runtime.NumGoroutine")=false/\fn.body.isNone=false
theorem FZ{P:Program}{f:FuncId}(hf:Enters P f)(vs:Array Value)(w:World):(callFunc f vs).run P w=.ok (.enter f vs) w:=by
 obtain⟨fn,h1,h2,h3⟩:=hf;unfold callFunc;simp only[Sem.run_bind,show(program:Sem Program).run P w=.ok P w from rfl,Result.andThen_ok,h1,h2,h3];rfl
theorem GL{P:Program}{w:World}{o:Oper}{a:Act}{K:Act->World->Prop}{Q:Exit->Act->World->Prop}{f:FuncId}{vs:Array Value}(e:(execOp a.eval o).run P w=.ok (.enter f vs) w){R:Ending->World->Prop}(hc:Calls P f vs w R)
 (h:∀ e w',R e w'->∃ v,e=.returned v/\K (a.put o.dst v) w'):o.wp P a w K Q:=by
 unfold Oper.wp;rw[e,Oper.upon_enter];refine hc.mono fun e w' hR=>?_;obtain⟨v,rfl,hK⟩:=h e w' hR;exact hK
theorem Hv{P:Program}{w:World}{o:Oper}{a:Act}{K:Act->World->Prop}{Q:Exit->Act->World->Prop}{f:FuncId}(hf:Enters P f)(xs:Array Operand)(ts:Array TypeId)
 (ho:o.op=.call { callee:=.value (.func f),args:=xs,argTypes:=ts }) (vs:Array Value) (hv:xs.map a.eval=vs) {R:Ending->World->Prop} (hc:Calls P f vs w R)
 (h:∀ e w',R e w'->∃ v,e=.returned v/\K (a.put o.dst v) w'):o.wp P a w K Q:=by
 refine GL ?_ hc h;unfold execOp;have e0:(#[]++vs++#[]:Array Value)=vs:=by simp
 simp only[ho,resolve,invoke,Deferred.ofValue,hv,Sem.run_bind,Sem.run_pure,Result.andThen_ok,Act.eval,e0];exact FZ hf vs w
open Go.RowKit
open M
theorem GM(s p:Int)(z:Bool)(s' p':Int)(z':Bool)(w:World):(Op.equalIn 10000 89 (BK s p z) (BK s' p' z')).run Tryz.prog w=.ok ((s==s')&&((p==p')&&(z==z'))) w:=by
 have u3:=Tryz.underlying3;have a3:=Tryz.isAgg3;have z3:=Tryz.sizeOf3;have u4:=Tryz.underlying4;have a4:=Tryz.isAgg4;have z4:=Tryz.sizeOf4;have hS:Tryz.prog.underlying 89=some (.struct (Tryz.prog.fieldsOf 89)):=by kernel_rfl
 have hp:Tryz.prog.stoodInHeld 89=false:=by kernel_rfl
 rw[show(10000:Nat)=9999+1 from rfl,run_equalIn_agg w 9999 89 _ _ hS hp];simp only[Program.fieldsOf,Tryz.underlying89];go_simp;by_cases h1:s=s'<;>by_cases h2:p=p'<;>cases z<;>cases z'<;>simp[h1,h2]
theorem Jg{s p:Int}{z:Bool}{s' p':Int}{z':Bool}{r:Bool}(h:((s==s')&&((p==p')&&(z==z')))=r)(w:World):(binOp .neq 89 (BK s p z) (BK s' p' z')).run Tryz.prog w=.ok (.bool (!r)) w:=by
 rw[run_neq_struct,GM,h];rfl
theorem Jh(s p:Int)(z:Bool):((s==s)&&((p==p)&&(z==z)))=true:=by simp
theorem GO:Tryz.prog.eqGuardType Tryz.prog.depth 89=false:=by kernel_rfl
end Go.Proofs.YtgbiagonfbnooaaGreatDoor
