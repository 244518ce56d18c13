import Derived.Deep.MidRow
import Derived.Test.YtgbiagonfbnooaaGreatDoorZInS
import Derived.Test.YtgbiagonfbnooaaGreatDoorZRowS
set_option linter.all false
set_option maxRecDepth 100000
set_option maxHeartbeats 8000000
namespace Go.Proofs.YtgbiagonfbnooaaGreatDoor
open Go.RowKit
theorem CellsAt.range{W:World}{b:Nat}{vs:List Value}(h:CellsAt W b vs):W.rangeAt b 0 vs:=fun j v hj=>by rw[Nat.zero_add]; exact h.cell j v hj
theorem CellsAt.there{W:World}{b:Nat}{vs:List Value}(h:CellsAt W b vs){n:Nat}(hn:n<=vs.length):W.there b 0 n:=fun j hj=>by
 rw[Nat.zero_add];exact⟨by rw[h.cell j _ (List.getElem?_eq_getElem (by omega))]; rfl,h.fr j⟩
theorem Gb{b:Nat}{W A:World}(h:Kept b W A)(o:Nat)(v:Value):Kept b W (A.setCell ⟨b,o,none⟩ v):=h.trans (Kept.step A b v o 0)
theorem Cq{b:Nat}{W:World}:∀(vs:List Value) (o:Nat) {A:World},Kept b W A->Kept b W (A.setCells b o vs)
 | [],_,_,h=>h
 | v::vs,o,_,h=>Cq vs (o+1) (Gb h o v)
theorem CellsAt.all{W:World}{b:Nat}{us:List Value}(h:CellsAt W b us)(vs:List Value)(hl:vs.length<=us.length):CellsAt (W.setCells b 0 vs) b vs :=
 ⟨fun j v hj=>by have:=World.rangeAt_setCells_same W b 0 vs (h.there hl) j v hj; rwa [Nat.zero_add] at this,fun j=>by rw[World.frozen?_setCells]; exact h.fr j,Nat.lt_of_lt_of_le h.lt (Cq vs 0 (Kept.refl b W)).size⟩
theorem Bj{w a:World}(h:Below w.heap.size w a){b:Nat}(hb:w.heap.size<=b)(o:Nat)(vs:List Value):Below w.heap.size w (a.setCells b o vs) :=
 h.trans ((Cq vs o (Kept.refl b a)).below h.size hb)
theorem Ag{P:Program}{ops:Array Oper}{rest:List Oper}{o:Oper}{a:Act}{w:World}{Q:Exit->Act->World->Prop}(hgd:o.guard=none)(ty:TypeId)(x:Operand)(ho:o.op=.load ty x)
 (b:Nat) (hx:a.eval x=.pointer (some ⟨b,0,none⟩)) (vs:List Value) (L:CellsAt w b vs) {d:TypeDesc} (hu:P.underlying ty=some d) (hd:d.isRow=true) (hi:(P.info? ty).map (·.size)=some vs.length)
 (h:wpList P ops Q rest (a.put o.dst (.agg vs.toArray)) w):wpList P ops Q (o::rest) a w :=
 wpList_load_mid hgd ty x ho b 0 hx vs d L.range hu hd hi h
theorem Av{P:Program}{ops:Array Oper}{rest:List Oper}{o:Oper}{a:Act}{w:World}{Q:Exit->Act->World->Prop}(hgd:o.guard=none)(ty:TypeId)(x y:Operand)(ho:o.op=.store ty x y)
 (b:Nat) (hx:a.eval x=.pointer (some ⟨b,0,none⟩)) (vs:List Value) (hy:a.eval y=.agg vs.toArray) (us:List Value) (D:CellsAt w b us) (hl:vs.length<=us.length) (hi:(P.info? ty).map (·.size)=some vs.length) (h1:vs.all (·.oneCell')=true)
 (h:wpList P ops Q rest (a.put o.dst undef) (w.setCells b 0 vs)):wpList P ops Q (o::rest) a w :=
 wpList_store_mid hgd ty x y ho b 0 vs.toArray hx hy (by simpa using D.there hl) (by simpa using hi) (by rw[List.all_toArray]; exact h1) (by simpa using h)
theorem Ai{P:Program}{fn:Func}{p:Tmp}{ty:TypeId}{tmps:Array Value}{w:World}(h:fn.results=#[.cell p ty])(b:Nat)(hp:tmps[p]?.getD undef=.pointer (some ⟨b,0,none⟩))(vs:List Value)(L:CellsAt w b vs){d:TypeDesc}
 (hu:P.underlying ty=some d) (hd:d.isRow=true) (hi:(P.info? ty).map (·.size)=some vs.length):(results fn tmps).run P w=.ok (.agg vs.toArray) w:=by
 simp[results,h,hp,asAddr,run_loadVar_mid w b 0 ty vs d L.range hu hd hi]
theorem Ay{P:Program}{fn:Func}{p q:Tmp}{ty:TypeId}{tmps:Array Value}{w:World}(h:fn.results=#[.cell p ty,.tmp q])(b:Nat)(hp:tmps[p]?.getD undef=.pointer (some ⟨b,0,none⟩))(vs:List Value)(L:CellsAt w b vs)(v:Value)(hq:tmps[q]?.getD undef=v){d:TypeDesc}
 (hu:P.underlying ty=some d) (hd:d.isRow=true) (hi:(P.info? ty).map (·.size)=some vs.length):(results fn tmps).run P w=.ok (.tuple #[.agg vs.toArray,v]) w:=by
 simp[results,h,hp,hq,asAddr,run_loadVar_mid w b 0 ty vs d L.range hu hd hi]
theorem BX:(Tryz.prog.info? 57).map (·.size)=some 2:=by kernel_rfl
theorem Am:(Tryz.prog.info? 62).map (·.size)=some 11:=by kernel_rfl
open Go.RowKit
theorem En{P:Program}{o:Oper}{a:Act}{w:World}{K:Act->World->Prop}{Q:Exit->Act->World->Prop}(ty:TypeId)(x y:Operand)(ho:o.op=.store ty x y)
 (b:Nat) (hx:a.eval x=.pointer (some ⟨b,0,none⟩)) (vs:List Value) (hy:a.eval y=.agg vs.toArray) (us:List Value) (D:CellsAt w b us) (hl:vs.length<=us.length) (hi:(P.info? ty).map (·.size)=some vs.length) (h1:vs.all (·.oneCell')=true)
 (h:K (a.put o.dst undef) (w.setCells b 0 vs)):o.wp P a w K Q :=
 wp_store_mid ty x y ho b 0 vs.toArray hx hy (by simpa using D.there hl) (by simpa using hi) (by rw[List.all_toArray]; exact h1) (by simpa using h)
theorem Ao{P:Program}{o:Oper}{a:Act}{w:World}{K:Act->World->Prop}{Q:Exit->Act->World->Prop}(ty:TypeId)(x y:Operand)(ho:o.op=.store ty x y)
 (b:Nat) (hx:a.eval x=.pointer (some ⟨b,0,none⟩)) (vs:List Value) (hy:a.eval y=.agg vs.toArray) (us:List Value) (D:CellsAt w b us) (hl:vs.length<=us.length) (hi:(P.info? ty).map (·.size)=some vs.length) (h1:vs.all (·.oneCell')=true)
 (h:∀ w',Kept b w w'->CellsAt w' b vs->K (a.put o.dst undef) w'):o.wp P a w K Q :=
 En ty x y ho b hx vs hy us D hl hi h1 (h _ (Cq vs 0 (Kept.refl b w)) (D.all vs hl))
theorem Ah{P:Program}{ops:Array Oper}{rest:List Oper}{o:Oper}{a:Act}{w:World}{Q:Exit->Act->World->Prop}(hgd:o.guard=none)(ty:TypeId)(x y:Operand)(ho:o.op=.store ty x y)
 (b:Nat) (hx:a.eval x=.pointer (some ⟨b,0,none⟩)) (vs:List Value) (hy:a.eval y=.agg vs.toArray) (us:List Value) (D:CellsAt w b us) (hl:vs.length<=us.length) (hi:(P.info? ty).map (·.size)=some vs.length) (h1:vs.all (·.oneCell')=true)
 (h:∀ w',Kept b w w'->CellsAt w' b vs->wpList P ops Q rest (a.put o.dst undef) w'):wpList P ops Q (o::rest) a w :=
 Av hgd ty x y ho b hx vs hy us D hl hi h1 (h _ (Cq vs 0 (Kept.refl b w)) (D.all vs hl))
open Go.RowKit
open M
structure InAt(w:World)(b o:Nat)(q:In):Prop where
 c0:w.cell? ⟨b,o,none⟩=some (.int .i64 q.s)
 c1:w.cell? ⟨b,o+1,none⟩=some (.int .i64 q.p)
 c2:w.cell? ⟨b,o+2,none⟩=some (.bool q.z)
def Inputs(w:World)(A:Option Addr)(n:Nat)(xs:List In):Prop :=
 xs.length=n/\(0<n->∃ b off,A=some ⟨b,off,none⟩/\b<w.heap.size/\∀ k,k<n->InAt w b (off+k*3) (xs.getD k iz))
theorem InAt.of{w w':World}{b o:Nat}{q:In}(h:InAt w b o q)(e:w'.heap[b]?=w.heap[b]?):InAt w' b o q :=
 ⟨(World.cell?_of_block (a:=⟨b,o,none⟩) e).trans h.c0,(World.cell?_of_block (a:=⟨b,o+1,none⟩) e).trans h.c1,(World.cell?_of_block (a:=⟨b,o+2,none⟩) e).trans h.c2⟩
theorem Inputs.step{w w':World}{A:Option Addr}{n:Nat}{xs:List In}(h:Inputs w A n xs)(B:Below w.heap.size w w'):Inputs w' A n xs :=
 ⟨h.1,fun hn=>by
  obtain⟨b,off,e,hb,hc⟩:=h.2 hn;exact⟨b,off,e,Nat.lt_of_lt_of_le hb B.size,fun k hk=>(hc k hk).of (B.block b hb)⟩⟩
theorem Inputs.alloc{w:World}{A:Option Addr}{n:Nat}{xs:List In}(h:Inputs w A n xs)(o:Obj):Inputs (w.alloc o) A n xs:=h.step (Ab (Ac w) o)
theorem Inputs.drew{w:World}{A:Option Addr}{n:Nat}{xs:List In}(h:Inputs w A n xs):Inputs w.drew A n xs:=h.step (Ac w).drew
theorem Inputs.nil(w:World)(A:Option Addr):Inputs w A 0 []:=⟨rfl,fun h=>absurd h (by omega)⟩
theorem Inputs.kept{w w':World}{A:Option Addr}{n r:Nat}{xs:List In}(h:Inputs w A n xs)(K:Kept r w w')(hA:0<n->∀ k off,A=some ⟨k,off,none⟩->k≠r):Inputs w' A n xs :=
 ⟨h.1,fun hn=>by
  obtain⟨b,off,e,hb,hc⟩:=h.2 hn;exact⟨b,off,e,Nat.lt_of_lt_of_le hb K.size,fun k hk=>(hc k hk).of (K.block b hb (hA hn b off e))⟩⟩
theorem Inputs.grown{W w':World}{A:Option Addr}{n:Nat}{xs:List In}{row:Option Nat}(h:Inputs W A n xs)(hg:W.grownBy w' row)(hr:0<n->∀ k off,A=some ⟨k,off,none⟩->row≠some k):Inputs w' A n xs :=
 ⟨h.1,fun hn=>by
  obtain⟨b,off,e,hb,hc⟩:=h.2 hn;exact⟨b,off,e,Nat.lt_of_lt_of_le hb hg.size,fun k hk=>(hc k hk).of (hg.block b hb (fun e'=>hr hn b off e e'.symm))⟩⟩
theorem Inputs.lt{w:World}{A:Option Addr}{n:Nat}{xs:List In}(h:Inputs w A n xs)(hn:0<n):∀ k off,A=some ⟨k,off,none⟩->k<w.heap.size:=fun k off e=>by
 obtain⟨b,off',e',hb,_⟩:=h.2 hn;rw[e'] at e;cases e
 exact hb
theorem Inputs.take{w:World}{A:Option Addr}{n:Nat}{xs:List In}(h:Inputs w A n xs){j:Nat}(hj:j<=n):Inputs w A j (xs.take j) :=
 ⟨by rw[List.length_take,h.1]; omega,fun h0=>by
  obtain⟨b,off,e,hb,hc⟩:=h.2 (by omega);refine⟨b,off,e,hb,fun k hk=>?_⟩;have t:=hc k (by omega);have e2:(xs.take j).getD k iz=xs.getD k iz:=by simp[List.getD_eq_getElem?_getD,hk]
  rw[e2];exact t⟩
def AZ:List In->List Value
 | []=>[]
 | q::xs=>.int .i64 q.s::.int .i64 q.p::.bool q.z::AZ xs
def DK(q:In):Nat->Value
 | 0=>.int .i64 q.s
 | 1=>.int .i64 q.p
 | _=>.bool q.z
theorem CU:∀(xs:List In) (k r:Nat),k<xs.length->r<3->(AZ xs)[k*3+r]?=some (DK (xs.getD k iz) r)
 | [],k,r,h,_=>absurd h (by simp)
 | q::xs,0,r,_,hr=>by
  match r,hr with
  | 0,_=>rfl
  | 1,_=>rfl
  | 2,_=>rfl
 | q::xs,k+1,r,h,hr=>by
  have t:=CU xs k r (by simpa using h) hr;have e:(k+1)*3+r=(k*3+r)+1+1+1:=by omega
  rw[e];simp only[AZ,List.getElem?_cons_succ];rw[t];rfl
theorem AV:∀ xs:List In,(AZ xs).length=xs.length*3
 | []=>rfl
 | q::xs=>by simp only[AZ,List.length_cons,AV xs]; omega
theorem Bf:∀ qs xs:List In,AZ (qs++xs)=AZ qs++AZ xs
 | [],_=>rfl
 | q::qs,xs=>by simp only[List.cons_append,AZ,Bf qs xs]
theorem FE:∀ xs:List In,∀ u∈AZ xs,u.oneCell'=true
 | [],u,h=>by cases h
 | q::xs,u,h=>by
  simp only[AZ,List.mem_cons] at h;rcases h with rfl | rfl | rfl | h
  . rfl
  . rfl
  . rfl
  . exact FE xs u h
theorem InAt.comp{w:World}{b o:Nat}{q:In}(h:InAt w b o q){r:Nat}(hr:r<3):w.cell? ⟨b,o+r,none⟩=some (DK q r):=by
 match r,hr with
 | 0,_=>exact h.c0
 | 1,_=>exact h.c1
 | 2,_=>exact h.c2
theorem Inputs.news{w:World}{b off m:Nat}{xs:List In}(I:Inputs w (some ⟨b,off,Option.none⟩) m xs):∀ j u,(AZ xs)[j]?=some u->w.cell? ((⟨b,off,Option.none⟩:Addr).add j)=some u:=by
 intro j u hj;have hl:j<xs.length*3:=by
  rw[<- AV];rcases Nat.lt_or_ge j (AZ xs).length with h | h
  . exact h
  . rw[List.getElem?_eq_none h] at hj; cases hj
 obtain⟨b',off',e,_,hc⟩:=I.2 (by have:=I.1; omega);cases e
 have ej:j=(j / 3)*3+j % 3:=by omega
 have hk:j / 3<xs.length:=by omega
 rw[ej,CU xs _ _ hk (by omega)] at hj;cases hj
 rw[Addr.add_lit];have t:=(hc (j / 3) (by have:=I.1; omega)).comp (r:=j % 3) (by omega);rw[Nat.add_assoc,<- ej] at t;exact t
theorem Inputs.of_own{w:World}{base:Nat}{e:TypeId}{v:Value}{n:Nat}{xs:List In}(h:w.ownsRow base e 3 v n (AZ xs)):∃ A cap,v=.slice A n cap/\Inputs w A n xs/\(∀ g off,A=some ⟨g,off,none⟩->base<=g):=by
 have hl:xs.length=n:=by have:=h.1; rw[AV] at this; omega
 have h0:=h;rcases h0.2 with⟨rfl,rfl⟩ | ⟨g,cap,cur,rfl,hbg,hh,_⟩
 . exact⟨none,0,rfl,⟨hl,fun hn=>by omega⟩,fun g off e=>by cases e⟩
 . refine⟨_,_,rfl,⟨hl,fun _=>⟨g,0,rfl,(h.lt g rfl).2,fun k hk=>?_⟩⟩,fun g' off e=>by cases e; exact hbg⟩;have hc:∀ r,r<3->w.cell? ⟨g,0+k*3+r,none⟩=some (DK (xs.getD k iz) r):=fun r hr=>by
    rw[Nat.zero_add,h.cellAt (k*3+r) (by omega),CU xs _ _ (by omega) hr]
   exact⟨hc 0 (by omega),hc 1 (by omega),hc 2 (by omega)⟩
theorem D7:(Tryz.prog.info? 89).map (·.size)=some 3:=by kernel_rfl
theorem Bs:(Tryz.prog.info? 89).map (fun i=>(i.zero,i.size,i.bytes))=some (some (BK 0 0 false),3,24):=by kernel_rfl
theorem DU(w:World)(base:Nat)(ty:TypeId)(v:Value)(n:Nat)(xs:List Value)(hown:w.ownsRow base 89 3 v n xs)(c:Nat) :
 (Builtin.append_ #[23,23] ty #[v,.slice none 0 c]).run Tryz.prog w=.ok v w:=by
 obtain⟨i0,hi,hz0,hz1,hz2⟩:=info_parts Bs;rcases hown.2 with⟨rfl,rfl⟩ | ⟨g,cap,cur,rfl,_,_,hnc,_⟩
 . simp[Builtin.append_,run_underlying Tryz.underlying23,sizeOf,typeInfo,hi,Builtin.lenOf,Builtin.firstCells]
 . simp[Builtin.append_,run_underlying Tryz.underlying23,sizeOf,typeInfo,hi,Builtin.lenOf,Builtin.firstCells,hnc,storeCells]
theorem AX(w:World)(base:Nat)(ty:TypeId)(v:Value)(n:Nat)(qs:List In)(hown:w.ownsRow base 89 3 v n (AZ qs))(A:Option Addr)(m c:Nat)(xs:List In)(I:Inputs w A m xs)
 (hn:n+m<=10000000) (hb:base<=w.heap.size) :
 ∃ v' w',(Builtin.append_ #[23,23] ty #[v,.slice A m c]).run Tryz.prog w=.ok v' w'/\w'.ownsRow base 89 3 v' (n+m) (AZ (qs++xs))/\w.grownBy w' v.ownBlock/\(v'.ownBlock=v.ownBlock\/v'.ownBlock=some w.heap.size):=by
 obtain⟨i0,hi,hz0,hz1,hz2⟩:=info_parts Bs;by_cases h:∃ b off,A=some ⟨b,off,Option.none⟩
 . obtain⟨b,off,rfl⟩:=h;obtain⟨v',w',hr,h2,h3,_,h5⟩:=run_append_own_at (P:=Tryz.prog) w base 23 ty 89 i0 (BK 0 0 false) 3 24 Tryz.underlying23 hi hz0 hz1 hz2 rfl (by decide) v n _ hown ⟨b,off,Option.none⟩ m c (AZ xs) (by rw[AV,I.1]) I.news (FE _) (by unfold maxLen; omega) (by omega) hb;exact⟨v',w',hr,by rw[Bf]; exact h2,h3,h5⟩
 . have hm:m=0:=by
    rcases Nat.eq_zero_or_pos m with h0 | h0
    . exact h0
    . obtain⟨b,off,e,_⟩:=I.2 h0;exact(h ⟨b,off,e⟩).elim
   subst hm;have hy:xs=[]:=List.eq_nil_of_length_eq_zero I.1;subst hy;cases A with
   | none=>exact⟨v,w,DU w base ty v n _ hown c,by simpa using hown,World.grownBy.refl w _,.inl rfl⟩
   | some ad =>
    obtain⟨v',w',hr,h2,h3,_,h5⟩:=run_append_own_at (P:=Tryz.prog) w base 23 ty 89 i0 (BK 0 0 false) 3 24 Tryz.underlying23 hi hz0 hz1 hz2 rfl (by decide) v n _ hown ad 0 c [] rfl (fun j u hj=>by simp at hj) (fun u hu=>by simp at hu) (by unfold maxLen; omega) (by omega) hb;exact⟨v',w',hr,by simpa using h2,h3,h5⟩
theorem CS(w:World){ops:Array Oper}{rest:List Oper}{o:Oper}{a:Act}{Q:Exit->Act->World->Prop}(hgd:o.guard=Option.none)(s x:Operand)
 (ho:o.op=.call { callee:=.builtin .append,args:=#[s,x],argTypes:=#[23,23] }) (base:Nat) (v:Value) (n:Nat) (qs:List In) (hs:a.eval s=v) (hown:w.ownsRow base 89 3 v n (AZ qs))
 (A:Option Addr) (m c:Nat) (xs:List In) (hx:a.eval x=.slice A m c) (I:Inputs w A m xs) (hn:n+m<=10000000) (hb:base<=w.heap.size)
 (h:∀ v' w',w'.ownsRow base 89 3 v' (n+m) (AZ (qs++xs))->w.grownBy w' v.ownBlock->(v'.ownBlock=v.ownBlock\/v'.ownBlock=some w.heap.size)->wpList Tryz.prog ops Q rest (a.put o.dst v') w') :
 wpList Tryz.prog ops Q (o::rest) a w:=by
 refine wpList_plain hgd fun K hK=>?_;obtain⟨v',w',hr,h2,h3,h4⟩:=AX w base o.type v n qs hown A m c xs I hn hb;unfold Oper.wp execOp;simp only[ho,resolve,invoke,builtin,Sem.run_bind,Sem.run_pure,Result.andThen_ok,List.map_toArray,List.map_cons,List.map_nil,hs,hx,hr];exact hK _ _ (h v' w' h2 h3 h4)
theorem Inputs.one(w:World)(B:Nat)(s p:Int)(z:Bool)(t:TypeId)(hB:B=w.heap.size):Inputs (w.alloc (.cells #[.int .i64 s,.int .i64 p,.bool z] t)) (some ⟨B,0,none⟩) 1 [⟨s,p,z⟩] :=
 hB▸⟨rfl,fun _=>⟨w.heap.size,0,rfl,by simp,fun k hk=>by
  match k,hk with
  | 0,_=>exact⟨by simp,by simp,by simp⟩⟩⟩
theorem Bl(W:World)(base B:Nat)(hB:B=W.heap.size)(hb:base<=W.heap.size):(W.alloc (.cells #[] 89)).ownsRow base 89 3 (.slice (some ⟨B,0,none⟩) 0 0) 0 (AZ []):=by
 subst hB;exact World.ownsRow_lit W #[] 0 hb (Nat.zero_le _) rfl
end Go.Proofs.YtgbiagonfbnooaaGreatDoor
