import Derived.Test.YtbeohbhhmcjokaaZSvZ
set_option linter.all false
set_option maxRecDepth 100000
set_option maxHeartbeats 8000000
namespace Go.Proofs.Ytbeohbhhmcjokaa
open Go.RowKit
open M
def Fl(ps:List (Option Addr × Nat))(w w':World):Prop:=w.heap.size<=w'.heap.size/\∀ b,b<w.heap.size->(∀ p∈ps,0<p.2->p.1≠some ⟨b,0,none⟩)->w'.heap[b]?=w.heap[b]?
theorem Fl.refl(ps:List (Option Addr × Nat))(w:World):Fl ps w w:=⟨Nat.le_refl _,fun _ _ _=>rfl⟩
theorem Fl.trans{ps:List (Option Addr × Nat)}{a b c:World}(h:Fl ps a b)(k:Fl ps b c):Fl ps a c:=⟨Nat.le_trans h.1 k.1,fun x hx hp=>(k.2 x (Nat.lt_of_lt_of_le hx h.1) hp).trans (h.2 x hx hp)⟩
theorem Fl.of_fr{ps:List (Option Addr × Nat)}{w w':World}{A:Option Addr}{n m:Nat}(h:Fr n A w w')(hp:0<n->(A,m)∈ps/\0<m):Fl ps w w':=⟨h.1,fun b hb hne=>h.2 b hb (fun hn e=>hne _ (hp hn).1 (hp hn).2 e)⟩
theorem Fl.of_kept{ps:List (Option Addr × Nat)}{w w':World}{g m:Nat}(h:Kept g w w')(hp:(some ⟨g,0,none⟩,m)∈ps)(hm:0<m):Fl ps w w':=⟨h.size,fun b hb hne=>h.block b hb (fun e=>hne _ hp hm (by rw[e]))⟩
theorem Fl.mono{ps qs:List (Option Addr × Nat)}{w w':World}(h:Fl ps w w')(hs:∀ p∈ps,p∈qs):Fl qs w w':=⟨h.1,fun b hb hp=>h.2 b hb (fun p hm=>hp p (hs p hm))⟩
theorem Boxes.fl{ps:List (Option Addr × Nat)}{w w':World}{A:Option Addr}{n:Nat}{bs:List Bx}(h:Boxes w A n bs)(B:Fl ps w w')(hA:0<n->∀ k off,A=some ⟨k,off,none⟩->∀ p∈ps,0<p.2->p.1≠some ⟨k,0,none⟩):Boxes w' A n bs :=
 ⟨h.1,fun hn=>by
  obtain⟨b,off,e,hb,hc⟩:=h.2 hn;exact⟨b,off,e,Nat.lt_of_lt_of_le hb B.1,fun k hk=>(hc k hk).of (B.2 b hb (hA hn b off e))⟩⟩
theorem Ents.fl{ps:List (Option Addr × Nat)}{w w':World}{A:Option Addr}{n:Nat}{xs:List En}(h:Ents w A n xs)(B:Fl ps w w')(hA:0<n->∀ k off,A=some ⟨k,off,none⟩->∀ p∈ps,0<p.2->p.1≠some ⟨k,0,none⟩):Ents w' A n xs :=
 ⟨h.1,fun hn=>by
  obtain⟨b,off,e,hb,hc⟩:=h.2 hn;exact⟨b,off,e,Nat.lt_of_lt_of_le hb B.1,fun k hk=>(hc k hk).of (B.2 b hb (hA hn b off e))⟩⟩
theorem Ints.fl{ps:List (Option Addr × Nat)}{w w':World}{A:Option Addr}{n:Nat}{xs:List Int}(h:Ints w A n xs)(B:Fl ps w w')(hA:0<n->∀ k off,A=some ⟨k,off,none⟩->∀ p∈ps,0<p.2->p.1≠some ⟨k,0,none⟩):Ints w' A n xs :=
 ⟨h.1,fun hn=>by
  obtain⟨b,off,e,hb,hc⟩:=h.2 hn;exact⟨b,off,e,Nat.lt_of_lt_of_le hb B.1,fun k hk=>(World.cell?_of_block (a:=⟨b,off+k,none⟩) (B.2 b hb (hA hn b off e))).trans (hc k hk)⟩⟩
theorem Mk.fl{ps:List (Option Addr × Nat)}{w w':World}{A:Option Addr}{n lo:Nat}(h:Mk lo w A n)(B:Fl ps w w')(hA:0<n->∀ p∈ps,0<p.2->p.1≠A):Mk lo w' A n:=fun hn=>by
 obtain⟨g,e,h1,h2,T⟩:=h hn;have eb:=B.2 g h2 (fun p hp h0 e'=>hA hn p hp h0 (by rw[e',e]));exact⟨g,e,h1,Nat.lt_of_lt_of_le h2 B.1,fun j hj=>by
  obtain⟨a,b⟩:=T j hj;exact⟨by rw[World.cell?_of_block (a:=⟨g,0+j,none⟩) eb]; exact a,by rw[World.frozen?_of_block (a:=⟨g,0+j,none⟩) eb]; exact b⟩⟩
theorem M.Tk.At.fl{ps:List (Option Addr × Nat)}{w w':World}{q:Tk}{lo:Nat}(h:q.At w)(M:∀ p∈q.ps,Mk lo w p.1 p.2)(B:Fl ps w w')(hd:∀ p∈q.ps,0<p.2->∀ r∈ps,0<r.2->r.1≠p.1):q.At w':=by
 have aux:∀(A:Option Addr) (m:Nat),(A,m)∈q.ps->0<m->∀ k off,A=some ⟨k,off,none⟩->∀ p∈ps,0<p.2->p.1≠some ⟨k,0,none⟩:=fun A m hm h0 k off e p hp hp0 e'=>by
  obtain⟨g,e2,_,_,_⟩:=M _ hm h0;simp only at e2;rw[e] at e2;cases e2
  exact hd _ hm h0 p hp hp0 (by rw[e',e])
 exact⟨h.I.fl B (fun hn=>aux _ (q.L.n*4) (by simp) (by omega)),h.J.fl B (fun hn=>aux _ (q.L.m*4) (by simp) (by omega)),h.E.fl B (fun hn=>aux _ (q.l*2) (by simp) (by omega)),h.n,h.m,h.l⟩
def M.mkf(k:Nat)(q:Tk):Nat:=k+4+4*q.L.n+4*q.L.m
def M.mkq(k:Nat)(q:Tk):Tk :=
 ⟨⟨(k:Int),((k+1:Nat):Int),((k+2:Nat):Int),((k+3:Nat):Int),q.L.A,q.L.n,q.L.c,q.L.G,q.L.m,q.L.kk,(mkf k q:Int),((mkf k q+1:Nat):Int),((mkf k q+2:Nat):Int),((mkf k q+3:Nat):Int),((mkf k q+4:Nat):Int),BW (k+4) q.L.n,BW (k+4+4*q.L.n) q.L.m⟩,q.D,q.l,q.cc,CI (mkf k q+5) q.l⟩
def M.mkw(q:Tk):Nat:=9+4*q.L.n+4*q.L.m+2*q.l
def M.mkS(ts:List Tk):Nat:=(ts.map mkw).sum
def M.mkts(k:Nat)(ts:List Tk):List Tk:=(List.range ts.length).map (fun i=>mkq (k+mkS (ts.take i)) (ts.getD i kz))
theorem M.mkS_next{ts:List Tk}{k:Nat}{q:Tk}(h:ts[k]?=some q):mkS (ts.take (k+1))=mkS (ts.take k)+mkw q:=by
 have hl:k<ts.length:=by
  rcases Nat.lt_or_ge k ts.length with h1 | h1
  . exact h1
  . rw[List.getElem?_eq_none h1] at h; cases h
 rw[List.take_succ_eq_append_getElem hl,mkS,List.map_append,List.sum_append];rw[List.getElem?_eq_getElem hl] at h;rw[Option.some.inj h];simp[mkS]
theorem M.mkS_take(ts:List Tk)(k:Nat):mkS (ts.take k)<=mkS ts:=by
 conv=>rhs; rw[<- List.take_append_drop k ts]
 rw[mkS,mkS,List.map_append,List.sum_append];omega
theorem M.mkS_le(ts:List Tk):mkS ts<=9*ts.length+4*tss ts:=by
 induction ts with
 | nil=>simp[mkS]
 | cons q ts ih=>simp only[mkS,tss,List.map_cons,List.sum_cons,List.length_cons] at ih ⊢; simp only[mkw,tsz]; omega
theorem M.mkts_len(k:Nat)(ts:List Tk):(mkts k ts).length=ts.length:=by simp[mkts]
theorem M.mkts_get{k:Nat}{ts:List Tk}{i:Nat}{q:Tk}(h:ts[i]?=some q):(mkts k ts)[i]?=some (mkq (k+mkS (ts.take i)) q):=by
 have hl:i<ts.length:=by
  rcases Nat.lt_or_ge i ts.length with h1 | h1
  . exact h1
  . rw[List.getElem?_eq_none h1] at h; cases h
 have e:ts[i]=q:=by rw[List.getElem?_eq_getElem hl] at h; exact Option.some.inj h
 simp[mkts,hl,List.getD_eq_getElem?_getD,e]
theorem M.mkts_inv{k:Nat}{ts:List Tk}{i:Nat}{q':Tk}(h:(mkts k ts)[i]?=some q'):∃ q,ts[i]?=some q/\q'=mkq (k+mkS (ts.take i)) q:=by
 have hl:i<ts.length:=by
  rcases Nat.lt_or_ge i (mkts k ts).length with h1 | h1
  . rwa [mkts_len] at h1
  . rw[List.getElem?_eq_none h1] at h; cases h
 refine⟨ts[i],List.getElem?_eq_getElem hl,?_⟩;rw[mkts_get (List.getElem?_eq_getElem hl)] at h;exact(Option.some.inj h).symm
theorem M.mkts_ps(k:Nat)(ts:List Tk):(mkts k ts).flatMap Tk.ps=ts.flatMap Tk.ps:=by
 rw[mkts,List.flatMap_map];have e:∀ i,Tk.ps (mkq (k+mkS (ts.take i)) (ts.getD i kz))=(ts.getD i kz).ps:=fun i=>rfl;simp only[e];have:(List.range ts.length).map (fun i=>ts.getD i kz)=ts:=by
  apply List.ext_getElem (by simp);intro i h1 h2;simp[List.getD_eq_getElem?_getD,h2]
 conv=>rhs; rw[<- this]
 rw[List.flatMap_map]
theorem OwnL.apart{lo:Nat}{w:World}{a:Option Addr × Nat}{ts:List Tk}(O:OwnL lo w (a::ts.flatMap Tk.ps)){i j:Nat}{q q':Tk}(hi:ts[i]?=some q)(hj:ts[j]?=some q')(hne:i≠j){p p':Option Addr × Nat}(hp:p∈q.ps)(hp':p'∈q'.ps)(h0:0<p.2)(h0':0<p'.2):p.1≠p'.1:=by
 have h:=(List.pairwise_flatMap.1 O.tail.ne).2;rw[List.pairwise_iff_getElem] at h;have li:i<ts.length:=by
  rcases Nat.lt_or_ge i ts.length with h1 | h1
  . exact h1
  . rw[List.getElem?_eq_none h1] at hi; cases hi
 have lj:j<ts.length:=by
  rcases Nat.lt_or_ge j ts.length with h1 | h1
  . exact h1
  . rw[List.getElem?_eq_none h1] at hj; cases hj
 rw[List.getElem?_eq_getElem li] at hi;rw[List.getElem?_eq_getElem lj] at hj;cases hi
 cases hj
 rcases Nat.lt_or_gt_of_ne hne with h1 | h1
 . exact h i j li lj h1 p hp p' hp' h0 h0'
 . exact fun e=>h j i lj li h1 p' hp' p hp h0' h0 e.symm
theorem OwnL.inner{lo:Nat}{w:World}{a:Option Addr × Nat}{ts:List Tk}(O:OwnL lo w (a::ts.flatMap Tk.ps)){q:Tk}(hq:q∈ts):q.ps.Pairwise (fun p q=>0<p.2->0<q.2->p.1≠q.1):=(List.pairwise_flatMap.1 O.tail.ne).1 q hq
theorem OwnL.head{lo:Nat}{w:World}{a:Option Addr × Nat}{ts:List Tk}(O:OwnL lo w (a::ts.flatMap Tk.ps)){q:Tk}(hq:q∈ts){p:Option Addr × Nat}(hp:p∈q.ps)(h0:0<a.2)(h1:0<p.2):a.1≠p.1:=(List.pairwise_cons.1 O.ne).1 p (List.mem_flatMap.2 ⟨q,hq,hp⟩) h0 h1
structure MkHd(lo:Nat)(w:World)(g n:Nat)(ts:List Tk)(k j:Nat)(W:World):Prop where
 T:W.there g 0 (n*12)
 old:∀ i q,i<j->(mkts k ts)[i]?=some q->W.rangeAt g (i*12) q.cs/\q.At W
 new:∀ i q,j<=i->ts[i]?=some q->W.rangeAt g (i*12) q.cs
 O:OwnL lo W ((some ⟨g,0,none⟩,n*12)::ts.flatMap Tk.ps)
 F:Fl ((some ⟨g,0,none⟩,n*12)::ts.flatMap Tk.ps) w W
 B:Below lo w W
 lt:g<W.heap.size
 lo_:lo<=g
structure MkSt(lo:Nat)(w:World)(g n:Nat)(ts:List Tk)(k j:Nat)(us:List Value)(W:World):Prop where
 T:W.there g 0 (n*12)
 cur:W.rangeAt g (j*12) us
 ul:us.length=12
 jn:j<n
 old:∀ i q,i<j->(mkts k ts)[i]?=some q->W.rangeAt g (i*12) q.cs/\q.At W
 new:∀ i q,j<i->ts[i]?=some q->W.rangeAt g (i*12) q.cs
 O:OwnL lo W ((some ⟨g,0,none⟩,n*12)::ts.flatMap Tk.ps)
 F:Fl ((some ⟨g,0,none⟩,n*12)::ts.flatMap Tk.ps) w W
 B:Below lo w W
 lt:g<W.heap.size
 lo_:lo<=g
variable {lo:Nat} {w W W':World} {g n k j:Nat} {ts:List Tk} {us:List Value}
theorem MkHd.begin(h:MkHd lo w g n ts k j W)(hj:j<n){q:Tk}(hq:ts[j]?=some q):MkSt lo w g n ts k j q.cs W :=
 ⟨h.T,h.new j q (Nat.le_refl _) hq,rfl,hj,h.old,fun i q hi=>h.new i q (by omega),h.O,h.F,h.B,h.lt,h.lo_⟩
theorem MkSt.end_{q:Tk}(hq:ts[j]?=some q)(h:MkSt lo w g n ts k j (mkq (k+mkS (ts.take j)) q).cs W)(R:(mkq (k+mkS (ts.take j)) q).At W):MkHd lo w g n ts k (j+1) W :=
 ⟨h.T,fun i q' hi hq'=>by
  by_cases e:i=j
  . subst e;rw[mkts_get hq] at hq';cases hq'
    exact⟨h.cur,R⟩
  . exact h.old i q' (by omega) hq',fun i q hi=>h.new i q (by omega),h.O,h.F,h.B,h.lt,h.lo_⟩
theorem Dz{W:World}{b o r:Nat}{us:List Value}(h:W.rangeAt b o us)(hr:r<us.length)(v:Value):(W.setCell ⟨b,o+r,none⟩ v).rangeAt b o (us.set r v):=fun i u hi=>by
 by_cases e:i=r
 . subst e;rw[List.getElem?_set_self hr] at hi;cases hi
   exact World.cell?_setCell_same' _ _ _ (by rw[h i _ (List.getElem?_eq_getElem hr)]; rfl)
 . rw[List.getElem?_set_ne (fun e'=>e e'.symm)] at hi;rw[World.cell?_setCell_other _ _ _ _ (by first | (simp; done) | (simp; omega))];exact h i u hi
theorem Bf{W:World}{b o p:Nat}{us:List Value}(h:W.rangeAt b o us)(hp:p<o\/o+us.length<=p)(v:Value):(W.setCell ⟨b,p,none⟩ v).rangeAt b o us:=fun i u hi=>by
 have hl:i<us.length:=by
  rcases Nat.lt_or_ge i us.length with h1 | h1
  . exact h1
  . rw[List.getElem?_eq_none h1] at hi; cases hi
 rw[World.cell?_setCell_other _ _ _ _ (by first | (simp; done) | (simp; omega))];exact h i u hi
theorem MkSt.put(h:MkSt lo w g n ts k j us W)(r:Nat)(hr:r<12)(v:Value):MkSt lo w g n ts k j (us.set r v) (W.setCell ⟨g,j*12+r,none⟩ v):=by
 have K:=BH (Kept.refl g W) (j*12+r) v;have hjn:=h.jn;have F1:Fl [(some ⟨g,0,none⟩,n*12)] W (W.setCell ⟨g,j*12+r,none⟩ v):=Fl.of_kept (m:=n*12) K (by simp) (by omega);refine⟨Ak h.T _ _,Dz h.cur (by rw[h.ul]; exact hr) v,by rw[List.length_set]; exact h.ul,hjn,fun i q hi hq=>?_,fun i q hi hq=>?_,⟨fun p hp=>?_,h.O.ne⟩,h.F.trans (F1.mono (fun p hp=>by rw[List.mem_singleton.1 hp]; simp)),BQ h.B _ _ _ h.lo_,Nat.lt_of_lt_of_le h.lt K.size,h.lo_⟩
 . obtain⟨q0,hq0,rfl⟩:=mkts_inv hq;obtain⟨h1,h2⟩:=h.old i _ hi hq;refine⟨Bf h1 (.inr (by rw[Tk.len]; omega)) v,h2.fl (lo:=lo) (fun p hp=>h.O.all p (List.mem_cons_of_mem _ (List.mem_flatMap.2 ⟨q0,List.mem_of_getElem? hq0,hp⟩))) F1 (fun p hp h0 s hs h1=>?_)⟩;rw[List.mem_singleton.1 hs];exact h.O.head (List.mem_of_getElem? hq0) hp (by simp only; omega) h0
 . exact Bf (h.new i q hi hq) (.inl (by omega)) v
 . rcases List.mem_cons.1 hp with rfl | h1
   . exact Mk.of_there (Ak h.T _ _) (Nat.lt_of_lt_of_le h.lt K.size) h.lo_
   . refine(h.O.all p hp).fl F1 (fun h2 s hs h3=>?_);rw[List.mem_singleton.1 hs];exact(List.pairwise_cons.1 h.O.ne).1 p h1 (by simp only; omega) h2
theorem MkSt.fr(h:MkSt lo w g n ts k j us W){q:Tk}(hq:ts[j]?=some q){D:Option Addr}{m d:Nat}(hD:(D,d)∈q.ps)(hmd:0<m->0<d)(F:Fr m D W W')(B:Below lo W W')(M:Mk lo W' D d):MkSt lo w g n ts k j us W':=by
 have hqm:=List.mem_of_getElem? hq;have hjn:=h.jn;have F1:Fl [(D,d)] W W':=Fl.of_fr F (fun h0=>⟨by simp,hmd h0⟩);have eg:W'.heap[g]?=W.heap[g]?:=F1.2 g h.lt (fun p hp h0 e=>by
  rw[List.mem_singleton.1 hp] at h0 e;exact h.O.head hqm hD (by simp only; omega) h0 e.symm)
 refine⟨fun i hi=>?_,Av h.cur eg,h.ul,hjn,fun i q' hi hq'=>?_,fun i q' hi hq'=>Av (h.new i q' hi hq') eg,⟨fun p hp=>?_,h.O.ne⟩,h.F.trans (F1.mono (fun p hp=>by rw[List.mem_singleton.1 hp]; exact List.mem_cons_of_mem _ (List.mem_flatMap.2 ⟨q,hqm,hD⟩))),h.B.trans B,Nat.lt_of_lt_of_le h.lt F.1,h.lo_⟩
 . obtain⟨a,b⟩:=h.T i hi;exact⟨by rw[World.cell?_of_block (a:=⟨g,0+i,none⟩) eg]; exact a,by rw[World.frozen?_of_block (a:=⟨g,0+i,none⟩) eg]; exact b⟩
 . obtain⟨q0,hq0,rfl⟩:=mkts_inv hq';obtain⟨h1,h2⟩:=h.old i _ hi hq';refine⟨Av h1 eg,h2.fl (lo:=lo) (fun p hp=>h.O.all p (List.mem_cons_of_mem _ (List.mem_flatMap.2 ⟨q0,List.mem_of_getElem? hq0,hp⟩))) F1 (fun p hp h0 s hs h3=>?_)⟩;rw[List.mem_singleton.1 hs] at h3 ⊢;exact h.O.apart hq hq0 (by omega) hD hp h3 h0
 . rcases List.mem_cons.1 hp with rfl | h1
   . refine(h.O.all _ hp).fl F1 (fun h2 s hs h3=>?_);rw[List.mem_singleton.1 hs] at h3 ⊢;exact fun e=>h.O.head hqm hD h2 h3 e.symm
   . by_cases e:p.1=D/\p.2=d
     . obtain⟨p1,p2⟩:=p;obtain⟨rfl,rfl⟩:=e;exact M
     . intro h2;have h4:0<d->p.1≠D:=fun h3 e1=>by
        obtain⟨q',hq',hp'⟩:=List.mem_flatMap.1 h1;obtain⟨i,hi,rfl⟩:=List.getElem_of_mem hq';by_cases hij:i=j
        . subst hij;rw[List.getElem?_eq_getElem hi] at hq;cases hq
          have hpw:=h.O.inner hq';simp only[Tk.ps,List.mem_cons,List.not_mem_nil,or_false] at hp' hD;simp only[Tk.ps,List.pairwise_cons,List.mem_cons,List.not_mem_nil,or_false] at hpw;obtain⟨w1,w2,_⟩:=hpw;rcases hp' with rfl | rfl | rfl<;>rcases hD with hD | hD | hD<;>simp only[Prod.mk.injEq] at hD<;>obtain⟨rfl,rfl⟩:=hD
          . exact e ⟨rfl,rfl⟩
          . exact w1 _ (.inl rfl) h2 h3 e1
          . exact w1 _ (.inr rfl) h2 h3 e1
          . exact w1 _ (.inl rfl) h3 h2 e1.symm
          . exact e ⟨rfl,rfl⟩
          . exact w2 _ rfl h2 h3 e1
          . exact w1 _ (.inr rfl) h3 h2 e1.symm
          . exact w2 _ rfl h3 h2 e1.symm
          . exact e ⟨rfl,rfl⟩
        . exact h.O.apart (List.getElem?_eq_getElem hi) hq hij hp' hD h2 h3 e1
       exact(h.O.all p hp).fl F1 (fun _ s hs h3=>by
        rw[List.mem_singleton.1 hs] at h3 ⊢;exact fun e1=>h4 h3 e1.symm) h2
end Go.Proofs.Ytbeohbhhmcjokaa
