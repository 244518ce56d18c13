import Derived.Test.YtbeohbhhmcjokaaZSvQ
set_option linter.all false
set_option maxRecDepth 100000
set_option maxHeartbeats 8000000
open Go.Lib
namespace Go.Proofs.Ytbeohbhhmcjokaa
open Go.RowKit
open M
theorem EC(A:Option Addr)(n c:Nat)(y z:Value)(ts:List Tk)(x:Int)(w:World)(T:Tracks w A n ts)(hn:n<=1000000)(ha:Asc ts) :
 Calls Try.prog 66 #[.agg #[.slice A n c,y,z],.int .i64 x] w (Hz w n ts x):=by
 have D0:=hid (CellsAt.new w w.heap.size [.slice A n c,y,z] 27 rfl);have B0:=hid (Ab (Ac w) (.cells [.slice A n c,y,z].toArray 27));replace T:=hid (T.step B0.out);have x0:=D0.out.cell 0 _ rfl;go_enter Try.func66,Try.ntmps66;go_wp2_with fail;refine(HL A n c ts x _ T.out hn ha).mono ?_;rintro e w1 ⟨p,h1,h2,h3,rfl,B⟩;have R:=hid (show Hz w n ts x (.returned (.tuple #[.int .i64 p,.bool (decide (p<n)&&decide ((ts.getD p kz).L.i=x))])) w1 from⟨p,h1,h2,h3,rfl,Aa B0.out B⟩);clear h1 h2 h3 B x0;generalize (decide (p<n)&&decide ((ts.getD p kz).L.i=x))=bb at *;go_wp2
 go_ret2
 exact R.out
theorem M.tkn_of{ts:List Tk}{n p:Nat}{x:Int}(hl:ts.length=n)(ha:Asc ts)(h1:p<=n)(h2:∀ t,t<p->(ts.getD t kz).L.i<x)(h3:∀ t,p<=t->t<n->x<=(ts.getD t kz).L.i) :
 (decide (p<n)&&decide ((ts.getD p kz).L.i=x))=decide (tkn ts x<n)/\(tkn ts x<n->tkn ts x=p):=by
 by_cases h:p<n/\(ts.getD p kz).L.i=x
 . have e:=tkn_at (k:=p) (ts:=ts) (x:=x) (by omega) h.2 (fun j hj=>by have:=h2 j hj; omega);rw[e,decide_eq_true h.1,decide_eq_true h.2];exact⟨rfl,fun _=>rfl⟩
 . have e:=tkn_no (ts:=ts) (x:=x) (fun j hj=>by
    by_cases hjp:j<p
    . have:=h2 j hjp; omega
    . intro e;have hpn:p<n:=by omega
      have hne:(ts.getD p kz).L.i≠x:=fun e'=>h ⟨hpn,e'⟩;have h4:=h3 p (Nat.le_refl _) hpn;by_cases hjq:j=p
      . subst hjq; exact hne e
      . have:=ha p j (by omega) hj;omega)
   rw[e,hl,decide_eq_false (Nat.lt_irrefl _)];refine⟨?_,fun h=>absurd h (Nat.lt_irrefl _)⟩;by_cases h5:p<n
   . rw[decide_eq_false (fun e'=>h ⟨h5,e'⟩),Bool.and_false]
   . rw[decide_eq_false h5,Bool.false_and]
def M.topO(ts:List Tk)(ks gs:List Int)(x:Int):Option (List En):=if svB ts ks gs then (if tkn ts x<ts.length then some (ts.getD (tkn ts x) kz).es else none) else none
theorem Gc(A:Option Addr)(n c:Nat)(H:Option Addr)(m d:Nat)(G:Option Addr)(l e:Nat)(ts:List Tk)(ks gs:List Int)(x:Int)(w:World)(T:Tracks w A n ts)(K:Ints w H m ks)(S:Ints w G l gs)(hn:n<=281474976710656)(hm:m<=281474976710656)(hl:l<=281474976710656)(hes:∀ q∈ts,q.l<=2000000) :
 Calls Try.prog 35 #[.agg #[.slice A n c,.slice H m d,.slice G l e],.int .i64 x] w (Made w (.bool (topO ts ks gs x).isSome) ((topO ts ks gs x).getD [])):=by
 have hT:=hid T.len;have D0:=hid (CellsAt.new w w.heap.size [.slice A n c,.slice H m d,.slice G l e] 27 rfl);have B0:=hid (Ab (Ac w) (.cells #[.slice A n c,.slice H m d,.slice G l e] 27));replace T:=hid (T.step B0.out);replace K:=hid (K.step B0.out);replace S:=hid (S.step B0.out);obtain⟨x0,x1,x2⟩:=AX D0.out;cases hv:svB ts ks gs
 . have E:=hid (show topO ts ks gs x=none by rw[topO,hv]; rfl);rw[E.out];replace hv:=hid hv;go_enter Try.func35,Try.ntmps35;go_wp2_with fail;refine(AM A n c H m d G l e ts ks gs false hv.out _ T.out K.out S.out hn hm hl).mono ?_;rintro e w1 ⟨rfl,B⟩;replace B0:=hid (Aa B0.out B);clear B x0 x1 x2;go_wp2
   go_ret2
   exact⟨_,rfl,AP (Az w1 w1.heap.size _ rfl (Nat.le_refl _)) B0.out.size,Ab B0.out _⟩
 have hasc:=hid (svB_asc hv);have hn4:n<=4:=by have:=(svB_len hv).2.1; have:=hT.out; omega
 replace hv:=hid hv;by_cases hf:tkn ts x<ts.length
 rotate_left
 . have E:=hid (show topO ts ks gs x=none by rw[topO,hv.out,if_pos rfl,if_neg hf]);rw[E.out];have hfn:¬ tkn ts x<n:=by have:=hT.out; omega
   replace hf:=hid hf;go_enter Try.func35,Try.ntmps35;go_wp2_with fail;refine(AM A n c H m d G l e ts ks gs true hv.out _ T.out K.out S.out hn hm hl).mono ?_;rintro e w1 ⟨rfl,B⟩;replace D0:=hid (D0.out.step B);replace T:=hid (T.out.step B);replace K:=hid (K.out.step B);replace S:=hid (S.out.step B);replace B0:=hid (Aa B0.out B);clear B;replace x0:=D0.out.cell 0 _ rfl;replace x1:=D0.out.cell 1 _ rfl;replace x2:=D0.out.cell 2 _ rfl;go_wp2_with fail;refine(EC A n c _ _ ts x _ T.out (by omega) hasc.out).mono ?_;rintro e w2 ⟨p,h1,h2,h3,rfl,B⟩;rw[(tkn_of hT.out hasc.out h1 h2 h3).1,decide_eq_false hfn];replace B0:=hid (Aa B0.out B)
   clear B h1 h2 h3 x0 x1 x2 hfn;go_wp2
   go_ret2
   exact⟨_,rfl,AP (Az w2 w2.heap.size _ rfl (Nat.le_refl _)) B0.out.size,Ab B0.out _⟩
 have hfn:tkn ts x<n:=by have:=hT.out; omega
 have E:=hid (show topO ts ks gs x=some (ts.getD (tkn ts x) kz).es by rw[topO,hv.out,if_pos rfl,if_pos hf]);obtain⟨q,hq⟩:∃ q,ts[tkn ts x]?=some q:=⟨_,List.getElem?_eq_getElem hf⟩;have gq:ts.getD (tkn ts x) kz=q:=by rw[List.getD_eq_getElem?_getD,hq]; rfl
 rw[gq] at E;rw[E.out]
 show Calls _ _ _ _ (Made w (.bool true) q.es)
 have hql:=hid (hes q (List.mem_of_getElem? hq));replace hq:=hid hq;replace hfn:=hid hfn;clear E gq hf;go_enter Try.func35,Try.ntmps35;go_wp2_with fail;refine(AM A n c H m d G l e ts ks gs true hv.out _ T.out K.out S.out hn hm hl).mono ?_;rintro e w1 ⟨rfl,B⟩;replace D0:=hid (D0.out.step B);replace T:=hid (T.out.step B);replace K:=hid (K.out.step B);replace S:=hid (S.out.step B);replace B0:=hid (Aa B0.out B);clear B;replace x0:=D0.out.cell 0 _ rfl;replace x1:=D0.out.cell 1 _ rfl;replace x2:=D0.out.cell 2 _ rfl;go_wp2_with fail;refine(EC A n c _ _ ts x _ T.out (by omega) hasc.out).mono ?_;rintro e w2 ⟨p,h1,h2,h3,rfl,B⟩
 obtain⟨hb,hp⟩:=tkn_of hT.out hasc.out h1 h2 h3;rw[hb,decide_eq_true hfn.out];have hq2:=hq.out;rw[hp hfn.out] at hq2;have hpn:p<n:=by have:=hp hfn.out; have:=hfn.out; omega
 replace hq2:=hid hq2;replace D0:=hid (D0.out.step B);replace T:=hid (T.out.step B);replace K:=hid (K.out.step B);replace S:=hid (S.out.step B);replace B0:=hid (Aa B0.out B);clear B;replace x0:=D0.out.cell 0 _ rfl;replace x1:=D0.out.cell 1 _ rfl;replace x2:=D0.out.cell 2 _ rfl;clear h1 h2 h3 hb hp K S;obtain⟨b,off,eA,_⟩:=T.out.at_ (by omega);subst eA;have c11:w2.cell? ⟨b,off+p*12+11,none⟩=some (.slice q.D q.l q.cc):=T.out.rng hq2.out 11 _ rfl;have hlI:(p:Int)<(n:Int):=by omega
 have YE:=hid ((T.out.all q (List.mem_of_getElem? hq2.out)).E);go_wp2_with fail;refine(EG q.D q.l q.cc q.es _ YE.out hql.out).mono ?_;rintro e w3 ⟨v,rfl,O,B⟩;have R:=hid (show Made w (.bool true) q.es (.returned (.tuple #[v,.bool true])) w3 from⟨v,rfl,AP O B0.out.size,Aa B0.out B⟩);clear O B x0 x1 x2 c11;go_wp2
 go_ret2
 exact R.out
theorem Tracks.lt0{W:World}{b off n:Nat}{ts:List Tk}(h:Tracks W (some ⟨b,off,none⟩) n ts)(hn:0<n):b<W.heap.size:=by
 obtain⟨b',off',e,hb,_⟩:=h.at_ hn;cases e
 exact hb
theorem Gd(A:Option Addr)(n c:Nat)(H:Option Addr)(m d:Nat)(G:Option Addr)(l e:Nat)(ts:List Tk)(ks gs:List Int)(x:Int)(w:World)(T:Tracks w A n ts)(K:Ints w H m ks)(S:Ints w G l gs)(hn:n<=281474976710656)(hm:m<=281474976710656)(hl:l<=281474976710656)(hes:∀ q∈ts,q.l<=2000000) :
 Calls Try.prog 34 #[.agg #[.slice A n c,.slice H m d,.slice G l e],.int .i64 x] w (Made w (.bool (topO ts ks gs x).isSome) ((topO ts ks gs x).getD [])):=by
 have hT:=hid T.len;have TA:=hid T.at_;have D0:=hid (CellsAt.new w w.heap.size [.slice A n c,.slice H m d,.slice G l e] 27 rfl);have B0:=hid (Ab (Ac w) (.cells #[.slice A n c,.slice H m d,.slice G l e] 27));replace T:=hid (T.step B0.out);replace K:=hid (K.step B0.out);replace S:=hid (S.step B0.out);obtain⟨x0,x1,x2⟩:=AX D0.out;cases hv:svB ts ks gs
 . have E:=hid (show topO ts ks gs x=none by rw[topO,hv]; rfl);rw[E.out];replace hv:=hid hv;go_enter Try.func34,Try.ntmps34;go_wp2_with fail;refine(AL A n c H m d G l e ts ks gs false hv.out _ T.out K.out S.out hn hm hl).mono ?_;rintro e w1 ⟨rfl,B⟩;replace B0:=hid (Aa B0.out B);clear B x0 x1 x2;go_wp2
   go_ret2
   exact⟨_,rfl,AP (Az w1 w1.heap.size _ rfl (Nat.le_refl _)) B0.out.size,Ab B0.out _⟩
 have hasc:=hid (svB_asc hv);by_cases hf:tkn ts x<ts.length
 rotate_left
 . have E:=hid (show topO ts ks gs x=none by rw[topO,hv,if_pos rfl,if_neg hf]);have hki:=hid (show tki ts x=-1 by rw[tki,if_neg hf]);rw[E.out];replace hv:=hid hv;go_enter Try.func34,Try.ntmps34;go_wp2_with fail;refine(AL A n c H m d G l e ts ks gs true hv.out _ T.out K.out S.out hn hm hl).mono ?_;rintro e w1 ⟨rfl,B⟩;replace D0:=hid (D0.out.step B);replace T:=hid (T.out.step B);replace K:=hid (K.out.step B);replace S:=hid (S.out.step B);replace B0:=hid (Aa B0.out B);clear B;replace x0:=D0.out.cell 0 _ rfl;replace x1:=D0.out.cell 1 _ rfl;replace x2:=D0.out.cell 2 _ rfl;go_wp2_with fail
   refine(AS A n c _ _ rfl rfl ts x _ T.out hn).mono ?_;rintro e w2 ⟨rfl,B⟩;rw[hki.out];replace B0:=hid (Aa B0.out B);clear B x0 x1 x2;go_wp2
   go_ret2
   exact⟨_,rfl,AP (Az w2 w2.heap.size _ rfl (Nat.le_refl _)) B0.out.size,Ab B0.out _⟩
 have hpn:tkn ts x<n:=by have:=hT.out; omega
 have E:=hid (show topO ts ks gs x=some (ts.getD (tkn ts x) kz).es by rw[topO,hv,if_pos rfl,if_pos hf]);have hki:=hid (show tki ts x=(tkn ts x:Int) by rw[tki,if_pos hf]);obtain⟨q,hq⟩:∃ q,ts[tkn ts x]?=some q:=⟨_,List.getElem?_eq_getElem hf⟩;have gq:ts.getD (tkn ts x) kz=q:=by rw[List.getD_eq_getElem?_getD,hq]; rfl
 rw[gq] at E;rw[E.out]
 show Calls _ _ _ _ (Made w (.bool true) q.es)
 generalize tkn ts x=p at *;have hql:=hid (hes q (List.mem_of_getElem? hq));have hle:=hid ((T.out.all q (List.mem_of_getElem? hq)).E.1);replace hq:=hid hq;replace hv:=hid hv;obtain⟨b,off,eA,hbw⟩:∃ b off,A=some ⟨b,off,none⟩/\b<w.heap.size:=by
  obtain⟨b,off,e,hb,_⟩:=TA.out (by omega);exact⟨b,off,e,hb⟩
 subst eA;replace hbw:=hid hbw;have hlI:(p:Int)<(n:Int):=by omega
 have hp0:decide ((p:Int)<0)=false:=decide_eq_false (by omega);clear gq E hf;go_enter Try.func34,Try.ntmps34;go_wp2_with fail;refine(AL _ n c H m d G l e ts ks gs true hv.out _ T.out K.out S.out hn hm hl).mono ?_;rintro e w1 ⟨rfl,B⟩;replace D0:=hid (D0.out.step B);replace T:=hid (T.out.step B);replace K:=hid (K.out.step B);replace S:=hid (S.out.step B);replace B0:=hid (Aa B0.out B);clear B;replace x0:=D0.out.cell 0 _ rfl;replace x1:=D0.out.cell 1 _ rfl;replace x2:=D0.out.cell 2 _ rfl;go_wp2_with fail;refine(AS _ n c _ _ rfl rfl ts x _ T.out hn).mono ?_;rintro e w2 ⟨rfl,B⟩;rw[hki.out];replace D0:=hid (D0.out.step B)
 replace T:=hid (T.out.step B);replace K:=hid (K.out.step B);replace S:=hid (S.out.step B);replace B0:=hid (Aa B0.out B);clear B;replace x0:=D0.out.cell 0 _ rfl;replace x1:=D0.out.cell 1 _ rfl;replace x2:=D0.out.cell 2 _ rfl;clear K S;go_wp2_with fail;refine wp_region_held_drew (S:=fun w'=>CellsAt w' w.heap.size [.slice (some ⟨b,off,none⟩) n c,.slice H m d,.slice G l e]/\w'.rangeAt b (off+p*12) q.cs) (by kernel_rfl) ⟨D0.out.drew,T.out.drew.rng hq.out⟩ (fun hHeld=>?_);replace D0:=hid (D0.out.drew);replace T:=hid (T.out.drew);replace B0:=hid (Af B0.out);clear x0 x1 x2;refine tl 1 ?_ ?_ hHeld ?_;rotate_left
 . intro w hSw
   try dsimp only at hSw
   go_simp
   all_goals with_reducible rfl
 try simp only[Act.put,sx]
 refine tl 2 ?_ ?_ hHeld ?_;rotate_left
 . intro w hSw;have u0:=hSw.1.cell 0 _ rfl;go_simp
   all_goals with_reducible rfl
 try simp only[Act.put,sx]
 refine wpAnyH_take (i:=3) (oi:=_) (v:=.agg ([.slice (some ⟨b,off,none⟩) n c,.slice H m d,.slice G l e]).toArray) rfl (by kernel_rfl) (by kernel_rfl) (by kernel_rfl) (fun _ _ _ h=>h) (yieldsIf_load_mid (by rfl) 27 (.tmp 2) rfl w.heap.size 0 rfl ([.slice (some ⟨b,off,none⟩) n c,.slice H m d,.slice G l e]) _ (fun W hS=>hS.1.range) Try.underlying27 rfl Aw) hHeld ?_
 try simp only[Act.put,sx]
 refine tl 4 ?_ ?_ hHeld ?_;rotate_left
 . intro w hSw
   try dsimp only at hSw
   go_simp
   all_goals with_reducible rfl
 try simp only[Act.put,sx]
 refine wpAnyH_ready (rs:=[0,5]) (by kernel_rfl) (by simp) ?_;refine(AllReadyH.cons (o:=_) rfl (fun K hK=>?_) (AllReadyH.cons (o:=_) rfl (fun K hK=>?_) AllReadyH.nil))
 . skip
   dsimp only[List.getElem_toArray,List.getElem_cons_succ,List.getElem_cons_zero];rw[if_pos (by rfl)];refine Ck rfl ?_;intro g0 wn S9 hg0 E0;have hU:w.heap.size<g0:=Nat.lt_of_lt_of_le D0.out.lt hg0;replace D0:=hid (D0.out.step S9);replace T:=hid (T.out.step S9);replace B0:=hid (Aa B0.out S9);replace E0:=hid E0;clear S9 hHeld;refine hK.out _ _ ⟨D0.out,T.out.rng hq.out⟩ (fun hHeld=>?_);clear hK K
   try simp only[Act.put,sx]
   refine wpAnyH_ready (rs:=[5]) (by kernel_rfl) (by simp) ?_;apply AllReadyH.cons rfl ?_ AllReadyH.nil;intro K hK;go_simp
   go_at_call 59
   refine(AS _ n c _ _ rfl rfl ts x _ T.out hn).mono ?_;rintro e wn ⟨rfl,S9⟩;replace D0:=hid (D0.out.step S9);replace T:=hid (T.out.step S9);replace B0:=hid (Aa B0.out S9);replace E0:=hid (CY E0.out S9);clear S9;rw[hki.out];clear hHeld;go_wp2_with fail;refine hK.out _ _ ⟨D0.out,T.out.rng hq.out⟩ (fun hHeld=>?_);clear hK K
   try simp only[Act.put,sx]
   refine tl 6 ?_ ?_ hHeld ?_;rotate_left
   . intro w hSw
     try dsimp only at hSw
     go_simp
     all_goals with_reducible rfl
   try simp only[Act.put,sx]
   refine tl 7 ?_ ?_ hHeld ?_;rotate_left
   . intro w hSw
     try dsimp only at hSw
     go_simp
     all_goals with_reducible rfl
   try simp only[Act.put,sx]
   refine tl 8 ?_ ?_ hHeld ?_;rotate_left
   . intro w hSw;have u11:w.cell? ⟨b,off+p*12+11,none⟩=some (.slice q.D q.l q.cc):=hSw.2 11 _ rfl;go_simp
     all_goals with_reducible rfl
   try simp only[Act.put,sx]
   refine wpAnyH_ready (rs:=[9]) (by kernel_rfl) (by simp) ?_;apply AllReadyH.cons rfl ?_ AllReadyH.nil;intro K hK;dsimp only[List.getElem_toArray,List.getElem_cons_succ,List.getElem_cons_zero];rw[if_pos (by rfl)];refine Bs (.tmp 16) (.tmp 24) rfl g0 _ 0 [] rfl E0.out q.D q.l q.cc q.es rfl (T.out.all q (List.mem_of_getElem? hq.out)).E (by have:=hql.out; omega) (Nat.le_of_lt (E0.out.lt g0 rfl).2) ?_;intro v9 wn E9 G9;have own:∀ q,Value.ownBlock _=some q->g0<=q:=fun q e=>(E0.out.lt q e).1;replace D0:=hid (D0.out.grown G9 (fun e=>by have:=own _ e; omega));replace B0:=hid (B0.out.grown G9 B0.out.size (fun q e=>by have:=own _ e; omega))
   have rg:=hid (Av (T.out.rng hq.out) (G9.block b (T.out.lt0 (by omega)) (fun e=>by have:=own _ e.symm; have:=hbw.out; omega)));replace E0:=hid (show wn.ownsRow w.heap.size 88 2 v9 q.es.length (BF q.es) from AP (by rw[hle.out]; simpa using E9) (Nat.le_of_lt hU));clear G9 E9 own T hHeld;refine hK.out _ _ ⟨D0.out,rg.out⟩ (fun hHeld=>?_);clear hK K
   try simp only[Act.put,sx]
   refine tl 10 ?_ ?_ hHeld ?_;rotate_left
   . intro w hSw
     try dsimp only at hSw
     go_simp
     all_goals with_reducible rfl
   try simp only[Act.put,sx]
   refine tl 11 ?_ ?_ hHeld ?_;rotate_left
   . intro w hSw
     try dsimp only at hSw
     go_simp
     all_goals with_reducible rfl
   try simp only[Act.put,sx]
   refine wpAnyH_done (by kernel_rfl) ?_ _;go_wp2
   go_ret2
   exact⟨_,rfl,E0.out,B0.out⟩
 . skip
   go_simp
   go_at_call 59
   refine(AS _ n c _ _ rfl rfl ts x _ T.out hn).mono ?_;rintro e wn ⟨rfl,S9⟩;replace D0:=hid (D0.out.step S9);replace T:=hid (T.out.step S9);replace B0:=hid (Aa B0.out S9);clear S9;rw[hki.out];clear hHeld;go_wp2_with fail;refine hK.out _ _ ⟨D0.out,T.out.rng hq.out⟩ (fun hHeld=>?_);clear hK K
   try simp only[Act.put,sx]
   refine tl 6 ?_ ?_ hHeld ?_;rotate_left
   . intro w hSw
     try dsimp only at hSw
     go_simp
     all_goals with_reducible rfl
   try simp only[Act.put,sx]
   refine tl 7 ?_ ?_ hHeld ?_;rotate_left
   . intro w hSw
     try dsimp only at hSw
     go_simp
     all_goals with_reducible rfl
   try simp only[Act.put,sx]
   refine tl 8 ?_ ?_ hHeld ?_;rotate_left
   . intro w hSw;have u11:w.cell? ⟨b,off+p*12+11,none⟩=some (.slice q.D q.l q.cc):=hSw.2 11 _ rfl;go_simp
     all_goals with_reducible rfl
   try simp only[Act.put,sx]
   refine wpAnyH_ready (rs:=[0]) (by kernel_rfl) (by simp) ?_;apply AllReadyH.cons rfl ?_ AllReadyH.nil;intro K hK;dsimp only[List.getElem_toArray,List.getElem_cons_succ,List.getElem_cons_zero];rw[if_pos (by rfl)];refine Ck rfl ?_;intro g0 wn S9 hg0 E0;have hU:w.heap.size<g0:=Nat.lt_of_lt_of_le D0.out.lt hg0;replace D0:=hid (D0.out.step S9);replace T:=hid (T.out.step S9);replace B0:=hid (Aa B0.out S9);replace E0:=hid E0;clear S9 hHeld;refine hK.out _ _ ⟨D0.out,T.out.rng hq.out⟩ (fun hHeld=>?_);clear hK K
   try simp only[Act.put,sx]
   refine wpAnyH_ready (rs:=[9]) (by kernel_rfl) (by simp) ?_;apply AllReadyH.cons rfl ?_ AllReadyH.nil;intro K hK;dsimp only[List.getElem_toArray,List.getElem_cons_succ,List.getElem_cons_zero];rw[if_pos (by rfl)];refine Bs (.tmp 16) (.tmp 24) rfl g0 _ 0 [] rfl E0.out q.D q.l q.cc q.es rfl (T.out.all q (List.mem_of_getElem? hq.out)).E (by have:=hql.out; omega) (Nat.le_of_lt (E0.out.lt g0 rfl).2) ?_;intro v9 wn E9 G9;have own:∀ q,Value.ownBlock _=some q->g0<=q:=fun q e=>(E0.out.lt q e).1;replace D0:=hid (D0.out.grown G9 (fun e=>by have:=own _ e; omega));replace B0:=hid (B0.out.grown G9 B0.out.size (fun q e=>by have:=own _ e; omega))
   have rg:=hid (Av (T.out.rng hq.out) (G9.block b (T.out.lt0 (by omega)) (fun e=>by have:=own _ e.symm; have:=hbw.out; omega)));replace E0:=hid (show wn.ownsRow w.heap.size 88 2 v9 q.es.length (BF q.es) from AP (by rw[hle.out]; simpa using E9) (Nat.le_of_lt hU));clear G9 E9 own T hHeld;refine hK.out _ _ ⟨D0.out,rg.out⟩ (fun hHeld=>?_);clear hK K
   try simp only[Act.put,sx]
   refine tl 10 ?_ ?_ hHeld ?_;rotate_left
   . intro w hSw
     try dsimp only at hSw
     go_simp
     all_goals with_reducible rfl
   try simp only[Act.put,sx]
   refine tl 11 ?_ ?_ hHeld ?_;rotate_left
   . intro w hSw
     try dsimp only at hSw
     go_simp
     all_goals with_reducible rfl
   try simp only[Act.put,sx]
   refine wpAnyH_done (by kernel_rfl) ?_ _;go_wp2
   go_ret2
   exact⟨_,rfl,E0.out,B0.out⟩
end Go.Proofs.Ytbeohbhhmcjokaa
