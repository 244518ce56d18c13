import Derived.Test.YtgghhedkephohaaZEnQ
import Derived.Deep.CutRange
set_option linter.all false
set_option maxRecDepth 100000
set_option maxHeartbeats 8000000
open Go.Lib
namespace Go.Proofs.Ytgghhedkephohaa
open Go.RowKit
open M
theorem M.lead_next{xs:List En}{s:Int}:∀{k:Nat},k<lead xs s->k<xs.length/\(xs.getD k ez).s<=s:=fun {k} hk=>by
 have h:=Ap xs s;refine⟨by omega,?_⟩;rw[gd (show k<xs.length by omega)];exact AU (xs:=xs) (List.mem_take_iff_getElem.2 ⟨k,by omega,rfl⟩)
theorem M.lead_stop:∀{xs:List En} {s:Int},lead xs s<xs.length->s<(xs.getD (lead xs s) ez).s
 | [],_,h=>absurd h (by simp)
 | q::xs,s,h=>by
  unfold lead at h ⊢;split
  . next e=>rw[if_pos e] at h; simpa using lead_stop (xs:=xs) (by simpa using h)
  . next e=>simpa using e
theorem Ents.cut{w:World}{g n c k:Nat}{xs:List En}(h:Ents w (some ⟨g,0,none⟩) n xs)(hc:n<=c)(hk:k<=n):Ents w (if c=k then some ⟨g,0,none⟩ else some ⟨g,k*2,none⟩) (n-k) (xs.drop k) :=
 ⟨by rw[List.length_drop,h.1],fun h0=>by
  obtain⟨b,off,e,hb,hcell⟩:=h.2 (by omega);cases e
  rw[if_neg (by omega)];refine⟨g,k*2,rfl,hb,fun j hj=>?_⟩;have t:=hcell (k+j) (by omega);have e2:(xs.drop k).getD j ez=xs.getD (k+j) ez:=by simp[List.getD_eq_getElem?_getD,List.getElem?_drop]
  rw[e2,show k*2+j*2=0+(k+j)*2 by omega];exact t⟩
def FD(w2:World)(rs:List En)(s:Int)(iv:Value)(W:World):Prop:=∃ k m:Nat,k<=lead rs s/\iv=.int .i64 k/\w2.drewN m=W
theorem Ao(w:World)(m k:Nat):w.drewN (m+k)=(w.drewN m).drewN k:=by simp[World.drewN,Nat.add_assoc]
theorem C8(A:Option Addr)(n cap:Nat)(xs:List En)(p s:Int)(w:World)(Y:Ents w A n xs)(hn:n<=1048576) :
 Calls Try.prog 21 #[.slice A n cap,.agg #[.int .i64 p,.int .i64 s]] w (Made w (.int .i64 (Am xs ⟨p,s⟩).2) (Am xs ⟨p,s⟩).1):=by
 have hl:=hid Y.1;have Y:=hid Y;have D:CellsAt (w.alloc (.cells #[.int .i64 p,.int .i64 s] 25)) w.heap.size [.int .i64 p,.int .i64 s]:=CellsAt.new w _ _ _ rfl;have B:=hid (Ad (Ac w) (.cells #[.int .i64 p,.int .i64 s] 25));have D:=hid D;have d0:=D.out.cell 0 _ rfl;have d1:=D.out.cell 1 _ rfl;cases hv:F4 xs
 . have E:=hid (show Am xs ⟨p,s⟩=([],3) by rw[Am,hv]; rfl);rw[E.out];replace hv:=hid hv;go_enter Try.func21,Try.ntmps21;go_wp2_with fail;refine(AN A n cap xs _ (Y.out.step B.out) (by omega)).mono ?_;rintro e w1 ⟨rfl,BB⟩;rw[hv.out];replace D:=hid (D.out.step BB);replace B:=hid (Aa B.out BB);have d0:=D.out.cell 0 _ rfl;have d1:=D.out.cell 1 _ rfl;clear BB;go_wp2
   go_ret2
   exact⟨_,rfl,Af (Ah w1 w1.heap.size _ rfl (Nat.le_refl _)) B.out.size,Ad B.out _⟩
 cases ho:AR ⟨p,s⟩
 . have E:=hid (show Am xs ⟨p,s⟩=([],3) by rw[Am,hv,ho]; rfl);rw[E.out];replace hv:=hid hv;replace ho:=hid ho;go_enter Try.func21,Try.ntmps21;go_wp2_with fail;refine(AN A n cap xs _ (Y.out.step B.out) (by omega)).mono ?_;rintro e w1 ⟨rfl,BB⟩;rw[hv.out];replace D:=hid (D.out.step BB);replace B:=hid (Aa B.out BB);have d0:=D.out.cell 0 _ rfl;have d1:=D.out.cell 1 _ rfl;clear BB;go_wp2_with fail;refine(AP p s _).mono ?_;rintro e w1 ⟨rfl,BB⟩;rw[ho.out];replace D:=hid (D.out.step BB);replace B:=hid (Aa B.out BB);have d0:=D.out.cell 0 _ rfl;have d1:=D.out.cell 1 _ rfl;clear BB;go_wp2
   go_ret2
   exact⟨_,rfl,Af (Ah w1 w1.heap.size _ rfl (Nat.le_refl _)) B.out.size,Ad B.out _⟩
 have hb4:=(Aw.1 hv).len;rw[hl.out] at hb4;have E1:=hid (show Am xs ⟨p,s⟩=if 0<=AG xs p/\(xs.getD (Aj xs p) ez).s<=s then (xs,1) else if 4<=lead (As xs p) s then (xs,2) else (AK (As xs p) ⟨p,s⟩,0) by rw[Am,hv,ho]; rfl);have hwl:(As xs p).length<=n:=Nat.le_trans (List.length_filter_le _ _) (by have:=hl.out; omega);obtain⟨P,hP⟩:∃ P:Prop,P=(0<=AG xs p/\(xs.getD (Aj xs p) ez).s<=s):=⟨_,rfl⟩;have hP1:=hP;replace hP:=hid hP;generalize Am xs ⟨p,s⟩=R at *;replace hv:=hid hv;replace ho:=hid ho;go_enter Try.func21,Try.ntmps21;go_wp2_with fail;refine(AN A n cap xs _ (Y.out.step B.out) (by omega)).mono ?_;rintro e w1 ⟨rfl,BB⟩
 rw[hv.out];replace D:=hid (D.out.step BB);replace B:=hid (Aa B.out BB);have d0:=D.out.cell 0 _ rfl;have d1:=D.out.cell 1 _ rfl;clear BB;go_wp2_with fail;refine(AP p s _).mono ?_;rintro e w1 ⟨rfl,BB⟩;rw[ho.out];replace D:=hid (D.out.step BB);replace B:=hid (Aa B.out BB);have d0:=D.out.cell 0 _ rfl;have d1:=D.out.cell 1 _ rfl;clear BB;go_wp2_with fail;refine(AW A n cap xs p _ (Y.out.step B.out) (by omega)).mono ?_;rintro e w1 ⟨rfl,BB⟩;replace D:=hid (D.out.step BB);replace B:=hid (Aa B.out BB);have d0:=D.out.cell 0 _ rfl;have d1:=D.out.cell 1 _ rfl;clear BB;clear hv ho;go_upto_region 4 with fail
 go_cut [34] from 23 to 34 (fun v W=>∃ b:Bool,v=.bool b/\(b=true↔P)/\∃ m,w1.drewN m=W)
 case first =>
  by_cases h0:0<=AG xs p
  . obtain⟨hlt,he⟩:=Ep h0;rw[hl.out] at hlt;obtain⟨b,off,rfl,_,hc⟩:=(Y.out.step B.out).2 (by omega);have c1:=(hc (Aj xs p) hlt).c1;have g0:decide ((0:Int)<=(Aj xs p:Int))=true:=decide_eq_true (by omega);have hP2:P↔(xs.getD (Aj xs p) ez).s<=s:=by rw[hP1]; simp[h0]
    rw[he] at *;replace he:=hid he;clear hc h0 hP1;generalize (xs.getD (Aj xs p) ez).s=z at *;generalize Aj xs p=K at *;have hk5:IntKind.i64.wrap (K:Int)=(K:Int):=IntWalk.i64_in _ (by omega);by_cases hzs:z<=s
    . have gz:decide (z<=s)=true:=decide_eq_true hzs;have hq:=hid (hP2.2 hzs);clear hP2;go_wp2_with fail
      go_quiet (fail)
      go_wp2_with fail
      go_meet
      case rel=>exact⟨true,rfl,⟨fun _=>hq.out,fun _=>rfl⟩,_,rfl⟩
    . have gz:decide (z<=s)=false:=decide_eq_false hzs;have hq:=hid (mt hP2.1 hzs);clear hP2;go_wp2_with fail
      go_quiet (fail)
      go_wp2_with fail
      go_meet
      case rel=>exact⟨false,rfl,⟨fun c=>absurd c (by simp),fun c=>absurd c hq.out⟩,_,rfl⟩
  . have g0:decide ((0:Int)<=AG xs p)=false:=decide_eq_false h0;have hq:=hid (show ¬ P from fun c=>h0 (by rw[hP1] at c; exact c.1));replace h0:=hid h0;clear hP1;go_wp2_with fail
    go_quiet (fail)
    go_wp2_with fail
    go_meet
    case rel=>exact⟨false,rfl,⟨fun c=>absurd c (by simp),fun c=>absurd c hq.out⟩,_,rfl⟩
 obtain⟨b,rfl,hbi,m,rfl⟩:=hcut;replace D:=hid (D.out.step (Ai (Ac w1) m));replace B:=hid (Ai B.out m);generalize w1.drewN m=w1 at *;have d0:=D.out.cell 0 _ rfl;have d1:=D.out.cell 1 _ rfl;cases b
 rotate_left
 . have E:=hid (show R=(xs,1) by rw[E1.out,if_pos]; rw[<- hP.out]; exact hbi.1 rfl);clear hbi hP1;go_wp2_with (at_builtin; refine Al _ rfl (.tmp 35) (.tmp 36) rfl w.heap.size _ 0 [] rfl (Af (Ah _ _ _ rfl (Nat.le_refl _)) B.out.size) A n cap xs rfl ((Y.out.step B.out).alloc _) (by omega) (by have:=B.out.size; simp; omega) ?_);intro v' w9 O9 G9 _;have O9:=hid (show w9.ownsRow w.heap.size 25 2 v' xs.length (AM xs) from(by rw[hl.out]; simpa using O9));have H9:=hid ((Ad B.out _).grown G9 (by have:=B.out.size; simp; omega) (fun g e=>by cases e; exact B.out.size));clear G9;go_wp2
   go_ret2
   rw[E.out];exact⟨_,rfl,O9.out,H9.out⟩
 have E:=hid (show R=if 4<=lead (As xs p) s then (xs,2) else (AK (As xs p) ⟨p,s⟩,0) by rw[E1.out,if_neg]; rw[<- hP.out]; intro c; exact absurd (hbi.2 c) (by simp));clear hbi hP1 E1 hP;have hB:=B.out.size;go_wp2_with fail;refine(EF A n cap xs p _ (Y.out.step B.out) (by omega)).mono ?_;rintro e w2 ⟨v,rfl,O,BB⟩;replace D:=hid (D.out.step BB);replace B:=hid (Aa B.out BB);replace O:=hid (Af O hB);clear BB d0 d1;generalize As xs p=rs at *;obtain⟨A2,c2,rfl,_,_⟩:=Ents.of_own O.out;have hc2:=Be O.out;have hle:=Ap rs s;go_wp2
 go_loopw [8] (FD w2 rs s) (fun i _=>rs.length-(RowKit.intOf i).toNat)
 case atStart=>exact⟨0,0,Nat.zero_le _,rfl,rfl⟩
 case round =>
  obtain⟨k,m1,hk,rfl,hW⟩:=hrel;have hW:=hid hW;have bs:Below w2.heap.size w2 wr:=hW.out▸Ai (Ac w2) m1;have D1:=hid (D.out.step bs);have B1:=hid (Aa B.out bs);have O1:=hid (Ak O.out bs);have d1:=D1.out.cell 1 _ rfl;clear bs;go_upto_region 8 with fail
  go_cut [55] from 42 to 57 (fun v W=>v=.bool (decide (k<lead rs s))/\∃ m,wr.drewN m=W)
  case first =>
   by_cases hkn:k<rs.length
   . have g0:decide ((k:Int)<(rs.length:Int))=true:=decide_eq_true (by omega);have g1:decide (k<rs.length)=true:=decide_eq_true hkn;obtain⟨_,_,e2,I2,_⟩:=Ents.of_own O1.out;cases e2
     obtain⟨b,off,rfl,_,hc⟩:=I2.2 (by omega);have c1:=(hc k hkn).c1;clear hc I2;by_cases hkl:k<lead rs s
     . have hz:=(lead_next hkl).2;have gd':=hid (show decide (k<lead rs s)=true from decide_eq_true hkl);generalize (rs.getD k ez).s=z at *;have gz:decide (z<=s)=true:=decide_eq_true hz;clear hz hkl;go_wp2_with fail
       go_quiet (fail)
       go_wp2_with fail
       go_meet
       case rel=>exact⟨by rw[gd'.out],_,rfl⟩
     . obtain rfl:k=lead rs s:=by omega
       have hz:=lead_stop hkn;have gd':=hid (show decide (lead rs s<lead rs s)=false from decide_eq_false (by omega));generalize (rs.getD (lead rs s) ez).s=z at *;have gz:decide (z<=s)=false:=decide_eq_false (by omega);clear hz hkl;go_wp2_with fail
       go_quiet (fail)
       go_wp2_with fail
       go_meet
       case rel=>exact⟨by rw[gd'.out],_,rfl⟩
   . have g0:decide ((k:Int)<(rs.length:Int))=false:=decide_eq_false (by omega);have g1:decide (k<rs.length)=false:=decide_eq_false hkn;have gd':=hid (show decide (k<lead rs s)=false from decide_eq_false (by omega));go_wp2_with fail
     go_quiet (fail)
     go_wp2_with fail
     go_meet
     case rel=>exact⟨by rw[gd'.out],_,rfl⟩
  obtain⟨rfl,m2,rfl⟩:=hcut;by_cases hkl:k<lead rs s
  . have gk:decide (k<lead rs s)=true:=decide_eq_true hkl;go_wp2
    go_roundw
    case rel =>
     exact⟨k+1,m1+m2,hkl,by go_num,by rw[<- hW.out]; exact Ao w2 m1 m2⟩
    case measure=>simp[RowKit.intOf]; omega
  obtain rfl:k=lead rs s:=by omega
  have D2:=hid (D1.out.step (Ai (Ac wr) m2));have B2:=hid (Ai B1.out m2);have O2:=hid (Ak O1.out (Ai (Ac wr) m2));generalize wr.drewN m2=w3 at *;have gk:decide (lead rs s<lead rs s)=false:=decide_eq_false (by omega);rw[gk];clear D1 B1 O1 d1 hkl hW D B O;by_cases h4:4<=lead rs s
  . have E:=hid (show R=(xs,2) by rw[E.out,if_pos h4]);have g4:decide ((4:Int)<=(lead rs s:Int))=true:=decide_eq_true (by omega);have g5:decide (4<=lead rs s)=true:=decide_eq_true (by omega);have B:=B2;go_wp2_with (at_builtin; refine Al _ rfl (.tmp 60) (.tmp 61) rfl w.heap.size _ 0 [] rfl (Af (Ah _ _ _ rfl (Nat.le_refl _)) B.out.size) A n cap xs rfl ((Y.out.step B.out).alloc _) (by omega) (by have:=B.out.size; simp; omega) ?_);intro v' w9 O9 G9 _;have O9:=hid (show w9.ownsRow w.heap.size 25 2 v' xs.length (AM xs) from(by rw[hl.out]; simpa using O9))
    have H9:=hid ((Ad B.out _).grown G9 (by have:=B.out.size; simp; omega) (fun g e=>by cases e; exact B.out.size));clear G9;go_wp2
    go_ret2
    rw[E.out];exact⟨_,rfl,O9.out,H9.out⟩
  have E:=hid (show R=(AK rs ⟨p,s⟩,0) by rw[E.out,if_neg h4]);have g4:decide ((4:Int)<=(lead rs s:Int))=false:=decide_eq_false (by omega);have g5:decide (4<=lead rs s)=false:=decide_eq_false (by omega);have hlc:lead rs s<=c2:=by omega
  have hlc2:(lead rs s:Int)<=(c2:Int):=by omega
  have X:=D2.out;go_upto_region 12 with fail;have hw3:=B2.out.size;have hXl:=X.lt
  go_cut [9] from 63 to 74 (fun v W=>∃ N,W.ownsRow w3.heap.size 25 2 v N (AM (rs.take (lead rs s)++⟨p,s⟩::rs.drop (lead rs s)))/\N=rs.length+1/\CellsAt W w.heap.size [.int .i64 p,.int .i64 s]/\Below w3.heap.size w3 W)
  case first =>
   rcases O2.out.2 with⟨e2,h0⟩ | ⟨g,cp,cur,e2,hgB,hgh,_⟩
   . injection e2 with eA eL ec;subst eA;subst ec;have hr0:rs=[]:=List.eq_nil_of_length_eq_zero eL;have hk0:lead rs s=0:=by omega
     have I66:=hid (fun W (_:Below w3.heap.size w3 W)=>(show Ents W none 0 (rs.take (lead rs s)) from by rw[hr0]; exact Ents.nil _ _));have I73:=hid (fun W (_:Below w3.heap.size w3 W)=>(show Ents W none 0 (rs.drop (lead rs s)) from by rw[hr0]; exact Ents.nil _ _));have Hb:=hid (show Below w3.heap.size w3 w3.drew from(Ac w3).drew);have eL2:rs.length=0:=eL;replace hr0:=hid hr0;refine wp_region_held_drew (S:=fun w'=>CellsAt w' w.heap.size [.int .i64 p,.int .i64 s]) (by kernel_rfl) X.drew (fun hHeld=>?_);replace X:=X.drew;refine tl 1 ?_ ?_ hHeld ?_;rotate_left
     . intro w hSw
       try dsimp only at hSw
       go_simp
       all_goals with_reducible rfl
     try simp only[Act.put,sx]
     refine tl 2 ?_ ?_ hHeld ?_;rotate_left
     . intro w hSw
       try dsimp only at hSw
       go_simp
       all_goals with_reducible rfl
     try simp only[Act.put,sx]
     refine tl 3 ?_ ?_ hHeld ?_;rotate_left
     . intro w hSw
       try dsimp only at hSw
       go_simp
       all_goals with_reducible rfl
     try simp only[Act.put,sx]
     refine tl 8 ?_ ?_ hHeld ?_;rotate_left
     . intro w hSw
       try dsimp only at hSw
       go_simp
       all_goals with_reducible rfl
     try simp only[Act.put,sx]
     refine tl 9 ?_ ?_ hHeld ?_;rotate_left
     . intro w hSw
       try dsimp only at hSw
       go_simp
       all_goals with_reducible rfl
     try simp only[Act.put,sx]
     refine tl 10 ?_ ?_ hHeld ?_;rotate_left
     . intro w hSw
       try dsimp only at hSw
       go_simp
       all_goals with_reducible rfl
     try simp only[Act.put,sx]
     refine wpAnyH_take (i:=5) (oi:=_) (v:=.agg ([.int .i64 p,.int .i64 s]).toArray) rfl (by kernel_rfl) (by kernel_rfl) (by kernel_rfl) (fun _ _ _ h=>h) (yieldsIf_load_mid (by rfl) 25 (.tmp 3) rfl w.heap.size 0 rfl ([.int .i64 p,.int .i64 s]) _ (fun W hS=>hS.range) Try.underlying25 rfl Az) hHeld ?_
     try simp only[Act.put,sx]
     refine wpAnyH_ready (rs:=[0,6]) (by kernel_rfl) (by simp) ?_;refine(AllReadyH.cons (o:=_) rfl (fun K hK=>?_) (AllReadyH.cons (o:=_) rfl (fun K hK=>?_) AllReadyH.nil))
     . skip
       dsimp only[List.getElem_toArray,List.getElem_cons_succ,List.getElem_cons_zero];rw[if_pos (by rfl)];refine Ba rfl ?_;intro g0 wn S hg0 E0;have hz:=Nat.le_of_lt (E0.lt g0 rfl).2;have hU:w3.heap.size<=g0:=Nat.le_trans Hb.out.size hg0;replace X:=X.step S;replace Hb:=hid (Hb.out.trans (S.mono Hb.out.size));clear S hg0 hHeld;refine hK.out _ _ X (fun hHeld=>?_);clear hK K
       try simp only[Act.put,sx]
       refine wpAnyH_ready (rs:=[4,6]) (by kernel_rfl) (by simp) ?_;refine(AllReadyH.cons (o:=_) rfl (fun K hK=>?_) (AllReadyH.cons (o:=_) rfl (fun K hK=>?_) AllReadyH.nil))
       . skip
         dsimp only[List.getElem_toArray,List.getElem_cons_succ,List.getElem_cons_zero];rw[if_pos (by rfl)];refine Ae (.tmp 63) (.tmp 66) rfl g0 _ 0 [] rfl E0 none _ _ (rs.take (lead rs s)) rfl (I66.out _ Hb.out) (by omega) hz ?_;intro v1 wn E1 GN;have own:∀ q,Value.ownBlock _=some q->g0<=q:=fun q e=>(E0.lt q e).1;replace hz:=Nat.le_trans hz GN.size;replace X:=X.grown GN (fun e=>by have:=own _ e; omega);replace Hb:=hid (Hb.out.grown GN Hb.out.size (fun q e=>by have:=own _ e; omega));replace E0:=E1;clear GN E1 hHeld own;refine hK.out _ _ X (fun hHeld=>?_);clear hK K
         try simp only[Act.put,sx]
         refine wpAnyH_ready (rs:=[6]) (by kernel_rfl) (by simp) ?_;apply AllReadyH.cons rfl ?_ AllReadyH.nil;intro K hK;dsimp only[List.getElem_toArray,List.getElem_cons_succ,List.getElem_cons_zero];rw[if_pos (by rfl)];refine AE (.tmp 68) rfl p s rfl ?_;intro g1 wn S hg1 I1;replace E0:=Ak E0 S;replace hz:=Nat.le_trans hz S.size;replace X:=X.step S;replace Hb:=hid (Hb.out.trans (S.mono Hb.out.size));clear S hg1 hHeld;refine hK.out _ _ X (fun hHeld=>?_);clear hK K
         try simp only[Act.put,sx]
         refine wpAnyH_ready (rs:=[7]) (by kernel_rfl) (by simp) ?_;apply AllReadyH.cons rfl ?_ AllReadyH.nil;intro K hK;dsimp only[List.getElem_toArray,List.getElem_cons_succ,List.getElem_cons_zero];rw[if_pos (by rfl)];refine Ae (.tmp 67) (.tmp 69) rfl g0 _ _ _ rfl E0 _ 1 1 [⟨p,s⟩] rfl I1 (by omega) hz ?_;intro v1 wn E1 GN;have own:∀ q,Value.ownBlock _=some q->g0<=q:=fun q e=>(E0.lt q e).1;replace hz:=Nat.le_trans hz GN.size;replace X:=X.grown GN (fun e=>by have:=own _ e; omega);replace Hb:=hid (Hb.out.grown GN Hb.out.size (fun q e=>by have:=own _ e; omega));replace E0:=E1;clear GN E1 hHeld own I1;refine hK.out _ _ X (fun hHeld=>?_);clear hK K
         try simp only[Act.put,sx]
         refine wpAnyH_ready (rs:=[11]) (by kernel_rfl) (by simp) ?_;apply AllReadyH.cons rfl ?_ AllReadyH.nil;intro K hK;dsimp only[List.getElem_toArray,List.getElem_cons_succ,List.getElem_cons_zero];rw[if_pos (by rfl)];refine Ae (.tmp 70) (.tmp 73) rfl g0 _ _ _ rfl E0 none _ _ (rs.drop (lead rs s)) rfl (I73.out _ Hb.out) (by omega) hz ?_;intro v1 wn E1 GN;have own:∀ q,Value.ownBlock _=some q->g0<=q:=fun q e=>(E0.lt q e).1;replace hz:=Nat.le_trans hz GN.size;replace X:=X.grown GN (fun e=>by have:=own _ e; omega);replace Hb:=hid (Hb.out.grown GN Hb.out.size (fun q e=>by have:=own _ e; omega));replace E0:=E1;clear GN E1 hHeld own
         refine hK.out _ _ X (fun hHeld=>?_);clear hK K
         try simp only[Act.put,sx]
         refine tl 12 ?_ ?_ hHeld ?_;rotate_left
         . intro w hSw
           try dsimp only at hSw
           go_simp
           all_goals with_reducible rfl
         try simp only[Act.put,sx]
         refine wpAnyH_done (by kernel_rfl) ?_ _;go_wp2_with fail
         go_meet
         case rel=>exact⟨_,Af (by simpa using E0) hU,by simp[hr0.out,hk0],X,Hb.out⟩
       . skip
         dsimp only[List.getElem_toArray,List.getElem_cons_succ,List.getElem_cons_zero];rw[if_pos (by rfl)];refine AE (.tmp 68) rfl p s rfl ?_;intro g1 wn S hg1 I1;have hne:g1≠g0:=by have:=(E0.lt g0 rfl).2; omega
         replace E0:=Ak E0 S;replace hz:=Nat.le_trans hz S.size;replace X:=X.step S;replace Hb:=hid (Hb.out.trans (S.mono Hb.out.size));clear S hg1 hHeld;refine hK.out _ _ X (fun hHeld=>?_);clear hK K
         try simp only[Act.put,sx]
         refine wpAnyH_ready (rs:=[4]) (by kernel_rfl) (by simp) ?_;apply AllReadyH.cons rfl ?_ AllReadyH.nil;intro K hK;dsimp only[List.getElem_toArray,List.getElem_cons_succ,List.getElem_cons_zero];rw[if_pos (by rfl)];refine Ae (.tmp 63) (.tmp 66) rfl g0 _ 0 [] rfl E0 none _ _ (rs.take (lead rs s)) rfl (I66.out _ Hb.out) (by omega) hz ?_;intro v1 wn E1 GN;have own:∀ q,Value.ownBlock _=some q->g0<=q:=fun q e=>(E0.lt q e).1;replace hz:=Nat.le_trans hz GN.size;replace X:=X.grown GN (fun e=>by have:=own _ e; omega);replace Hb:=hid (Hb.out.grown GN Hb.out.size (fun q e=>by have:=own _ e; omega))
         replace I1:=I1.grown GN (fun _ k off e e2=>by cases e; have e3:g0=g1:=Option.some.inj e2; omega);replace E0:=E1;clear GN E1 hHeld own;refine hK.out _ _ X (fun hHeld=>?_);clear hK K
         try simp only[Act.put,sx]
         refine wpAnyH_ready (rs:=[7]) (by kernel_rfl) (by simp) ?_;apply AllReadyH.cons rfl ?_ AllReadyH.nil;intro K hK;dsimp only[List.getElem_toArray,List.getElem_cons_succ,List.getElem_cons_zero];rw[if_pos (by rfl)];refine Ae (.tmp 67) (.tmp 69) rfl g0 _ _ _ rfl E0 _ 1 1 [⟨p,s⟩] rfl I1 (by omega) hz ?_;intro v1 wn E1 GN;have own:∀ q,Value.ownBlock _=some q->g0<=q:=fun q e=>(E0.lt q e).1;replace hz:=Nat.le_trans hz GN.size;replace X:=X.grown GN (fun e=>by have:=own _ e; omega);replace Hb:=hid (Hb.out.grown GN Hb.out.size (fun q e=>by have:=own _ e; omega));replace E0:=E1;clear GN E1 hHeld own I1;refine hK.out _ _ X (fun hHeld=>?_);clear hK K
         try simp only[Act.put,sx]
         refine wpAnyH_ready (rs:=[11]) (by kernel_rfl) (by simp) ?_;apply AllReadyH.cons rfl ?_ AllReadyH.nil;intro K hK;dsimp only[List.getElem_toArray,List.getElem_cons_succ,List.getElem_cons_zero];rw[if_pos (by rfl)];refine Ae (.tmp 70) (.tmp 73) rfl g0 _ _ _ rfl E0 none _ _ (rs.drop (lead rs s)) rfl (I73.out _ Hb.out) (by omega) hz ?_;intro v1 wn E1 GN;have own:∀ q,Value.ownBlock _=some q->g0<=q:=fun q e=>(E0.lt q e).1;replace hz:=Nat.le_trans hz GN.size;replace X:=X.grown GN (fun e=>by have:=own _ e; omega);replace Hb:=hid (Hb.out.grown GN Hb.out.size (fun q e=>by have:=own _ e; omega));replace E0:=E1;clear GN E1 hHeld own
         refine hK.out _ _ X (fun hHeld=>?_);clear hK K
         try simp only[Act.put,sx]
         refine tl 12 ?_ ?_ hHeld ?_;rotate_left
         . intro w hSw
           try dsimp only at hSw
           go_simp
           all_goals with_reducible rfl
         try simp only[Act.put,sx]
         refine wpAnyH_done (by kernel_rfl) ?_ _;go_wp2_with fail
         go_meet
         case rel=>exact⟨_,Af (by simpa using E0) hU,by simp[hr0.out,hk0],X,Hb.out⟩
     . skip
       dsimp only[List.getElem_toArray,List.getElem_cons_succ,List.getElem_cons_zero];rw[if_pos (by rfl)];refine AE (.tmp 68) rfl p s rfl ?_;intro g1 wn S hg1 I1;replace X:=X.step S;replace Hb:=hid (Hb.out.trans (S.mono Hb.out.size));clear S hg1 hHeld;refine hK.out _ _ X (fun hHeld=>?_);clear hK K
       try simp only[Act.put,sx]
       refine wpAnyH_ready (rs:=[0]) (by kernel_rfl) (by simp) ?_;apply AllReadyH.cons rfl ?_ AllReadyH.nil;intro K hK;dsimp only[List.getElem_toArray,List.getElem_cons_succ,List.getElem_cons_zero];rw[if_pos (by rfl)];refine Ba rfl ?_;intro g0 wn S hg0 E0;have hz:=Nat.le_of_lt (E0.lt g0 rfl).2;have hU:w3.heap.size<=g0:=Nat.le_trans Hb.out.size hg0;have hne:g1≠g0:=by have:=I1.lt (by omega) _ _ rfl; omega
       replace I1:=I1.step S;replace X:=X.step S;replace Hb:=hid (Hb.out.trans (S.mono Hb.out.size));clear S hg0 hHeld;refine hK.out _ _ X (fun hHeld=>?_);clear hK K
       try simp only[Act.put,sx]
       refine wpAnyH_ready (rs:=[4]) (by kernel_rfl) (by simp) ?_;apply AllReadyH.cons rfl ?_ AllReadyH.nil;intro K hK;dsimp only[List.getElem_toArray,List.getElem_cons_succ,List.getElem_cons_zero];rw[if_pos (by rfl)];refine Ae (.tmp 63) (.tmp 66) rfl g0 _ 0 [] rfl E0 none _ _ (rs.take (lead rs s)) rfl (I66.out _ Hb.out) (by omega) hz ?_;intro v1 wn E1 GN;have own:∀ q,Value.ownBlock _=some q->g0<=q:=fun q e=>(E0.lt q e).1;replace hz:=Nat.le_trans hz GN.size;replace X:=X.grown GN (fun e=>by have:=own _ e; omega);replace Hb:=hid (Hb.out.grown GN Hb.out.size (fun q e=>by have:=own _ e; omega))
       replace I1:=I1.grown GN (fun _ k off e e2=>by cases e; have e3:g0=g1:=Option.some.inj e2; omega);replace E0:=E1;clear GN E1 hHeld own;refine hK.out _ _ X (fun hHeld=>?_);clear hK K
       try simp only[Act.put,sx]
       refine wpAnyH_ready (rs:=[7]) (by kernel_rfl) (by simp) ?_;apply AllReadyH.cons rfl ?_ AllReadyH.nil;intro K hK;dsimp only[List.getElem_toArray,List.getElem_cons_succ,List.getElem_cons_zero];rw[if_pos (by rfl)];refine Ae (.tmp 67) (.tmp 69) rfl g0 _ _ _ rfl E0 _ 1 1 [⟨p,s⟩] rfl I1 (by omega) hz ?_;intro v1 wn E1 GN;have own:∀ q,Value.ownBlock _=some q->g0<=q:=fun q e=>(E0.lt q e).1;replace hz:=Nat.le_trans hz GN.size;replace X:=X.grown GN (fun e=>by have:=own _ e; omega);replace Hb:=hid (Hb.out.grown GN Hb.out.size (fun q e=>by have:=own _ e; omega));replace E0:=E1;clear GN E1 hHeld own I1;refine hK.out _ _ X (fun hHeld=>?_);clear hK K
       try simp only[Act.put,sx]
       refine wpAnyH_ready (rs:=[11]) (by kernel_rfl) (by simp) ?_;apply AllReadyH.cons rfl ?_ AllReadyH.nil;intro K hK;dsimp only[List.getElem_toArray,List.getElem_cons_succ,List.getElem_cons_zero];rw[if_pos (by rfl)];refine Ae (.tmp 70) (.tmp 73) rfl g0 _ _ _ rfl E0 none _ _ (rs.drop (lead rs s)) rfl (I73.out _ Hb.out) (by omega) hz ?_;intro v1 wn E1 GN;have own:∀ q,Value.ownBlock _=some q->g0<=q:=fun q e=>(E0.lt q e).1;replace hz:=Nat.le_trans hz GN.size;replace X:=X.grown GN (fun e=>by have:=own _ e; omega);replace Hb:=hid (Hb.out.grown GN Hb.out.size (fun q e=>by have:=own _ e; omega));replace E0:=E1;clear GN E1 hHeld own
       refine hK.out _ _ X (fun hHeld=>?_);clear hK K
       try simp only[Act.put,sx]
       refine tl 12 ?_ ?_ hHeld ?_;rotate_left
       . intro w hSw
         try dsimp only at hSw
         go_simp
         all_goals with_reducible rfl
       try simp only[Act.put,sx]
       refine wpAnyH_done (by kernel_rfl) ?_ _;go_wp2_with fail
       go_meet
       case rel=>exact⟨_,Af (by simpa using E0) hU,by simp[hr0.out,hk0],X,Hb.out⟩
   . injection e2 with eA eL ec;subst eA;subst ec;have hcl:((lead rs s:Nat):Int).toNat=lead rs s:=by simp
     have I66:=hid (fun W (b:Below w3.heap.size w3 W)=>by
      obtain⟨_,_,e3,I3,_⟩:=Ents.of_own (Ak O2.out b);cases e3
      exact I3.take (j:=lead rs s) hle)
     have I73:=hid (fun W (b:Below w3.heap.size w3 W)=>by
      obtain⟨_,_,e3,I3,_⟩:=Ents.of_own (Ak O2.out b);cases e3
      exact I3.cut hc2 hle)
     have Hb:=hid (show Below w3.heap.size w3 w3.drew from(Ac w3).drew);refine wp_region_held_drew (S:=fun w'=>CellsAt w' w.heap.size [.int .i64 p,.int .i64 s]) (by kernel_rfl) X.drew (fun hHeld=>?_);replace X:=X.drew;refine tl 1 ?_ ?_ hHeld ?_;rotate_left
     . intro w hSw
       try dsimp only at hSw
       go_simp
       all_goals with_reducible rfl
     try simp only[Act.put,sx]
     refine tl 2 ?_ ?_ hHeld ?_;rotate_left
     . intro w hSw
       try dsimp only at hSw
       go_simp
       all_goals with_reducible rfl
     try simp only[Act.put,sx]
     refine tl 3 ?_ ?_ hHeld ?_;rotate_left
     . intro w hSw
       try dsimp only at hSw
       go_simp
       all_goals with_reducible rfl
     try simp only[Act.put,sx]
     refine tl 8 ?_ ?_ hHeld ?_;rotate_left
     . intro w hSw
       try dsimp only at hSw
       go_simp
       all_goals with_reducible rfl
     try simp only[Act.put,sx]
     refine tl 9 ?_ ?_ hHeld ?_;rotate_left
     . intro w hSw
       try dsimp only at hSw
       go_simp
       all_goals with_reducible rfl
     try simp only[Act.put,sx]
     refine tl 10 ?_ ?_ hHeld ?_;rotate_left
     . intro w hSw
       try dsimp only at hSw
       go_simp
       all_goals with_reducible rfl
     try simp only[Act.put,sx]
     refine wpAnyH_take (i:=5) (oi:=_) (v:=.agg ([.int .i64 p,.int .i64 s]).toArray) rfl (by kernel_rfl) (by kernel_rfl) (by kernel_rfl) (fun _ _ _ h=>h) (yieldsIf_load_mid (by rfl) 25 (.tmp 3) rfl w.heap.size 0 rfl ([.int .i64 p,.int .i64 s]) _ (fun W hS=>hS.range) Try.underlying25 rfl Az) hHeld ?_
     try simp only[Act.put,sx]
     refine wpAnyH_ready (rs:=[0,6]) (by kernel_rfl) (by simp) ?_;refine(AllReadyH.cons (o:=_) rfl (fun K hK=>?_) (AllReadyH.cons (o:=_) rfl (fun K hK=>?_) AllReadyH.nil))
     . skip
       dsimp only[List.getElem_toArray,List.getElem_cons_succ,List.getElem_cons_zero];rw[if_pos (by rfl)];refine Ba rfl ?_;intro g0 wn S hg0 E0;have hz:=Nat.le_of_lt (E0.lt g0 rfl).2;have hU:w3.heap.size<=g0:=Nat.le_trans Hb.out.size hg0;replace X:=X.step S;replace Hb:=hid (Hb.out.trans (S.mono Hb.out.size));clear S hg0 hHeld;refine hK.out _ _ X (fun hHeld=>?_);clear hK K
       try simp only[Act.put,sx]
       refine wpAnyH_ready (rs:=[4,6]) (by kernel_rfl) (by simp) ?_;refine(AllReadyH.cons (o:=_) rfl (fun K hK=>?_) (AllReadyH.cons (o:=_) rfl (fun K hK=>?_) AllReadyH.nil))
       . skip
         dsimp only[List.getElem_toArray,List.getElem_cons_succ,List.getElem_cons_zero];rw[if_pos (by rfl)];refine Ae (.tmp 63) (.tmp 66) rfl g0 _ 0 [] rfl E0 _ _ _ (rs.take (lead rs s)) rfl (I66.out _ Hb.out) (by omega) hz ?_;intro v1 wn E1 GN;have own:∀ q,Value.ownBlock _=some q->g0<=q:=fun q e=>(E0.lt q e).1;replace hz:=Nat.le_trans hz GN.size;replace X:=X.grown GN (fun e=>by have:=own _ e; omega);replace Hb:=hid (Hb.out.grown GN Hb.out.size (fun q e=>by have:=own _ e; omega));replace E0:=E1;clear GN E1 hHeld own;refine hK.out _ _ X (fun hHeld=>?_);clear hK K
         try simp only[Act.put,sx]
         refine wpAnyH_ready (rs:=[6]) (by kernel_rfl) (by simp) ?_;apply AllReadyH.cons rfl ?_ AllReadyH.nil;intro K hK;dsimp only[List.getElem_toArray,List.getElem_cons_succ,List.getElem_cons_zero];rw[if_pos (by rfl)];refine AE (.tmp 68) rfl p s rfl ?_;intro g1 wn S hg1 I1;replace E0:=Ak E0 S;replace hz:=Nat.le_trans hz S.size;replace X:=X.step S;replace Hb:=hid (Hb.out.trans (S.mono Hb.out.size));clear S hg1 hHeld;refine hK.out _ _ X (fun hHeld=>?_);clear hK K
         try simp only[Act.put,sx]
         refine wpAnyH_ready (rs:=[7]) (by kernel_rfl) (by simp) ?_;apply AllReadyH.cons rfl ?_ AllReadyH.nil;intro K hK;dsimp only[List.getElem_toArray,List.getElem_cons_succ,List.getElem_cons_zero];rw[if_pos (by rfl)];refine Ae (.tmp 67) (.tmp 69) rfl g0 _ _ _ rfl E0 _ 1 1 [⟨p,s⟩] rfl I1 (by omega) hz ?_;intro v1 wn E1 GN;have own:∀ q,Value.ownBlock _=some q->g0<=q:=fun q e=>(E0.lt q e).1;replace hz:=Nat.le_trans hz GN.size;replace X:=X.grown GN (fun e=>by have:=own _ e; omega);replace Hb:=hid (Hb.out.grown GN Hb.out.size (fun q e=>by have:=own _ e; omega));replace E0:=E1;clear GN E1 hHeld own I1;refine hK.out _ _ X (fun hHeld=>?_);clear hK K
         try simp only[Act.put,sx]
         refine wpAnyH_ready (rs:=[11]) (by kernel_rfl) (by simp) ?_;apply AllReadyH.cons rfl ?_ AllReadyH.nil;intro K hK;dsimp only[List.getElem_toArray,List.getElem_cons_succ,List.getElem_cons_zero];rw[if_pos (by rfl)];refine Ae (.tmp 70) (.tmp 73) rfl g0 _ _ _ rfl E0 _ _ _ (rs.drop (lead rs s)) rfl (I73.out _ Hb.out) (by omega) hz ?_;intro v1 wn E1 GN;have own:∀ q,Value.ownBlock _=some q->g0<=q:=fun q e=>(E0.lt q e).1;replace hz:=Nat.le_trans hz GN.size;replace X:=X.grown GN (fun e=>by have:=own _ e; omega);replace Hb:=hid (Hb.out.grown GN Hb.out.size (fun q e=>by have:=own _ e; omega));replace E0:=E1;clear GN E1 hHeld own
         refine hK.out _ _ X (fun hHeld=>?_);clear hK K
         try simp only[Act.put,sx]
         refine tl 12 ?_ ?_ hHeld ?_;rotate_left
         . intro w hSw
           try dsimp only at hSw
           go_simp
           all_goals with_reducible rfl
         try simp only[Act.put,sx]
         refine wpAnyH_done (by kernel_rfl) ?_ _;generalize (if c2=lead rs s then (some ⟨g,0,none⟩:Option Addr) else some ⟨g,lead rs s*2,none⟩)=q73 at *;go_wp2_with fail
         go_meet
         case rel=>exact⟨_,Af (by simpa using E0) hU,by omega,X,Hb.out⟩
       . skip
         dsimp only[List.getElem_toArray,List.getElem_cons_succ,List.getElem_cons_zero];rw[if_pos (by rfl)];refine AE (.tmp 68) rfl p s rfl ?_;intro g1 wn S hg1 I1;have hne:g1≠g0:=by have:=(E0.lt g0 rfl).2; omega
         replace E0:=Ak E0 S;replace hz:=Nat.le_trans hz S.size;replace X:=X.step S;replace Hb:=hid (Hb.out.trans (S.mono Hb.out.size));clear S hg1 hHeld;refine hK.out _ _ X (fun hHeld=>?_);clear hK K
         try simp only[Act.put,sx]
         refine wpAnyH_ready (rs:=[4]) (by kernel_rfl) (by simp) ?_;apply AllReadyH.cons rfl ?_ AllReadyH.nil;intro K hK;dsimp only[List.getElem_toArray,List.getElem_cons_succ,List.getElem_cons_zero];rw[if_pos (by rfl)];refine Ae (.tmp 63) (.tmp 66) rfl g0 _ 0 [] rfl E0 _ _ _ (rs.take (lead rs s)) rfl (I66.out _ Hb.out) (by omega) hz ?_;intro v1 wn E1 GN;have own:∀ q,Value.ownBlock _=some q->g0<=q:=fun q e=>(E0.lt q e).1;replace hz:=Nat.le_trans hz GN.size;replace X:=X.grown GN (fun e=>by have:=own _ e; omega);replace Hb:=hid (Hb.out.grown GN Hb.out.size (fun q e=>by have:=own _ e; omega))
         replace I1:=I1.grown GN (fun _ k off e e2=>by cases e; have e3:g0=g1:=Option.some.inj e2; omega);replace E0:=E1;clear GN E1 hHeld own;refine hK.out _ _ X (fun hHeld=>?_);clear hK K
         try simp only[Act.put,sx]
         refine wpAnyH_ready (rs:=[7]) (by kernel_rfl) (by simp) ?_;apply AllReadyH.cons rfl ?_ AllReadyH.nil;intro K hK;dsimp only[List.getElem_toArray,List.getElem_cons_succ,List.getElem_cons_zero];rw[if_pos (by rfl)];refine Ae (.tmp 67) (.tmp 69) rfl g0 _ _ _ rfl E0 _ 1 1 [⟨p,s⟩] rfl I1 (by omega) hz ?_;intro v1 wn E1 GN;have own:∀ q,Value.ownBlock _=some q->g0<=q:=fun q e=>(E0.lt q e).1;replace hz:=Nat.le_trans hz GN.size;replace X:=X.grown GN (fun e=>by have:=own _ e; omega);replace Hb:=hid (Hb.out.grown GN Hb.out.size (fun q e=>by have:=own _ e; omega));replace E0:=E1;clear GN E1 hHeld own I1;refine hK.out _ _ X (fun hHeld=>?_);clear hK K
         try simp only[Act.put,sx]
         refine wpAnyH_ready (rs:=[11]) (by kernel_rfl) (by simp) ?_;apply AllReadyH.cons rfl ?_ AllReadyH.nil;intro K hK;dsimp only[List.getElem_toArray,List.getElem_cons_succ,List.getElem_cons_zero];rw[if_pos (by rfl)];refine Ae (.tmp 70) (.tmp 73) rfl g0 _ _ _ rfl E0 _ _ _ (rs.drop (lead rs s)) rfl (I73.out _ Hb.out) (by omega) hz ?_;intro v1 wn E1 GN;have own:∀ q,Value.ownBlock _=some q->g0<=q:=fun q e=>(E0.lt q e).1;replace hz:=Nat.le_trans hz GN.size;replace X:=X.grown GN (fun e=>by have:=own _ e; omega);replace Hb:=hid (Hb.out.grown GN Hb.out.size (fun q e=>by have:=own _ e; omega));replace E0:=E1;clear GN E1 hHeld own
         refine hK.out _ _ X (fun hHeld=>?_);clear hK K
         try simp only[Act.put,sx]
         refine tl 12 ?_ ?_ hHeld ?_;rotate_left
         . intro w hSw
           try dsimp only at hSw
           go_simp
           all_goals with_reducible rfl
         try simp only[Act.put,sx]
         refine wpAnyH_done (by kernel_rfl) ?_ _;generalize (if c2=lead rs s then (some ⟨g,0,none⟩:Option Addr) else some ⟨g,lead rs s*2,none⟩)=q73 at *;go_wp2_with fail
         go_meet
         case rel=>exact⟨_,Af (by simpa using E0) hU,by omega,X,Hb.out⟩
     . skip
       dsimp only[List.getElem_toArray,List.getElem_cons_succ,List.getElem_cons_zero];rw[if_pos (by rfl)];refine AE (.tmp 68) rfl p s rfl ?_;intro g1 wn S hg1 I1;replace X:=X.step S;replace Hb:=hid (Hb.out.trans (S.mono Hb.out.size));clear S hg1 hHeld;refine hK.out _ _ X (fun hHeld=>?_);clear hK K
       try simp only[Act.put,sx]
       refine wpAnyH_ready (rs:=[0]) (by kernel_rfl) (by simp) ?_;apply AllReadyH.cons rfl ?_ AllReadyH.nil;intro K hK;dsimp only[List.getElem_toArray,List.getElem_cons_succ,List.getElem_cons_zero];rw[if_pos (by rfl)];refine Ba rfl ?_;intro g0 wn S hg0 E0;have hz:=Nat.le_of_lt (E0.lt g0 rfl).2;have hU:w3.heap.size<=g0:=Nat.le_trans Hb.out.size hg0;have hne:g1≠g0:=by have:=I1.lt (by omega) _ _ rfl; omega
       replace I1:=I1.step S;replace X:=X.step S;replace Hb:=hid (Hb.out.trans (S.mono Hb.out.size));clear S hg0 hHeld;refine hK.out _ _ X (fun hHeld=>?_);clear hK K
       try simp only[Act.put,sx]
       refine wpAnyH_ready (rs:=[4]) (by kernel_rfl) (by simp) ?_;apply AllReadyH.cons rfl ?_ AllReadyH.nil;intro K hK;dsimp only[List.getElem_toArray,List.getElem_cons_succ,List.getElem_cons_zero];rw[if_pos (by rfl)];refine Ae (.tmp 63) (.tmp 66) rfl g0 _ 0 [] rfl E0 _ _ _ (rs.take (lead rs s)) rfl (I66.out _ Hb.out) (by omega) hz ?_;intro v1 wn E1 GN;have own:∀ q,Value.ownBlock _=some q->g0<=q:=fun q e=>(E0.lt q e).1;replace hz:=Nat.le_trans hz GN.size;replace X:=X.grown GN (fun e=>by have:=own _ e; omega);replace Hb:=hid (Hb.out.grown GN Hb.out.size (fun q e=>by have:=own _ e; omega))
       replace I1:=I1.grown GN (fun _ k off e e2=>by cases e; have e3:g0=g1:=Option.some.inj e2; omega);replace E0:=E1;clear GN E1 hHeld own;refine hK.out _ _ X (fun hHeld=>?_);clear hK K
       try simp only[Act.put,sx]
       refine wpAnyH_ready (rs:=[7]) (by kernel_rfl) (by simp) ?_;apply AllReadyH.cons rfl ?_ AllReadyH.nil;intro K hK;dsimp only[List.getElem_toArray,List.getElem_cons_succ,List.getElem_cons_zero];rw[if_pos (by rfl)];refine Ae (.tmp 67) (.tmp 69) rfl g0 _ _ _ rfl E0 _ 1 1 [⟨p,s⟩] rfl I1 (by omega) hz ?_;intro v1 wn E1 GN;have own:∀ q,Value.ownBlock _=some q->g0<=q:=fun q e=>(E0.lt q e).1;replace hz:=Nat.le_trans hz GN.size;replace X:=X.grown GN (fun e=>by have:=own _ e; omega);replace Hb:=hid (Hb.out.grown GN Hb.out.size (fun q e=>by have:=own _ e; omega));replace E0:=E1;clear GN E1 hHeld own I1;refine hK.out _ _ X (fun hHeld=>?_);clear hK K
       try simp only[Act.put,sx]
       refine wpAnyH_ready (rs:=[11]) (by kernel_rfl) (by simp) ?_;apply AllReadyH.cons rfl ?_ AllReadyH.nil;intro K hK;dsimp only[List.getElem_toArray,List.getElem_cons_succ,List.getElem_cons_zero];rw[if_pos (by rfl)];refine Ae (.tmp 70) (.tmp 73) rfl g0 _ _ _ rfl E0 _ _ _ (rs.drop (lead rs s)) rfl (I73.out _ Hb.out) (by omega) hz ?_;intro v1 wn E1 GN;have own:∀ q,Value.ownBlock _=some q->g0<=q:=fun q e=>(E0.lt q e).1;replace hz:=Nat.le_trans hz GN.size;replace X:=X.grown GN (fun e=>by have:=own _ e; omega);replace Hb:=hid (Hb.out.grown GN Hb.out.size (fun q e=>by have:=own _ e; omega));replace E0:=E1;clear GN E1 hHeld own
       refine hK.out _ _ X (fun hHeld=>?_);clear hK K
       try simp only[Act.put,sx]
       refine tl 12 ?_ ?_ hHeld ?_;rotate_left
       . intro w hSw
         try dsimp only at hSw
         go_simp
         all_goals with_reducible rfl
       try simp only[Act.put,sx]
       refine wpAnyH_done (by kernel_rfl) ?_ _;generalize (if c2=lead rs s then (some ⟨g,0,none⟩:Option Addr) else some ⟨g,lead rs s*2,none⟩)=q73 at *;go_wp2_with fail
       go_meet
       case rel=>exact⟨_,Af (by simpa using E0) hU,by omega,X,Hb.out⟩
  obtain⟨N,O3,hN,X,B3⟩:=hcut;obtain⟨A3,c3,rfl,_,_⟩:=Ents.of_own O3;have hc3:=Be O3;have hmn:=CQ;subst hN;obtain⟨M,hM⟩:∃ M:Nat,min (rs.length+1) 4=M:=⟨_,rfl⟩;have hM1:(min ((rs.length:Int)+1) 4).toNat=M:=by omega
  have hM2:min ((rs.length:Int)+1) 4=(M:Int):=by omega
  have hMc:M<=c3:=by omega
  have hMc2:(M:Int)<=(c3:Int):=by omega
  have hMn:M<=rs.length+1:=by omega
  have B4:=hid (B2.out.trans (B3.mono hw3));have hel:=hid (show(AK rs ⟨p,s⟩).length=M by rw[BF]; omega);have I80:=hid (fun(o:Obj)=>show Ents (wc.alloc o) A3 M (AK rs ⟨p,s⟩) from by
   obtain⟨_,_,e3,I3,_⟩:=Ents.of_own O3;cases e3
   have t:=(I3.alloc o).take (j:=M) hMn;have e:(rs.take (lead rs s)++(⟨p,s⟩:En)::rs.drop (lead rs s)).take M=AK rs ⟨p,s⟩:=by
    unfold AK;have hl4:=I3.1;dsimp only at hl4 ⊢;generalize (rs.take (lead rs s)++(⟨p,s⟩:En)::rs.drop (lead rs s))=L at *;rcases Nat.lt_or_ge rs.length 4 with h | h
    . rw[List.take_of_length_le (by omega),List.take_of_length_le (by omega)]
    . rw[show M=4 by omega]
   rw[<- e];exact t)
  clear X D2 O2 B3 O3 hM;go_wp2_with (at_builtin; refine Al _ rfl (.tmp 75) (.tmp 80) rfl w.heap.size _ 0 [] rfl (Af (Ah _ _ _ rfl (Nat.le_refl _)) B4.out.size) A3 M c3 (AK rs ⟨p,s⟩) rfl (I80.out _) (by omega) (by have:=B4.out.size; simp; omega) ?_);intro v' w9 O9 G9 _;have O9:=hid (show w9.ownsRow w.heap.size 25 2 v' (AK rs ⟨p,s⟩).length (AM (AK rs ⟨p,s⟩)) from(by rw[hel.out]; simpa using O9));have H9:=hid ((Ad B4.out _).grown G9 (by have:=B4.out.size; simp; omega) (fun g e=>by cases e; exact B4.out.size));clear G9;go_wp2
  go_ret2
  rw[E.out];exact⟨_,rfl,O9.out,H9.out⟩
end Go.Proofs.Ytgghhedkephohaa
