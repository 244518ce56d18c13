import Derived.Test.YtbeohbhhmcjokaaZSvC
set_option linter.all false
set_option maxRecDepth 100000
set_option maxHeartbeats 8000000
open Go.Lib
namespace Go.Proofs.Ytbeohbhhmcjokaa
open Go.RowKit
open M
theorem Tracks.rng{W:World}{b off n k:Nat}{ts:List Tk}{q:Tk}(h:Tracks W (some ⟨b,off,none⟩) n ts)(hk:ts[k]?=some q):W.rangeAt b (off+k*12) q.cs:=by
 have hl:k<ts.length:=by
  rcases Nat.lt_or_ge k ts.length with h1 | h1
  . exact h1
  . rw[List.getElem?_eq_none h1] at hk; cases hk
 obtain⟨b',off',e,_,hc⟩:=h.at_ (by have:=h.len; omega);cases e
 exact hc k q hk
theorem Eb(A D:Option Addr)(n c d:Nat)(xs:List En)(w:World)(I:Ents w A n xs)(J:Ents w D n xs)(hn:n<=1048576) :
 Calls Try.prog 36 #[.slice A n c,.slice D n d] w fun e w'=>e=.returned (.bool true)/\Below w.heap.size w w':=AH A D n c d xs w I J hn
structure M.Tk.Sm(q:Tk):Prop where
 n:q.L.n<=1048576
 m:q.L.m<=1048576
 l:q.l<=1048576
theorem FW(q q':Tk)(hv:q.v=q'.v)(w:World)(R:q.At w)(R':q'.At w)(hs:q.Sm) :
 Calls Try.prog 82 #[.agg q.cs.toArray,.agg q'.cs.toArray] w fun e w'=>e=.returned (.bool true)/\Below w.heap.size w w':=by
 obtain⟨⟨i,t,x,y,A,n,c,G,m,kk,fp,fq,fs,fz,b,ws,gs⟩,D,l,cc,es⟩:=q;obtain⟨⟨i',t',x',y',A',n',c',G',m',kk',fp',fq',fs',fz',b',ws',gs'⟩,D',l',cc',es'⟩:=q';simp only[Tk.v,Tv.mk.injEq] at hv;obtain⟨rfl,rfl,rfl,rfl,rfl,rfl,rfl,rfl,rfl,rfl,rfl,rfl⟩:=hv;obtain rfl:n=n':=by have a:=R.I.1; have b:=R'.I.1; simp only at a b; omega
 obtain rfl:m=m':=by have a:=R.J.1; have b:=R'.J.1; simp only at a b; omega
 obtain rfl:l=l':=by have a:=R.E.1; have b:=R'.E.1; simp only at a b; omega
 obtain⟨h1,h2,h3⟩:=hs;simp only at h1 h2 h3;obtain⟨I,J,E,_,_,_⟩:=R;obtain⟨I',J',E',_,_,_⟩:=R';simp only at I J E I' J' E';simp only[Tk.cs,Lv.cs];obtain⟨qc,hqc⟩:∃ qc,qc=AV i t x y A n c G m kk fp fq fs fz b++[.slice D l cc]:=⟨_,rfl⟩;obtain⟨qc',hqc'⟩:∃ qc,qc=AV i t x y A' n c' G' m kk' fp fq fs fz b++[.slice D' l cc']:=⟨_,rfl⟩;rw[<- hqc,<- hqc'];have V:=hid ((CellsAt.new w w.heap.size qc 84 rfl).alloc (.cells qc'.toArray 84));have V':=hid (CellsAt.new (w.alloc (.cells qc.toArray 84)) (w.heap.size+1) qc' 84 (by simp));have H:=hid (Ab (Ab (Ac w) (.cells qc.toArray 84)) (.cells qc'.toArray 84))
 have r:=hid (show(V.out.range:World.rangeAt _ _ _ _)=V.out.range from rfl);have g1:=hid (fun(W:World) (h:CellsAt W w.heap.size qc)=>show W.rangeAt w.heap.size 0 (AV i t x y A n c G m kk fp fq fs fz b) from fun j v hj=>h.range j v (by
  rw[hqc,List.getElem?_append_left (by rcases Nat.lt_or_ge j (AV i t x y A n c G m kk fp fq fs fz b).length with h1 | h1; exact h1; rw[List.getElem?_eq_none h1] at hj; cases hj)]; exact hj))
 have g2:=hid (fun(W:World) (h:CellsAt W (w.heap.size+1) qc')=>show W.rangeAt (w.heap.size+1) 0 (AV i t x y A' n c' G' m kk' fp fq fs fz b) from fun j v hj=>h.range j v (by
  rw[hqc',List.getElem?_append_left (by rcases Nat.lt_or_ge j (AV i t x y A' n c' G' m kk' fp fq fs fz b).length with h1 | h1; exact h1; rw[List.getElem?_eq_none h1] at hj; cases hj)]; exact hj))
 have k1:=hid (fun(W:World) (h:CellsAt W w.heap.size qc)=>h.cell 11 (.slice D l cc) (by rw[hqc]; rfl));have k2:=hid (fun(W:World) (h:CellsAt W (w.heap.size+1) qc')=>h.cell 11 (.slice D' l cc') (by rw[hqc']; rfl));replace I:=hid (I.step H.out);replace J:=hid (J.step H.out);replace E:=hid (E.step H.out);replace I':=hid (I'.step H.out);replace J':=hid (J'.step H.out);replace E':=hid (E'.step H.out);replace hqc:=hid hqc;replace hqc':=hid hqc';clear r;go_enter Try.func82,Try.ntmps82
 go_wp2_with (first | (refine wpList_load_mid rfl 58 (.tmp 5) rfl w.heap.size 0 rfl (AV i t x y A n c G m kk fp fq fs fz b) _ (g1.out _ V.out) Try.underlying58 rfl Ah ?_) | (refine wpList_load_mid rfl 58 (.tmp 7) rfl (w.heap.size+1) 0 rfl (AV i t x y A' n c' G' m kk' fp fq fs fz b) _ (g2.out _ V'.out) Try.underlying58 rfl Ah ?_));go_wp2_with fail;refine(DJ i t x y n m fp fq fs fz b ws gs A G A' G' c kk c' kk' _ I.out J.out I'.out J'.out h1 h2).mono ?_;rintro e w1 ⟨rfl,B⟩;replace V:=hid (V.out.step B);replace V':=hid (V'.out.step B);replace E:=hid (E.out.step B);replace E':=hid (E'.out.step B);replace H:=hid (Aa H.out B);clear B
 have x1:=k1.out _ V.out;have x2:=k2.out _ V'.out;go_wp2_with fail;refine(Eb D D' l cc cc' es _ E.out E'.out h3).mono ?_;rintro e w2 ⟨rfl,B⟩;replace H:=hid (Aa H.out B);clear B x1 x2;go_wp2;go_ret;exact⟨rfl,H.out⟩
theorem EQ(A A':Option Addr)(n c c':Nat)(ts ts':List Tk)(hv:ts.map Tk.v=ts'.map Tk.v)(w:World)(T:Tracks w A n ts)(T':Tracks w A' n ts')(hs:∀ q∈ts,q.Sm)(hn:n<=1048576) :
 Calls Try.prog 46 #[.slice A n c,.slice A' n c'] w fun e w'=>e=.returned (.bool true)/\Below w.heap.size w w':=by
 have hT:=hid T.len;have hT':=hid T'.len;have hsm:=hid hs;replace hv:=hid hv;replace T:=hid T;replace T':=hid T';clear hs;go_enter Try.func46,Try.ntmps46;go_wp2
 go_loopw [5] (fun iv W=>∃ k:Nat,k<=n/\iv=.int .i64 k/\Below w.heap.size w W) (fun i _=>n-(RowKit.intOf i).toNat)
 case atStart=>exact⟨0,Nat.zero_le _,rfl,Ac w⟩
 case round =>
  obtain⟨k,hk,rfl,Bq⟩:=hrel;have T1:=hid (T.out.step Bq);have T2:=hid (T'.out.step Bq);replace Bq:=hid Bq;by_cases hlt:k<n
  . obtain⟨b,off,eA,_⟩:=T1.out.at_ (by omega);obtain⟨b2,off2,eA2,_⟩:=T2.out.at_ (by omega);subst eA eA2;have hkl:k<ts.length:=by have:=hT.out; omega
    have hkl2:k<ts'.length:=by have:=hT'.out; omega
    obtain⟨q,hq⟩:∃ q,ts[k]?=some q:=⟨_,List.getElem?_eq_getElem hkl⟩;obtain⟨q2,hq2⟩:∃ q,ts'[k]?=some q:=⟨_,List.getElem?_eq_getElem hkl2⟩;have hqv:=hid (show q.v=q2.v by
     have h1:(ts.map Tk.v)[k]?=some q.v:=by rw[List.getElem?_map,hq]; rfl
     have h2:(ts'.map Tk.v)[k]?=some q2.v:=by rw[List.getElem?_map,hq2]; rfl
     rw[hv.out,h2] at h1;exact(Option.some.inj h1).symm)
    replace hq:=hid hq;replace hq2:=hid hq2;have hlI:(k:Int)<(n:Int):=by omega
    clear hkl hkl2;go_wp2_with fail;refine wp_region_held_drew (S:=fun w'=>w'.rangeAt b (off+k*12) q.cs/\w'.rangeAt b2 (off2+k*12) q2.cs) (by kernel_rfl) ⟨T1.out.drew.rng hq.out,T2.out.drew.rng hq2.out⟩ (fun hHeld=>?_);replace T1:=hid T1.out.drew;replace T2:=hid T2.out.drew;replace Bq:=hid (Af Bq.out);refine tl 0 ?_ ?_ hHeld ?_;rotate_left
    . intro w hSw
      try dsimp only at hSw
      go_simp
      all_goals with_reducible rfl
    try simp only[Act.put,sx]
    refine tl 1 ?_ ?_ hHeld ?_;rotate_left
    . intro w hSw
      try dsimp only at hSw
      go_simp
      all_goals with_reducible rfl
    try simp only[Act.put,sx]
    refine tl 2 ?_ ?_ hHeld ?_;rotate_left
    . intro w hSw
      try dsimp only at hSw
      go_simp
      all_goals with_reducible rfl
    try simp only[Act.put,sx]
    refine wpAnyH_take (i:=3) (oi:=_) (v:=.agg (q.cs).toArray) rfl (by kernel_rfl) (by kernel_rfl) (by kernel_rfl) (fun _ _ _ h=>h) (yieldsIf_load_mid (by rfl) 84 (.tmp 19) rfl b (off+k*12) rfl (q.cs) _ (fun W hS=>hS.1) Try.underlying84 rfl As) hHeld ?_
    try simp only[Act.put,sx]
    refine tl 4 ?_ ?_ hHeld ?_;rotate_left
    . intro w hSw
      try dsimp only at hSw
      go_simp
      all_goals with_reducible rfl
    try simp only[Act.put,sx]
    refine tl 5 ?_ ?_ hHeld ?_;rotate_left
    . intro w hSw
      try dsimp only at hSw
      go_simp
      all_goals with_reducible rfl
    try simp only[Act.put,sx]
    refine tl 6 ?_ ?_ hHeld ?_;rotate_left
    . intro w hSw
      try dsimp only at hSw
      go_simp
      all_goals with_reducible rfl
    try simp only[Act.put,sx]
    refine wpAnyH_take (i:=7) (oi:=_) (v:=.agg (q2.cs).toArray) rfl (by kernel_rfl) (by kernel_rfl) (by kernel_rfl) (fun _ _ _ h=>h) (yieldsIf_load_mid (by rfl) 84 (.tmp 23) rfl b2 (off2+k*12) rfl (q2.cs) _ (fun W hS=>hS.2) Try.underlying84 rfl As) hHeld ?_
    try simp only[Act.put,sx]
    refine wpAnyH_ready (rs:=[8]) (by kernel_rfl) (by simp) ?_;apply AllReadyH.cons rfl ?_ AllReadyH.nil;intro K hK;go_simp
    go_at_call 82
    refine(FW q q2 hqv.out _ (T1.out.all q (List.mem_of_getElem? hq.out)) (T2.out.all q2 (List.mem_of_getElem? hq2.out)) (hsm.out q (List.mem_of_getElem? hq.out))).mono ?_;rintro e wn ⟨rfl,Bn⟩;replace T1:=hid (T1.out.step Bn);replace T2:=hid (T2.out.step Bn);replace Bq:=hid (Aa Bq.out Bn);clear Bn;clear hHeld;go_wp2_with fail;refine hK.out _ _ ⟨T1.out.rng hq.out,T2.out.rng hq2.out⟩ (fun hHeld=>?_);clear hK K
    try simp only[Act.put,sx]
    refine tl 9 ?_ ?_ hHeld ?_;rotate_left
    . intro w hSw
      try dsimp only at hSw
      go_simp
      all_goals with_reducible rfl
    try simp only[Act.put,sx]
    refine wpAnyH_done (by kernel_rfl) ?_ _;go_wp2
    go_roundw
    case rel=>exact⟨k+1,by omega,by go_num,Bq.out⟩
    case measure=>simp[RowKit.intOf]; omega
  . obtain rfl:k=n:=by omega
    clear T1 T2;go_wp2;go_ret;exact⟨rfl,Bq.out⟩
structure M.Sv.Sm(s:Sv):Prop where
 n:s.n<=1048576
 m:s.m<=1048576
 l:s.l<=1048576
 q:∀ q∈s.ts,q.Sm
theorem A5(s s':Sv)(hv:s.v=s'.v)(w:World)(R:s.At w)(R':s'.At w)(hs:s.Sm) :
 Calls Try.prog 16 #[s.val,s'.val] w fun e w'=>e=.returned (.bool true)/\Below w.heap.size w w':=by
 obtain⟨A,n,c,H,m,d,G,l,e1,ts,ks,gs⟩:=s;obtain⟨A',n',c',H',m',d',G',l',e',ts',ks',gs'⟩:=s';simp only[Sv.v,Vl.mk.injEq] at hv;obtain⟨hts,rfl,rfl⟩:=hv;obtain rfl:n=n':=by
  have a:=R.T.len;have b:=R'.T.len;have c:=congrArg List.length hts;simp only[List.length_map] at a b c;omega
 obtain rfl:m=m':=by have a:=R.K.1; have b:=R'.K.1; simp only at a b; omega
 obtain rfl:l=l':=by have a:=R.S.1; have b:=R'.S.1; simp only at a b; omega
 obtain⟨hn,hm,hl,hq⟩:=hs;simp only at hn hm hl hq;have T:=hid R.T;have T':=hid R'.T;have K:=hid R.K;have K':=hid R'.K;have S:=hid R.S;have S':=hid R'.S;have D0:=hid ((CellsAt.new w w.heap.size [.slice A n c,.slice H m d,.slice G l e1] 27 rfl).alloc (.cells [.slice A' n c',.slice H' m d',.slice G' l e'].toArray 27));have D1:=hid (CellsAt.new (w.alloc (.cells [.slice A n c,.slice H m d,.slice G l e1].toArray 27)) (w.heap.size+1) [.slice A' n c',.slice H' m d',.slice G' l e'] 27 (by simp))
 have B0:=hid (Ab (Ab (Ac w) (.cells [.slice A n c,.slice H m d,.slice G l e1].toArray 27)) (.cells [.slice A' n c',.slice H' m d',.slice G' l e'].toArray 27));obtain⟨x0,x1,x2⟩:=AX D0.out;obtain⟨y0,y1,y2⟩:=AX D1.out;replace hts:=hid hts;replace hq:=hid hq;clear R R';go_enter Try.func16,Try.ntmps16;go_wp2_with fail;refine(EQ _ _ _ _ _ ts ts' hts.out _ (T.out.step B0.out) (T'.out.step B0.out) hq.out hn).mono ?_;rintro e w1 ⟨rfl,B2⟩;replace D0:=hid (D0.out.step B2);replace D1:=hid (D1.out.step B2);replace B0:=hid (Aa B0.out B2);clear B2;replace x1:=D0.out.cell 1 _ rfl;replace y1:=D1.out.cell 1 _ rfl;go_wp2_with fail
 refine(AY _ _ _ _ _ ks _ (K.out.step B0.out) (K'.out.step B0.out) hm).mono ?_;rintro e w2 ⟨rfl,B2⟩;replace x2:=(D0.out.step B2).cell 2 _ rfl;replace y2:=(D1.out.step B2).cell 2 _ rfl;replace B0:=hid (Aa B0.out B2);clear B2;go_wp2_with fail;refine(AY _ _ _ _ _ gs _ (S.out.step B0.out) (S'.out.step B0.out) hl).mono ?_;rintro e w3 ⟨rfl,B3⟩;replace B0:=hid (Aa B0.out B3);clear B3;go_wp2;go_ret;exact⟨rfl,B0.out⟩
end Go.Proofs.Ytbeohbhhmcjokaa
