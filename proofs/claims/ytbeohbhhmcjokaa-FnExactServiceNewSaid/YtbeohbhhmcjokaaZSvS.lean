import Derived.Test.YtbeohbhhmcjokaaZDrawLev
set_option linter.all false
set_option maxRecDepth 100000
set_option maxHeartbeats 8000000
open Go.Lib
namespace Go.Proofs.Ytbeohbhhmcjokaa
open Go.RowKit
open M
theorem CS(n:Int)(b:Bool)(w:World)(h:Fs n=b):Calls Try.prog 55 #[.int .i64 n] w fun e w'=>e=.returned (.bool b)/\w=w':=by
 go_enter Try.func55,Try.ntmps55;go_wp2_with fail;refine(A0 n 0 1000002 _).mono ?_;rintro e w' ⟨rfl,rfl⟩;go_wp2;go_ret;exact⟨Ad h,rfl⟩
theorem HC(n lo hi:Int)(b:Bool)(w:World)(h:Al n lo hi=b):Calls Try.prog 52 #[.int .i64 n,.int .i64 lo,.int .i64 hi] w fun e w'=>e=.returned (.bool b)/\w=w':=h▸A0 n lo hi w
theorem M.nm_next{f:Int->Bool}{xs:List Int}{k:Nat}(h:k<xs.length):(xs.take (k+1)).all f=((xs.take k).all f&&f (xs.getD k 0)):=by
 rw[List.take_succ_eq_append_getElem h,List.all_append,List.getD_eq_getElem?_getD,List.getElem?_eq_getElem h]; simp
theorem M.nm_bad{f:Int->Bool}{xs:List Int}{k:Nat}(h:k<xs.length)(hv:f (xs.getD k 0)=false):xs.all f=false:=by
 rw[List.all_eq_false];exact⟨xs[k],List.getElem_mem h,by rw[List.getD_eq_getElem?_getD,List.getElem?_eq_getElem h] at hv; simpa using hv⟩
theorem M.tkB_next(ks:List Int)(ts:List Tk)(k:Nat):(List.range (k+1)).all (tkB ks ts)=((List.range k).all (tkB ks ts)&&tkB ks ts k):=by simp[List.range_succ]
theorem M.tkB_bad{ks:List Int}{ts:List Tk}{k:Nat}(h:k<ts.length)(hv:tkB ks ts k=false):(List.range ts.length).all (tkB ks ts)=false:=by
 rw[List.all_eq_false];exact⟨k,by simpa using h,by simp[hv]⟩
theorem BE(L:Lv)(b:Bool)(w:World)(h:L.ok=b)(I:Boxes w L.A L.n L.ws)(J:Boxes w L.G L.m L.gs)(hn:L.n<=281474976710656)(hm:L.m<=281474976710656):Calls Try.prog 53 #[L.val] w fun e w'=>e=.returned (.bool b)/\Below w.heap.size w w':=h▸Du L.i L.t L.x L.y L.A L.n L.c L.G L.m L.kk L.fp L.fq L.fs L.fz L.b L.ws L.gs w I J hn hm
theorem Cd(A:Option Addr)(n cap:Nat)(xs:List En)(b:Bool)(w:World)(h:CF xs=b)(Y:Ents w A n xs)(hn:n<=281474976710656):Calls Try.prog 54 #[.slice A n cap] w fun e w'=>e=.returned (.bool b)/\Below w.heap.size w w':=h▸GW A n cap xs w Y hn
theorem Au{w:World}{b:Nat}{q:Tk}(h:w.rangeAt b 0 q.cs):w.rangeAt b 0 q.L.cs:=fun j v hj=>h j v (by
 have hl:j<q.L.cs.length:=by
  rcases Nat.lt_or_ge j q.L.cs.length with h1 | h1
  . exact h1
  . rw[List.getElem?_eq_none h1] at hj; cases hj
 rw[Tk.cs,List.getElem?_append_left hl]; exact hj)
def GJ(w0:World)(m:Nat)(ks:List Int)(f:Int->Bool)(iv:Value)(W:World):Prop:=∃ k:Nat,k<=m/\iv=.int .i64 k/\(ks.take k).all f=true/\Below w0.heap.size w0 W
theorem M.en_next{f:En->Bool}{xs:List En}{k:Nat}(h:k<xs.length):(xs.take (k+1)).all f=((xs.take k).all f&&f (xs.getD k ez)):=by
 rw[List.take_succ_eq_append_getElem h,List.all_append,gd h]; simp
theorem M.en_bad{f:En->Bool}{xs:List En}{k:Nat}(h:k<xs.length)(hv:f (xs.getD k ez)=false):xs.all f=false:=by
 rw[List.all_eq_false];exact⟨xs[k],List.getElem_mem h,by rw[gd h] at hv; simpa using hv⟩
def HD(w0:World)(n:Nat)(ks:List Int)(ts:List Tk)(iv:Value)(W:World):Prop:=∃ k:Nat,k<=n/\iv=.int .i64 k/\(List.range k).all (tkB ks ts)=true/\Below w0.heap.size w0 W
theorem F7(A:Option Addr)(n c:Nat)(H:Option Addr)(m d:Nat)(G:Option Addr)(l e:Nat)(ts:List Tk)(ks gs:List Int)(w:World)(T:Tracks w A n ts)(K:Ints w H m ks)(S:Ints w G l gs)(hn:n<=281474976710656)(hm:m<=281474976710656)(hl:l<=281474976710656) :
 Calls Try.prog 22 #[.agg #[.slice A n c,.slice H m d,.slice G l e]] w fun e w'=>e=.returned (.bool (svB ts ks gs))/\Below w.heap.size w w':=by
 have hT:=hid T.len;have hK:=hid K.1;have hS:=hid S.1;have D0:CellsAt (w.alloc (.cells #[.slice A n c,.slice H m d,.slice G l e] 27)) w.heap.size [.slice A n c,.slice H m d,.slice G l e]:=CellsAt.new w _ _ _ rfl;have B0:=hid (Ab (Ac w) (.cells #[.slice A n c,.slice H m d,.slice G l e] 27));have T0:=hid (T.alloc (.cells #[.slice A n c,.slice H m d,.slice G l e] 27));have K0:=hid (K.alloc (.cells #[.slice A n c,.slice H m d,.slice G l e] 27));have S0:=hid (S.alloc (.cells #[.slice A n c,.slice H m d,.slice G l e] 27));obtain⟨x0,x1,x2⟩:=AX D0;have D0:=hid D0;by_cases hs:m=10/\n<=4/\l<=12
 rotate_left
 . have E:=hid (show svB ts ks gs=false by rw[svB,hT.out,hK.out,hS.out,decide_eq_false hs]; rfl);by_cases h1:m=10
   . by_cases h2:n<=4
     . have h3:¬ l<=12:=fun c=>hs ⟨h1,h2,c⟩;have g1:((m:Int) != 10)=false:=by simp; omega
       have g2:decide ((4:Int)<(n:Int))=false:=decide_eq_false (by omega);have g3:decide ((12:Int)<(l:Int))=true:=decide_eq_true (by omega);replace h1:=hid h1;replace hs:=hid hs;go_enter Try.func22,Try.ntmps22;go_wp2;go_ret;exact⟨Ad E.out.symm,B0.out⟩
     . have g1:((m:Int) != 10)=false:=by simp; omega
       have g2:decide ((4:Int)<(n:Int))=true:=decide_eq_true (by omega);replace h1:=hid h1;replace hs:=hid hs;go_enter Try.func22,Try.ntmps22;go_wp2;go_ret;exact⟨Ad E.out.symm,B0.out⟩
   . have g1:((m:Int) != 10)=true:=by simp; omega
     replace hs:=hid hs;go_enter Try.func22,Try.ntmps22;go_wp2;go_ret;exact⟨Ad E.out.symm,B0.out⟩
 have E:=hid (show svB ts ks gs=(ks.all (fun k=>Al k 0 9999)&&(List.range ts.length).all (tkB ks ts)&&gs.all Fs) by rw[svB,hT.out,hK.out,hS.out,decide_eq_true hs,Bool.true_and]);have g1:((m:Int) != 10)=false:=by simp; omega
 have g2:decide ((4:Int)<(n:Int))=false:=decide_eq_false (by omega);have g3:decide ((12:Int)<(l:Int))=false:=decide_eq_false (by omega);replace hs:=hid hs;go_enter Try.func22,Try.ntmps22;go_wp2;generalize w.alloc (.cells #[.slice A n c,.slice H m d,.slice G l e] 27)=w0 at *
 go_loopw [3] (GJ w0 m ks (fun k=>Al k 0 9999)) (fun i _=>m-(RowKit.intOf i).toNat)
 case atStart=>exact⟨0,Nat.zero_le _,rfl,rfl,Ac w0⟩
 case round =>
  obtain⟨k,hk,rfl,ha,Bq⟩:=hrel;have DV:=hid (D0.out.step Bq);obtain⟨y0,y1,y2⟩:=AX DV.out;have K1:=K0.out.step Bq;replace Bq:=hid Bq;by_cases hlt:k<m
  . obtain⟨b,off,rfl,hb,hc⟩:=K1.2 (by omega);have cc:=hc k hlt;have hkl:k<ks.length:=by have:=hK.out; omega
    have et:=nm_next (f:=fun k=>Al k 0 9999) hkl;rw[ha,Bool.true_and] at et;have eb:=hid (nm_bad (f:=fun k=>Al k 0 9999) hkl);replace et:=hid et;clear hc ha hkl K1;generalize ks.getD k 0=z at *;cases hv:Al z 0 9999
    . have e0:=hid (eb.out hv);replace hv:=hid hv;clear eb et;go_wp2_with fail;refine(HC z 0 9999 false _ hv.out).mono ?_;rintro e w1 ⟨rfl,rfl⟩;go_wp2;go_ret;exact⟨Ad (by rw[E.out,e0.out]; rfl),Aa B0.out (Bq.out.mono (by have:=B0.out.size; omega))⟩
    . have et:=hid (et.out.trans hv);replace hv:=hid hv;clear eb;go_wp2_with fail;refine(HC z 0 9999 true _ hv.out).mono ?_;rintro e w1 ⟨rfl,rfl⟩;go_wp2
      go_roundw
      case rel=>exact⟨k+1,by omega,by go_num,et.out,Bq.out⟩
      case measure=>simp[RowKit.intOf]; omega
  obtain rfl:m=k:=by omega
  have hall:=hid (show ks.all (fun k=>Al k 0 9999)=true by rw[<- hK.out,List.take_length] at ha; exact ha);replace B0:=hid (Aa B0.out Bq.out);replace T0:=hid (T0.out.step Bq.out);replace K0:=hid (K0.out.step Bq.out);replace S0:=hid (S0.out.step Bq.out);clear ha K1 Bq D0 x0 x1 x2;generalize wr=wa at *;have DVa:=DV;go_wp2
  go_loopw [4] (HD wa n ks ts) (fun i _=>n-(RowKit.intOf i).toNat)
  case atStart=>exact⟨0,Nat.zero_le _,rfl,rfl,Ac wa⟩
  case round =>
   obtain⟨k,hk,rfl,ha,Bq⟩:=hrel;replace DV:=hid (DV.out.step Bq);replace y0:=DV.out.cell 0 _ rfl;replace y1:=DV.out.cell 1 _ rfl;replace y2:=DV.out.cell 2 _ rfl;have T1:=hid (T0.out.step Bq);have K1:=hid (K0.out.step Bq);replace Bq:=hid Bq;by_cases hlt:k<n
   . obtain⟨b,off,eA,hb,hc⟩:=T1.out.at_ (by omega);subst eA;have hkl:k<ts.length:=by have:=hT.out; omega
     obtain⟨q,hq⟩:∃ q,ts[k]?=some q:=⟨_,List.getElem?_eq_getElem hkl⟩;have hr:=hid (hc k q hq);have hqa:=hid (T1.out.all q (List.mem_of_getElem? hq));have gq:ts.getD k kz=q:=by rw[List.getD_eq_getElem?_getD,hq]; rfl
     have et:=tkB_next ks ts k;rw[ha,Bool.true_and] at et;have eb:=fun h=>tkB_bad hkl (h:tkB ks ts k=false);replace gq:=hid gq;clear hc ha;have hlI:(k:Int)<(n:Int):=by omega
     go_wp2_with (refine wpList_load_mid rfl 84 (.tmp 48) rfl b (off+k*12) rfl q.cs _ hr.out Try.underlying84 rfl As ?_);have V:=hid (CellsAt.new wr wr.heap.size q.cs 84 rfl);replace DV:=hid (DV.out.alloc (.cells q.cs.toArray 84));replace T1:=hid (T1.out.alloc (.cells q.cs.toArray 84));replace K1:=hid (K1.out.alloc (.cells q.cs.toArray 84));have S1:=hid ((S0.out.step Bq.out).alloc (.cells q.cs.toArray 84));replace hqa:=hid (hqa.out.step (Ab (Ac wr) (.cells q.cs.toArray 84)));replace Bq:=hid (Ab Bq.out (.cells q.cs.toArray 84))
     have hbe:tkB ks ts k=(q.L.ok&&CF q.es&&(decide (k=0)||decide ((ts.getD (k-1) kz).L.i<q.L.i))&&q.es.all (fun e=>ks.getD e.p.toNat 0 != 0)):=by unfold tkB; rw[gq.out]
     rw[hbe] at eb et;replace eb:=hid eb;replace et:=hid et;clear hbe;cases hlv:q.L.ok
     . replace hlv:=hid hlv;refine wp_region_held_drew (S:=fun w'=>CellsAt w' wr.heap.size q.cs/\CellsAt w' w.heap.size [.slice (some ⟨b,off,none⟩) n c,.slice H m d,.slice G l e]) (by kernel_rfl) ⟨V.out.drew,DV.out.drew⟩ (fun hHeld=>?_);replace V:=hid (V.out.step (Ac _).drew);replace DV:=hid (DV.out.step (Ac _).drew);replace T1:=hid (T1.out.step (Ac _).drew);replace K1:=hid (K1.out.step (Ac _).drew);replace S1:=hid (S1.out.step (Ac _).drew);replace hqa:=hid (hqa.out.step (Ac _).drew);replace Bq:=hid (Af Bq.out);refine tl 0 ?_ ?_ hHeld ?_;rotate_left
       . intro w hSw
         try dsimp only at hSw
         go_simp
         all_goals with_reducible rfl
       try simp only[Act.put,sx]
       refine wpAnyH_take (i:=1) (oi:=_) (v:=.agg (q.L.cs).toArray) rfl (by kernel_rfl) (by kernel_rfl) (by kernel_rfl) (fun _ _ _ h=>h) (yieldsIf_load_mid (by rfl) 58 (.tmp 50) rfl wr.heap.size 0 rfl (q.L.cs) _ (fun W hS=>Au hS.1.range) Try.underlying58 rfl Ah) hHeld ?_
       try simp only[Act.put,sx]
       refine wpAnyH_ready (rs:=[2]) (by kernel_rfl) (by simp) ?_;apply AllReadyH.cons rfl ?_ AllReadyH.nil;intro K hK;go_simp
       go_at_call 53
       refine(BE q.L _ _ hlv.out hqa.out.I hqa.out.J hqa.out.n hqa.out.m).mono ?_;rintro e wn ⟨rfl,Bn⟩;replace V:=hid (V.out.step Bn);replace DV:=hid (DV.out.step Bn);replace T1:=hid (T1.out.step Bn);replace K1:=hid (K1.out.step Bn);replace S1:=hid (S1.out.step Bn);replace hqa:=hid (hqa.out.step Bn);replace Bq:=hid (Aa Bq.out Bn);clear Bn;clear hHeld;go_wp2_with fail;refine hK.out _ _ ⟨V.out,DV.out⟩ (fun hHeld=>?_);clear hK K
       try simp only[Act.put,sx]
       refine tl 3 ?_ ?_ hHeld ?_;rotate_left
       . intro w hSw
         try dsimp only at hSw
         go_simp
         all_goals with_reducible rfl
       try simp only[Act.put,sx]
       refine tl 4 ?_ ?_ hHeld ?_;rotate_left
       . intro w hSw
         try dsimp only at hSw
         go_simp
         all_goals with_reducible rfl
       try simp only[Act.put,sx]
       refine wpAnyH_take (i:=5) (oi:=_) (v:=undef) rfl (by kernel_rfl) (by kernel_rfl) (by kernel_rfl) (fun _ _ _ h=>h) (Or.inr ⟨by rfl,rfl⟩) hHeld ?_
       try simp only[Act.put,sx]
       refine wpAnyH_take (i:=6) (oi:=_) (v:=undef) rfl (by kernel_rfl) (by kernel_rfl) (by kernel_rfl) (fun _ _ _ h=>h) (Or.inr ⟨by rfl,rfl⟩) hHeld ?_
       try simp only[Act.put,sx]
       refine wpAnyH_take (i:=7) (oi:=_) (v:=undef) rfl (by kernel_rfl) (by kernel_rfl) (by kernel_rfl) (fun _ _ _ h=>h) (Or.inr ⟨by rfl,rfl⟩) hHeld ?_
       try simp only[Act.put,sx]
       refine wpAnyH_take (i:=8) (oi:=_) (v:=undef) rfl (by kernel_rfl) (by kernel_rfl) (by kernel_rfl) (fun _ _ _ h=>h) (Or.inr ⟨by rfl,rfl⟩) hHeld ?_
       try simp only[Act.put,sx]
       refine tl 9 ?_ ?_ hHeld ?_;rotate_left
       . intro w hSw
         try dsimp only at hSw
         go_simp
         all_goals with_reducible rfl
       try simp only[Act.put,sx]
       refine tl 10 ?_ ?_ hHeld ?_;rotate_left
       . intro w hSw
         try dsimp only at hSw
         go_simp
         all_goals with_reducible rfl
       try simp only[Act.put,sx]
       refine wpAnyH_take (i:=11) (oi:=_) (v:=undef) rfl (by kernel_rfl) (by kernel_rfl) (by kernel_rfl) (fun _ _ _ h=>h) (Or.inr ⟨by rfl,rfl⟩) hHeld ?_
       try simp only[Act.put,sx]
       refine wpAnyH_take (i:=12) (oi:=_) (v:=undef) rfl (by kernel_rfl) (by kernel_rfl) (by kernel_rfl) (fun _ _ _ h=>h) (Or.inr ⟨by rfl,rfl⟩) hHeld ?_
       try simp only[Act.put,sx]
       refine wpAnyH_take (i:=13) (oi:=_) (v:=undef) rfl (by kernel_rfl) (by kernel_rfl) (by kernel_rfl) (fun _ _ _ h=>h) (Or.inr ⟨by rfl,rfl⟩) hHeld ?_
       try simp only[Act.put,sx]
       refine wpAnyH_take (i:=14) (oi:=_) (v:=undef) rfl (by kernel_rfl) (by kernel_rfl) (by kernel_rfl) (fun _ _ _ h=>h) (Or.inr ⟨by rfl,rfl⟩) hHeld ?_
       try simp only[Act.put,sx]
       refine wpAnyH_take (i:=15) (oi:=_) (v:=undef) rfl (by kernel_rfl) (by kernel_rfl) (by kernel_rfl) (fun _ _ _ h=>h) (Or.inr ⟨by rfl,rfl⟩) hHeld ?_
       try simp only[Act.put,sx]
       refine wpAnyH_take (i:=16) (oi:=_) (v:=undef) rfl (by kernel_rfl) (by kernel_rfl) (by kernel_rfl) (fun _ _ _ h=>h) (Or.inr ⟨by rfl,rfl⟩) hHeld ?_
       try simp only[Act.put,sx]
       refine wpAnyH_take (i:=17) (oi:=_) (v:=undef) rfl (by kernel_rfl) (by kernel_rfl) (by kernel_rfl) (fun _ _ _ h=>h) (Or.inr ⟨by rfl,rfl⟩) hHeld ?_
       try simp only[Act.put,sx]
       refine wpAnyH_take (i:=18) (oi:=_) (v:=undef) rfl (by kernel_rfl) (by kernel_rfl) (by kernel_rfl) (fun _ _ _ h=>h) (Or.inr ⟨by rfl,rfl⟩) hHeld ?_
       try simp only[Act.put,sx]
       refine wpAnyH_take (i:=19) (oi:=_) (v:=undef) rfl (by kernel_rfl) (by kernel_rfl) (by kernel_rfl) (fun _ _ _ h=>h) (Or.inr ⟨by rfl,rfl⟩) hHeld ?_
       try simp only[Act.put,sx]
       refine wpAnyH_take (i:=20) (oi:=_) (v:=undef) rfl (by kernel_rfl) (by kernel_rfl) (by kernel_rfl) (fun _ _ _ h=>h) (Or.inr ⟨by rfl,rfl⟩) hHeld ?_
       try simp only[Act.put,sx]
       refine wpAnyH_take (i:=21) (oi:=_) (v:=undef) rfl (by kernel_rfl) (by kernel_rfl) (by kernel_rfl) (fun _ _ _ h=>h) (Or.inr ⟨by rfl,rfl⟩) hHeld ?_
       try simp only[Act.put,sx]
       refine wpAnyH_take (i:=22) (oi:=_) (v:=undef) rfl (by kernel_rfl) (by kernel_rfl) (by kernel_rfl) (fun _ _ _ h=>h) (Or.inr ⟨by rfl,rfl⟩) hHeld ?_
       try simp only[Act.put,sx]
       refine wpAnyH_take (i:=23) (oi:=_) (v:=undef) rfl (by kernel_rfl) (by kernel_rfl) (by kernel_rfl) (fun _ _ _ h=>h) (Or.inr ⟨by rfl,rfl⟩) hHeld ?_
       try simp only[Act.put,sx]
       refine wpAnyH_take (i:=24) (oi:=_) (v:=undef) rfl (by kernel_rfl) (by kernel_rfl) (by kernel_rfl) (fun _ _ _ h=>h) (Or.inr ⟨by rfl,rfl⟩) hHeld ?_
       try simp only[Act.put,sx]
       refine wpAnyH_take (i:=25) (oi:=_) (v:=undef) rfl (by kernel_rfl) (by kernel_rfl) (by kernel_rfl) (fun _ _ _ h=>h) (Or.inr ⟨by rfl,rfl⟩) hHeld ?_
       try simp only[Act.put,sx]
       refine wpAnyH_take (i:=26) (oi:=_) (v:=undef) rfl (by kernel_rfl) (by kernel_rfl) (by kernel_rfl) (fun _ _ _ h=>h) (Or.inr ⟨by rfl,rfl⟩) hHeld ?_
       try simp only[Act.put,sx]
       refine tl 27 ?_ ?_ hHeld ?_;rotate_left
       . intro w hSw
         try dsimp only at hSw
         go_simp
         all_goals with_reducible rfl
       try simp only[Act.put,sx]
       refine wpAnyH_done (by kernel_rfl) ?_ _;go_wp2;go_ret;exact⟨Ad (by rw[E.out,eb.out (by rw[hlv.out]; rfl)]; simp),Aa B0.out Bq.out⟩
     replace hlv:=hid hlv;cases hbv:CF q.es
     . replace hbv:=hid hbv;refine wp_region_held_drew (S:=fun w'=>CellsAt w' wr.heap.size q.cs/\CellsAt w' w.heap.size [.slice (some ⟨b,off,none⟩) n c,.slice H m d,.slice G l e]) (by kernel_rfl) ⟨V.out.drew,DV.out.drew⟩ (fun hHeld=>?_);replace V:=hid (V.out.step (Ac _).drew);replace DV:=hid (DV.out.step (Ac _).drew);replace T1:=hid (T1.out.step (Ac _).drew);replace K1:=hid (K1.out.step (Ac _).drew);replace S1:=hid (S1.out.step (Ac _).drew);replace hqa:=hid (hqa.out.step (Ac _).drew);replace Bq:=hid (Af Bq.out);refine tl 0 ?_ ?_ hHeld ?_;rotate_left
       . intro w hSw
         try dsimp only at hSw
         go_simp
         all_goals with_reducible rfl
       try simp only[Act.put,sx]
       refine wpAnyH_take (i:=1) (oi:=_) (v:=.agg (q.L.cs).toArray) rfl (by kernel_rfl) (by kernel_rfl) (by kernel_rfl) (fun _ _ _ h=>h) (yieldsIf_load_mid (by rfl) 58 (.tmp 50) rfl wr.heap.size 0 rfl (q.L.cs) _ (fun W hS=>Au hS.1.range) Try.underlying58 rfl Ah) hHeld ?_
       try simp only[Act.put,sx]
       refine wpAnyH_ready (rs:=[2]) (by kernel_rfl) (by simp) ?_;apply AllReadyH.cons rfl ?_ AllReadyH.nil;intro K hK;go_simp
       go_at_call 53
       refine(BE q.L _ _ hlv.out hqa.out.I hqa.out.J hqa.out.n hqa.out.m).mono ?_;rintro e wn ⟨rfl,Bn⟩;replace V:=hid (V.out.step Bn);replace DV:=hid (DV.out.step Bn);replace T1:=hid (T1.out.step Bn);replace K1:=hid (K1.out.step Bn);replace S1:=hid (S1.out.step Bn);replace hqa:=hid (hqa.out.step Bn);replace Bq:=hid (Aa Bq.out Bn);clear Bn;clear hHeld;go_wp2_with fail;refine hK.out _ _ ⟨V.out,DV.out⟩ (fun hHeld=>?_);clear hK K
       try simp only[Act.put,sx]
       refine tl 3 ?_ ?_ hHeld ?_;rotate_left
       . intro w hSw
         try dsimp only at hSw
         go_simp
         all_goals with_reducible rfl
       try simp only[Act.put,sx]
       refine tl 4 ?_ ?_ hHeld ?_;rotate_left
       . intro w hSw
         try dsimp only at hSw
         go_simp
         all_goals with_reducible rfl
       try simp only[Act.put,sx]
       refine tl 5 ?_ ?_ hHeld ?_;rotate_left
       . intro w hSw
         try dsimp only at hSw
         go_simp
         all_goals with_reducible rfl
       try simp only[Act.put,sx]
       refine tl 6 ?_ ?_ hHeld ?_;rotate_left
       . intro w hSw;have v11:=hSw.1.cell 11 _ rfl;go_simp
         all_goals with_reducible rfl
       try simp only[Act.put,sx]
       refine wpAnyH_ready (rs:=[7]) (by kernel_rfl) (by simp) ?_;apply AllReadyH.cons rfl ?_ AllReadyH.nil;intro K hK;go_simp
       go_at_call 54
       refine(Cd q.D q.l q.cc q.es _ _ hbv.out hqa.out.E hqa.out.l).mono ?_;rintro e wn ⟨rfl,Bn⟩;replace V:=hid (V.out.step Bn);replace DV:=hid (DV.out.step Bn);replace T1:=hid (T1.out.step Bn);replace K1:=hid (K1.out.step Bn);replace S1:=hid (S1.out.step Bn);replace hqa:=hid (hqa.out.step Bn);replace Bq:=hid (Aa Bq.out Bn);clear Bn;clear hHeld;go_wp2_with fail;refine hK.out _ _ ⟨V.out,DV.out⟩ (fun hHeld=>?_);clear hK K
       try simp only[Act.put,sx]
       refine tl 8 ?_ ?_ hHeld ?_;rotate_left
       . intro w hSw
         try dsimp only at hSw
         go_simp
         all_goals with_reducible rfl
       try simp only[Act.put,sx]
       refine tl 9 ?_ ?_ hHeld ?_;rotate_left
       . intro w hSw
         try dsimp only at hSw
         go_simp
         all_goals with_reducible rfl
       try simp only[Act.put,sx]
       refine tl 10 ?_ ?_ hHeld ?_;rotate_left
       . intro w hSw
         try dsimp only at hSw
         go_simp
         all_goals with_reducible rfl
       try simp only[Act.put,sx]
       refine wpAnyH_take (i:=11) (oi:=_) (v:=undef) rfl (by kernel_rfl) (by kernel_rfl) (by kernel_rfl) (fun _ _ _ h=>h) (Or.inr ⟨by rfl,rfl⟩) hHeld ?_
       try simp only[Act.put,sx]
       refine wpAnyH_take (i:=12) (oi:=_) (v:=undef) rfl (by kernel_rfl) (by kernel_rfl) (by kernel_rfl) (fun _ _ _ h=>h) (Or.inr ⟨by rfl,rfl⟩) hHeld ?_
       try simp only[Act.put,sx]
       refine wpAnyH_take (i:=13) (oi:=_) (v:=undef) rfl (by kernel_rfl) (by kernel_rfl) (by kernel_rfl) (fun _ _ _ h=>h) (Or.inr ⟨by rfl,rfl⟩) hHeld ?_
       try simp only[Act.put,sx]
       refine wpAnyH_take (i:=14) (oi:=_) (v:=undef) rfl (by kernel_rfl) (by kernel_rfl) (by kernel_rfl) (fun _ _ _ h=>h) (Or.inr ⟨by rfl,rfl⟩) hHeld ?_
       try simp only[Act.put,sx]
       refine wpAnyH_take (i:=15) (oi:=_) (v:=undef) rfl (by kernel_rfl) (by kernel_rfl) (by kernel_rfl) (fun _ _ _ h=>h) (Or.inr ⟨by rfl,rfl⟩) hHeld ?_
       try simp only[Act.put,sx]
       refine wpAnyH_take (i:=16) (oi:=_) (v:=undef) rfl (by kernel_rfl) (by kernel_rfl) (by kernel_rfl) (fun _ _ _ h=>h) (Or.inr ⟨by rfl,rfl⟩) hHeld ?_
       try simp only[Act.put,sx]
       refine wpAnyH_take (i:=17) (oi:=_) (v:=undef) rfl (by kernel_rfl) (by kernel_rfl) (by kernel_rfl) (fun _ _ _ h=>h) (Or.inr ⟨by rfl,rfl⟩) hHeld ?_
       try simp only[Act.put,sx]
       refine wpAnyH_take (i:=18) (oi:=_) (v:=undef) rfl (by kernel_rfl) (by kernel_rfl) (by kernel_rfl) (fun _ _ _ h=>h) (Or.inr ⟨by rfl,rfl⟩) hHeld ?_
       try simp only[Act.put,sx]
       refine wpAnyH_take (i:=19) (oi:=_) (v:=undef) rfl (by kernel_rfl) (by kernel_rfl) (by kernel_rfl) (fun _ _ _ h=>h) (Or.inr ⟨by rfl,rfl⟩) hHeld ?_
       try simp only[Act.put,sx]
       refine wpAnyH_take (i:=20) (oi:=_) (v:=undef) rfl (by kernel_rfl) (by kernel_rfl) (by kernel_rfl) (fun _ _ _ h=>h) (Or.inr ⟨by rfl,rfl⟩) hHeld ?_
       try simp only[Act.put,sx]
       refine wpAnyH_take (i:=21) (oi:=_) (v:=undef) rfl (by kernel_rfl) (by kernel_rfl) (by kernel_rfl) (fun _ _ _ h=>h) (Or.inr ⟨by rfl,rfl⟩) hHeld ?_
       try simp only[Act.put,sx]
       refine wpAnyH_take (i:=22) (oi:=_) (v:=undef) rfl (by kernel_rfl) (by kernel_rfl) (by kernel_rfl) (fun _ _ _ h=>h) (Or.inr ⟨by rfl,rfl⟩) hHeld ?_
       try simp only[Act.put,sx]
       refine wpAnyH_take (i:=23) (oi:=_) (v:=undef) rfl (by kernel_rfl) (by kernel_rfl) (by kernel_rfl) (fun _ _ _ h=>h) (Or.inr ⟨by rfl,rfl⟩) hHeld ?_
       try simp only[Act.put,sx]
       refine wpAnyH_take (i:=24) (oi:=_) (v:=undef) rfl (by kernel_rfl) (by kernel_rfl) (by kernel_rfl) (fun _ _ _ h=>h) (Or.inr ⟨by rfl,rfl⟩) hHeld ?_
       try simp only[Act.put,sx]
       refine wpAnyH_take (i:=25) (oi:=_) (v:=undef) rfl (by kernel_rfl) (by kernel_rfl) (by kernel_rfl) (fun _ _ _ h=>h) (Or.inr ⟨by rfl,rfl⟩) hHeld ?_
       try simp only[Act.put,sx]
       refine wpAnyH_take (i:=26) (oi:=_) (v:=undef) rfl (by kernel_rfl) (by kernel_rfl) (by kernel_rfl) (fun _ _ _ h=>h) (Or.inr ⟨by rfl,rfl⟩) hHeld ?_
       try simp only[Act.put,sx]
       refine tl 27 ?_ ?_ hHeld ?_;rotate_left
       . intro w hSw
         try dsimp only at hSw
         go_simp
         all_goals with_reducible rfl
       try simp only[Act.put,sx]
       refine wpAnyH_done (by kernel_rfl) ?_ _;go_wp2;go_ret;exact⟨Ad (by rw[E.out,eb.out (by rw[hlv.out,hbv.out]; rfl)]; simp),Aa B0.out Bq.out⟩
     obtain⟨ob,hob⟩:∃ ob,(decide (k=0)||decide ((ts.getD (k-1) kz).L.i<q.L.i))=ob:=⟨_,rfl⟩;obtain⟨ip,hip⟩:∃ ip,(ts.getD (k-1) kz).L.i=ip:=⟨_,rfl⟩;rw[hip] at hob;have pcx:=hid (show 0<k->∀ W:World,Tracks W (some ⟨b,off,none⟩) n ts->W.cell? ⟨b,off+(k-1)*12,none⟩=some (.int .i64 ip) from fun h0 W Z=>by
      obtain⟨b',off',e,_,hc⟩:=Z.at_ (by omega);cases e
      have hk1:k-1<ts.length:=by omega
      have t:=hc (k-1) (ts[k-1]) (List.getElem?_eq_getElem hk1) 0 _ rfl;rw[<- hip,List.getD_eq_getElem?_getD,List.getElem?_eq_getElem hk1];exact t)
     replace hip:=hid hip;have hbd:=hid (E8.1 hbv);replace hbv:=hid hbv;have hltk:=hid hlt
     go_cut [77] from 38 to 95 (fun v W=>v=.bool (!ob)/\CellsAt W wr.heap.size q.cs/\Below wa.heap.size wa W)
     case first =>
      by_cases h0:k=0
      . have z0:decide ((0:Int)<(k:Int))=false:=decide_eq_false (by omega);have z1:decide (0<k)=false:=decide_eq_false (by omega);have z2:¬ 0<k:=by omega
        have hob2:=hid (show ob=true by rw[<- hob,decide_eq_true h0]; rfl);replace h0:=hid h0;clear hob;replace T1:=T1;refine wp_region_held_drew (S:=fun w'=>CellsAt w' wr.heap.size q.cs/\CellsAt w' w.heap.size [.slice (some ⟨b,off,none⟩) n c,.slice H m d,.slice G l e]) (by kernel_rfl) ⟨V.out.drew,DV.out.drew⟩ (fun hHeld=>?_);replace V:=hid (V.out.step (Ac _).drew);replace DV:=hid (DV.out.step (Ac _).drew);replace T1:=hid (T1.out.step (Ac _).drew);replace K1:=hid (K1.out.step (Ac _).drew);replace S1:=hid (S1.out.step (Ac _).drew);replace hqa:=hid (hqa.out.step (Ac _).drew);replace Bq:=hid (Af Bq.out)
        refine tl 0 ?_ ?_ hHeld ?_;rotate_left
        . intro w hSw
          try dsimp only at hSw
          go_simp
          all_goals with_reducible rfl
        try simp only[Act.put,sx]
        refine wpAnyH_take (i:=1) (oi:=_) (v:=.agg (q.L.cs).toArray) rfl (by kernel_rfl) (by kernel_rfl) (by kernel_rfl) (fun _ _ _ h=>h) (yieldsIf_load_mid (by rfl) 58 (.tmp 50) rfl wr.heap.size 0 rfl (q.L.cs) _ (fun W hS=>Au hS.1.range) Try.underlying58 rfl Ah) hHeld ?_
        try simp only[Act.put,sx]
        refine wpAnyH_ready (rs:=[2]) (by kernel_rfl) (by simp) ?_;apply AllReadyH.cons rfl ?_ AllReadyH.nil;intro K hK;go_simp
        go_at_call 53
        refine(BE q.L _ _ hlv.out hqa.out.I hqa.out.J hqa.out.n hqa.out.m).mono ?_;rintro e wn ⟨rfl,Bn⟩;replace V:=hid (V.out.step Bn);replace DV:=hid (DV.out.step Bn);replace T1:=hid (T1.out.step Bn);replace K1:=hid (K1.out.step Bn);replace S1:=hid (S1.out.step Bn);replace hqa:=hid (hqa.out.step Bn);replace Bq:=hid (Aa Bq.out Bn);clear Bn;clear hHeld;go_wp2_with fail;refine hK.out _ _ ⟨V.out,DV.out⟩ (fun hHeld=>?_);clear hK K
        try simp only[Act.put,sx]
        refine tl 3 ?_ ?_ hHeld ?_;rotate_left
        . intro w hSw
          try dsimp only at hSw
          go_simp
          all_goals with_reducible rfl
        try simp only[Act.put,sx]
        refine tl 4 ?_ ?_ hHeld ?_;rotate_left
        . intro w hSw
          try dsimp only at hSw
          go_simp
          all_goals with_reducible rfl
        try simp only[Act.put,sx]
        refine tl 5 ?_ ?_ hHeld ?_;rotate_left
        . intro w hSw
          try dsimp only at hSw
          go_simp
          all_goals with_reducible rfl
        try simp only[Act.put,sx]
        refine tl 6 ?_ ?_ hHeld ?_;rotate_left
        . intro w hSw;have v11:=hSw.1.cell 11 _ rfl;go_simp
          all_goals with_reducible rfl
        try simp only[Act.put,sx]
        refine wpAnyH_ready (rs:=[7]) (by kernel_rfl) (by simp) ?_;apply AllReadyH.cons rfl ?_ AllReadyH.nil;intro K hK;go_simp
        go_at_call 54
        refine(Cd q.D q.l q.cc q.es _ _ hbv.out hqa.out.E hqa.out.l).mono ?_;rintro e wn ⟨rfl,Bn⟩;replace V:=hid (V.out.step Bn);replace DV:=hid (DV.out.step Bn);replace T1:=hid (T1.out.step Bn);replace K1:=hid (K1.out.step Bn);replace S1:=hid (S1.out.step Bn);replace hqa:=hid (hqa.out.step Bn);replace Bq:=hid (Aa Bq.out Bn);clear Bn;clear hHeld;go_wp2_with fail;refine hK.out _ _ ⟨V.out,DV.out⟩ (fun hHeld=>?_);clear hK K
        try simp only[Act.put,sx]
        refine tl 8 ?_ ?_ hHeld ?_;rotate_left
        . intro w hSw
          try dsimp only at hSw
          go_simp
          all_goals with_reducible rfl
        try simp only[Act.put,sx]
        refine tl 9 ?_ ?_ hHeld ?_;rotate_left
        . intro w hSw
          try dsimp only at hSw
          go_simp
          all_goals with_reducible rfl
        try simp only[Act.put,sx]
        refine tl 10 ?_ ?_ hHeld ?_;rotate_left
        . intro w hSw
          try dsimp only at hSw
          go_simp
          all_goals with_reducible rfl
        try simp only[Act.put,sx]
        refine tl 11 ?_ ?_ hHeld ?_;rotate_left
        . intro w hSw
          try dsimp only at hSw
          go_simp
          all_goals with_reducible rfl
        try simp only[Act.put,sx]
        refine tl 12 ?_ ?_ hHeld ?_;rotate_left
        . intro w hSw
          try dsimp only at hSw
          go_simp
          all_goals with_reducible rfl
        try simp only[Act.put,sx]
        refine tl 13 ?_ ?_ hHeld ?_;rotate_left
        . intro w hSw
          try dsimp only at hSw
          go_simp
          all_goals with_reducible rfl
        try simp only[Act.put,sx]
        refine wpAnyH_take (i:=14) (oi:=_) (v:=undef) rfl (by kernel_rfl) (by kernel_rfl) (by kernel_rfl) (fun _ _ _ h=>h) (Or.inr ⟨by rfl,rfl⟩) hHeld ?_
        try simp only[Act.put,sx]
        refine wpAnyH_take (i:=15) (oi:=_) (v:=undef) rfl (by kernel_rfl) (by kernel_rfl) (by kernel_rfl) (fun _ _ _ h=>h) (Or.inr ⟨by rfl,rfl⟩) hHeld ?_
        try simp only[Act.put,sx]
        refine wpAnyH_take (i:=16) (oi:=_) (v:=undef) rfl (by kernel_rfl) (by kernel_rfl) (by kernel_rfl) (fun _ _ _ h=>h) (Or.inr ⟨by rfl,rfl⟩) hHeld ?_
        try simp only[Act.put,sx]
        refine wpAnyH_take (i:=17) (oi:=_) (v:=undef) rfl (by kernel_rfl) (by kernel_rfl) (by kernel_rfl) (fun _ _ _ h=>h) (Or.inr ⟨by rfl,rfl⟩) hHeld ?_
        try simp only[Act.put,sx]
        refine wpAnyH_take (i:=18) (oi:=_) (v:=undef) rfl (by kernel_rfl) (by kernel_rfl) (by kernel_rfl) (fun _ _ _ h=>h) (Or.inr ⟨by rfl,rfl⟩) hHeld ?_
        try simp only[Act.put,sx]
        refine wpAnyH_take (i:=19) (oi:=_) (v:=undef) rfl (by kernel_rfl) (by kernel_rfl) (by kernel_rfl) (fun _ _ _ h=>h) (Or.inr ⟨by rfl,rfl⟩) hHeld ?_
        try simp only[Act.put,sx]
        refine wpAnyH_take (i:=20) (oi:=_) (v:=undef) rfl (by kernel_rfl) (by kernel_rfl) (by kernel_rfl) (fun _ _ _ h=>h) (Or.inr ⟨by rfl,rfl⟩) hHeld ?_
        try simp only[Act.put,sx]
        refine wpAnyH_take (i:=21) (oi:=_) (v:=undef) rfl (by kernel_rfl) (by kernel_rfl) (by kernel_rfl) (fun _ _ _ h=>h) (Or.inr ⟨by rfl,rfl⟩) hHeld ?_
        try simp only[Act.put,sx]
        refine wpAnyH_take (i:=22) (oi:=_) (v:=undef) rfl (by kernel_rfl) (by kernel_rfl) (by kernel_rfl) (fun _ _ _ h=>h) (Or.inr ⟨by rfl,rfl⟩) hHeld ?_
        try simp only[Act.put,sx]
        refine wpAnyH_take (i:=23) (oi:=_) (v:=undef) rfl (by kernel_rfl) (by kernel_rfl) (by kernel_rfl) (fun _ _ _ h=>h) (Or.inr ⟨by rfl,rfl⟩) hHeld ?_
        try simp only[Act.put,sx]
        refine wpAnyH_take (i:=24) (oi:=_) (v:=undef) rfl (by kernel_rfl) (by kernel_rfl) (by kernel_rfl) (fun _ _ _ h=>h) (Or.inr ⟨by rfl,rfl⟩) hHeld ?_
        try simp only[Act.put,sx]
        refine wpAnyH_take (i:=25) (oi:=_) (v:=undef) rfl (by kernel_rfl) (by kernel_rfl) (by kernel_rfl) (fun _ _ _ h=>h) (Or.inr ⟨by rfl,rfl⟩) hHeld ?_
        try simp only[Act.put,sx]
        refine tl 26 ?_ ?_ hHeld ?_;rotate_left
        . intro w hSw
          try dsimp only at hSw
          go_simp
          all_goals with_reducible rfl
        try simp only[Act.put,sx]
        refine tl 27 ?_ ?_ hHeld ?_;rotate_left
        . intro w hSw
          try dsimp only at hSw
          go_simp
          all_goals with_reducible rfl
        try simp only[Act.put,sx]
        refine wpAnyH_done (by kernel_rfl) ?_ _;go_wp2_with fail
        go_meet
        case rel=>exact⟨by rw[hob2.out]; rfl,V.out,Bq.out⟩
      . have z0:decide ((0:Int)<(k:Int))=true:=decide_eq_true (by omega);have z1:decide (0<k)=true:=decide_eq_true (by omega);have z2:0<k:=by omega
        have hk1:IntKind.i64.wrap ((k:Int)-1)=((k-1:Nat):Int):=by rw[IntWalk.i64_in _ (by omega)]; omega
        have hk2:(k:Int)-1=((k-1:Nat):Int):=by omega
        have hk3:k-1<n:=by omega
        have hk5:IntKind.i64.wrap ((k-1:Nat):Int)=((k-1:Nat):Int):=IntWalk.i64_in _ (by omega);replace pcx:=hid (pcx.out z2);have pc:=pcx.out _ T1.out;by_cases hlt2:ip<q.L.i
        . have z3:decide (q.L.i<=ip)=false:=decide_eq_false (by omega);have hob2:=hid (show ob=true by rw[<- hob,decide_eq_true hlt2,Bool.or_true]);replace h0:=hid h0;replace hlt2:=hid hlt2;clear hob;refine wp_region_held_drew (S:=fun w'=>CellsAt w' wr.heap.size q.cs/\CellsAt w' w.heap.size [.slice (some ⟨b,off,none⟩) n c,.slice H m d,.slice G l e]/\w'.cell? ⟨b,off+(k-1)*12,none⟩=some (.int .i64 ip)) (by kernel_rfl) ⟨V.out.drew,DV.out.drew,pc⟩ (fun hHeld=>?_);replace V:=hid (V.out.step (Ac _).drew);replace DV:=hid (DV.out.step (Ac _).drew);replace T1:=hid (T1.out.step (Ac _).drew);replace K1:=hid (K1.out.step (Ac _).drew)
          replace S1:=hid (S1.out.step (Ac _).drew);replace hqa:=hid (hqa.out.step (Ac _).drew);replace Bq:=hid (Af Bq.out);refine tl 0 ?_ ?_ hHeld ?_;rotate_left
          . intro w hSw
            try dsimp only at hSw
            go_simp
            all_goals with_reducible rfl
          try simp only[Act.put,sx]
          refine wpAnyH_take (i:=1) (oi:=_) (v:=.agg (q.L.cs).toArray) rfl (by kernel_rfl) (by kernel_rfl) (by kernel_rfl) (fun _ _ _ h=>h) (yieldsIf_load_mid (by rfl) 58 (.tmp 50) rfl wr.heap.size 0 rfl (q.L.cs) _ (fun W hS=>Au hS.1.range) Try.underlying58 rfl Ah) hHeld ?_
          try simp only[Act.put,sx]
          refine wpAnyH_ready (rs:=[2]) (by kernel_rfl) (by simp) ?_;apply AllReadyH.cons rfl ?_ AllReadyH.nil;intro K hK;go_simp
          go_at_call 53
          refine(BE q.L _ _ hlv.out hqa.out.I hqa.out.J hqa.out.n hqa.out.m).mono ?_;rintro e wn ⟨rfl,Bn⟩;replace V:=hid (V.out.step Bn);replace DV:=hid (DV.out.step Bn);replace T1:=hid (T1.out.step Bn);replace K1:=hid (K1.out.step Bn);replace S1:=hid (S1.out.step Bn);replace hqa:=hid (hqa.out.step Bn);replace pc:=pcx.out _ T1.out;replace Bq:=hid (Aa Bq.out Bn);clear Bn;clear hHeld;go_wp2_with fail;refine hK.out _ _ ⟨V.out,DV.out,pc⟩ (fun hHeld=>?_);clear hK K
          try simp only[Act.put,sx]
          refine tl 3 ?_ ?_ hHeld ?_;rotate_left
          . intro w hSw
            try dsimp only at hSw
            go_simp
            all_goals with_reducible rfl
          try simp only[Act.put,sx]
          refine tl 4 ?_ ?_ hHeld ?_;rotate_left
          . intro w hSw
            try dsimp only at hSw
            go_simp
            all_goals with_reducible rfl
          try simp only[Act.put,sx]
          refine tl 5 ?_ ?_ hHeld ?_;rotate_left
          . intro w hSw
            try dsimp only at hSw
            go_simp
            all_goals with_reducible rfl
          try simp only[Act.put,sx]
          refine tl 6 ?_ ?_ hHeld ?_;rotate_left
          . intro w hSw;have v11:=hSw.1.cell 11 _ rfl;go_simp
            all_goals with_reducible rfl
          try simp only[Act.put,sx]
          refine wpAnyH_ready (rs:=[7]) (by kernel_rfl) (by simp) ?_;apply AllReadyH.cons rfl ?_ AllReadyH.nil;intro K hK;go_simp
          go_at_call 54
          refine(Cd q.D q.l q.cc q.es _ _ hbv.out hqa.out.E hqa.out.l).mono ?_;rintro e wn ⟨rfl,Bn⟩;replace V:=hid (V.out.step Bn);replace DV:=hid (DV.out.step Bn);replace T1:=hid (T1.out.step Bn);replace K1:=hid (K1.out.step Bn);replace S1:=hid (S1.out.step Bn);replace hqa:=hid (hqa.out.step Bn);replace pc:=pcx.out _ T1.out;replace Bq:=hid (Aa Bq.out Bn);clear Bn;clear hHeld;go_wp2_with fail;refine hK.out _ _ ⟨V.out,DV.out,pc⟩ (fun hHeld=>?_);clear hK K
          try simp only[Act.put,sx]
          refine tl 8 ?_ ?_ hHeld ?_;rotate_left
          . intro w hSw
            try dsimp only at hSw
            go_simp
            all_goals with_reducible rfl
          try simp only[Act.put,sx]
          refine tl 9 ?_ ?_ hHeld ?_;rotate_left
          . intro w hSw
            try dsimp only at hSw
            go_simp
            all_goals with_reducible rfl
          try simp only[Act.put,sx]
          refine tl 10 ?_ ?_ hHeld ?_;rotate_left
          . intro w hSw
            try dsimp only at hSw
            go_simp
            all_goals with_reducible rfl
          try simp only[Act.put,sx]
          refine tl 11 ?_ ?_ hHeld ?_;rotate_left
          . intro w hSw
            try dsimp only at hSw
            go_simp
            all_goals with_reducible rfl
          try simp only[Act.put,sx]
          refine tl 12 ?_ ?_ hHeld ?_;rotate_left
          . intro w hSw
            try dsimp only at hSw
            go_simp
            all_goals with_reducible rfl
          try simp only[Act.put,sx]
          refine tl 13 ?_ ?_ hHeld ?_;rotate_left
          . intro w hSw
            try dsimp only at hSw
            go_simp
            all_goals with_reducible rfl
          try simp only[Act.put,sx]
          refine tl 14 ?_ ?_ hHeld ?_;rotate_left
          . intro w hSw
            try dsimp only at hSw
            go_simp
            all_goals with_reducible rfl
          try simp only[Act.put,sx]
          refine tl 15 ?_ ?_ hHeld ?_;rotate_left
          . intro w hSw;have u0:=hSw.2.1.cell 0 _ rfl;go_simp
            all_goals with_reducible rfl
          try simp only[Act.put,sx]
          refine tl 16 ?_ ?_ hHeld ?_;rotate_left
          . intro w hSw
            try dsimp only at hSw
            go_simp
            all_goals with_reducible rfl
          try simp only[Act.put,sx]
          refine tl 17 ?_ ?_ hHeld ?_;rotate_left
          . intro w hSw
            try dsimp only at hSw
            go_simp
            all_goals with_reducible rfl
          try simp only[Act.put,sx]
          refine tl 18 ?_ ?_ hHeld ?_;rotate_left
          . intro w hSw
            try dsimp only at hSw
            go_simp
            all_goals with_reducible rfl
          try simp only[Act.put,sx]
          refine tl 19 ?_ ?_ hHeld ?_;rotate_left
          . intro w hSw
            try dsimp only at hSw
            go_simp
            all_goals with_reducible rfl
          try simp only[Act.put,sx]
          refine tl 20 ?_ ?_ hHeld ?_;rotate_left
          . intro w hSw
            try dsimp only at hSw
            go_simp
            all_goals with_reducible rfl
          try simp only[Act.put,sx]
          refine tl 21 ?_ ?_ hHeld ?_;rotate_left
          . intro w hSw;have u1:=hSw.2.2;go_simp
            all_goals with_reducible rfl
          try simp only[Act.put,sx]
          refine tl 22 ?_ ?_ hHeld ?_;rotate_left
          . intro w hSw
            try dsimp only at hSw
            go_simp
            all_goals with_reducible rfl
          try simp only[Act.put,sx]
          refine tl 23 ?_ ?_ hHeld ?_;rotate_left
          . intro w hSw
            try dsimp only at hSw
            go_simp
            all_goals with_reducible rfl
          try simp only[Act.put,sx]
          refine tl 24 ?_ ?_ hHeld ?_;rotate_left
          . intro w hSw;have u2:=hSw.1.cell 0 _ rfl;go_simp
            all_goals with_reducible rfl
          try simp only[Act.put,sx]
          refine tl 25 ?_ ?_ hHeld ?_;rotate_left
          . intro w hSw
            try dsimp only at hSw
            go_simp
            all_goals with_reducible rfl
          try simp only[Act.put,sx]
          refine tl 26 ?_ ?_ hHeld ?_;rotate_left
          . intro w hSw
            try dsimp only at hSw
            go_simp
            all_goals with_reducible rfl
          try simp only[Act.put,sx]
          refine tl 27 ?_ ?_ hHeld ?_;rotate_left
          . intro w hSw
            try dsimp only at hSw
            go_simp
            all_goals with_reducible rfl
          try simp only[Act.put,sx]
          refine wpAnyH_done (by kernel_rfl) ?_ _;go_wp2_with fail
          go_meet
          case rel=>exact⟨by rw[hob2.out]; rfl,V.out,Bq.out⟩
        . have z3:decide (q.L.i<=ip)=true:=decide_eq_true (by omega);have hob2:=hid (show ob=false by rw[<- hob,decide_eq_false hlt2,decide_eq_false h0]; rfl);replace h0:=hid h0;replace hlt2:=hid hlt2;clear hob;refine wp_region_held_drew (S:=fun w'=>CellsAt w' wr.heap.size q.cs/\CellsAt w' w.heap.size [.slice (some ⟨b,off,none⟩) n c,.slice H m d,.slice G l e]/\w'.cell? ⟨b,off+(k-1)*12,none⟩=some (.int .i64 ip)) (by kernel_rfl) ⟨V.out.drew,DV.out.drew,pc⟩ (fun hHeld=>?_);replace V:=hid (V.out.step (Ac _).drew);replace DV:=hid (DV.out.step (Ac _).drew);replace T1:=hid (T1.out.step (Ac _).drew)
          replace K1:=hid (K1.out.step (Ac _).drew);replace S1:=hid (S1.out.step (Ac _).drew);replace hqa:=hid (hqa.out.step (Ac _).drew);replace Bq:=hid (Af Bq.out);refine tl 0 ?_ ?_ hHeld ?_;rotate_left
          . intro w hSw
            try dsimp only at hSw
            go_simp
            all_goals with_reducible rfl
          try simp only[Act.put,sx]
          refine wpAnyH_take (i:=1) (oi:=_) (v:=.agg (q.L.cs).toArray) rfl (by kernel_rfl) (by kernel_rfl) (by kernel_rfl) (fun _ _ _ h=>h) (yieldsIf_load_mid (by rfl) 58 (.tmp 50) rfl wr.heap.size 0 rfl (q.L.cs) _ (fun W hS=>Au hS.1.range) Try.underlying58 rfl Ah) hHeld ?_
          try simp only[Act.put,sx]
          refine wpAnyH_ready (rs:=[2]) (by kernel_rfl) (by simp) ?_;apply AllReadyH.cons rfl ?_ AllReadyH.nil;intro K hK;go_simp
          go_at_call 53
          refine(BE q.L _ _ hlv.out hqa.out.I hqa.out.J hqa.out.n hqa.out.m).mono ?_;rintro e wn ⟨rfl,Bn⟩;replace V:=hid (V.out.step Bn);replace DV:=hid (DV.out.step Bn);replace T1:=hid (T1.out.step Bn);replace K1:=hid (K1.out.step Bn);replace S1:=hid (S1.out.step Bn);replace hqa:=hid (hqa.out.step Bn);replace pc:=pcx.out _ T1.out;replace Bq:=hid (Aa Bq.out Bn);clear Bn;clear hHeld;go_wp2_with fail;refine hK.out _ _ ⟨V.out,DV.out,pc⟩ (fun hHeld=>?_);clear hK K
          try simp only[Act.put,sx]
          refine tl 3 ?_ ?_ hHeld ?_;rotate_left
          . intro w hSw
            try dsimp only at hSw
            go_simp
            all_goals with_reducible rfl
          try simp only[Act.put,sx]
          refine tl 4 ?_ ?_ hHeld ?_;rotate_left
          . intro w hSw
            try dsimp only at hSw
            go_simp
            all_goals with_reducible rfl
          try simp only[Act.put,sx]
          refine tl 5 ?_ ?_ hHeld ?_;rotate_left
          . intro w hSw
            try dsimp only at hSw
            go_simp
            all_goals with_reducible rfl
          try simp only[Act.put,sx]
          refine tl 6 ?_ ?_ hHeld ?_;rotate_left
          . intro w hSw;have v11:=hSw.1.cell 11 _ rfl;go_simp
            all_goals with_reducible rfl
          try simp only[Act.put,sx]
          refine wpAnyH_ready (rs:=[7]) (by kernel_rfl) (by simp) ?_;apply AllReadyH.cons rfl ?_ AllReadyH.nil;intro K hK;go_simp
          go_at_call 54
          refine(Cd q.D q.l q.cc q.es _ _ hbv.out hqa.out.E hqa.out.l).mono ?_;rintro e wn ⟨rfl,Bn⟩;replace V:=hid (V.out.step Bn);replace DV:=hid (DV.out.step Bn);replace T1:=hid (T1.out.step Bn);replace K1:=hid (K1.out.step Bn);replace S1:=hid (S1.out.step Bn);replace hqa:=hid (hqa.out.step Bn);replace pc:=pcx.out _ T1.out;replace Bq:=hid (Aa Bq.out Bn);clear Bn;clear hHeld;go_wp2_with fail;refine hK.out _ _ ⟨V.out,DV.out,pc⟩ (fun hHeld=>?_);clear hK K
          try simp only[Act.put,sx]
          refine tl 8 ?_ ?_ hHeld ?_;rotate_left
          . intro w hSw
            try dsimp only at hSw
            go_simp
            all_goals with_reducible rfl
          try simp only[Act.put,sx]
          refine tl 9 ?_ ?_ hHeld ?_;rotate_left
          . intro w hSw
            try dsimp only at hSw
            go_simp
            all_goals with_reducible rfl
          try simp only[Act.put,sx]
          refine tl 10 ?_ ?_ hHeld ?_;rotate_left
          . intro w hSw
            try dsimp only at hSw
            go_simp
            all_goals with_reducible rfl
          try simp only[Act.put,sx]
          refine tl 11 ?_ ?_ hHeld ?_;rotate_left
          . intro w hSw
            try dsimp only at hSw
            go_simp
            all_goals with_reducible rfl
          try simp only[Act.put,sx]
          refine tl 12 ?_ ?_ hHeld ?_;rotate_left
          . intro w hSw
            try dsimp only at hSw
            go_simp
            all_goals with_reducible rfl
          try simp only[Act.put,sx]
          refine tl 13 ?_ ?_ hHeld ?_;rotate_left
          . intro w hSw
            try dsimp only at hSw
            go_simp
            all_goals with_reducible rfl
          try simp only[Act.put,sx]
          refine tl 14 ?_ ?_ hHeld ?_;rotate_left
          . intro w hSw
            try dsimp only at hSw
            go_simp
            all_goals with_reducible rfl
          try simp only[Act.put,sx]
          refine tl 15 ?_ ?_ hHeld ?_;rotate_left
          . intro w hSw;have u0:=hSw.2.1.cell 0 _ rfl;go_simp
            all_goals with_reducible rfl
          try simp only[Act.put,sx]
          refine tl 16 ?_ ?_ hHeld ?_;rotate_left
          . intro w hSw
            try dsimp only at hSw
            go_simp
            all_goals with_reducible rfl
          try simp only[Act.put,sx]
          refine tl 17 ?_ ?_ hHeld ?_;rotate_left
          . intro w hSw
            try dsimp only at hSw
            go_simp
            all_goals with_reducible rfl
          try simp only[Act.put,sx]
          refine tl 18 ?_ ?_ hHeld ?_;rotate_left
          . intro w hSw
            try dsimp only at hSw
            go_simp
            all_goals with_reducible rfl
          try simp only[Act.put,sx]
          refine tl 19 ?_ ?_ hHeld ?_;rotate_left
          . intro w hSw
            try dsimp only at hSw
            go_simp
            all_goals with_reducible rfl
          try simp only[Act.put,sx]
          refine tl 20 ?_ ?_ hHeld ?_;rotate_left
          . intro w hSw
            try dsimp only at hSw
            go_simp
            all_goals with_reducible rfl
          try simp only[Act.put,sx]
          refine tl 21 ?_ ?_ hHeld ?_;rotate_left
          . intro w hSw;have u1:=hSw.2.2;go_simp
            all_goals with_reducible rfl
          try simp only[Act.put,sx]
          refine tl 22 ?_ ?_ hHeld ?_;rotate_left
          . intro w hSw
            try dsimp only at hSw
            go_simp
            all_goals with_reducible rfl
          try simp only[Act.put,sx]
          refine tl 23 ?_ ?_ hHeld ?_;rotate_left
          . intro w hSw
            try dsimp only at hSw
            go_simp
            all_goals with_reducible rfl
          try simp only[Act.put,sx]
          refine tl 24 ?_ ?_ hHeld ?_;rotate_left
          . intro w hSw;have u2:=hSw.1.cell 0 _ rfl;go_simp
            all_goals with_reducible rfl
          try simp only[Act.put,sx]
          refine tl 25 ?_ ?_ hHeld ?_;rotate_left
          . intro w hSw
            try dsimp only at hSw
            go_simp
            all_goals with_reducible rfl
          try simp only[Act.put,sx]
          refine tl 26 ?_ ?_ hHeld ?_;rotate_left
          . intro w hSw
            try dsimp only at hSw
            go_simp
            all_goals with_reducible rfl
          try simp only[Act.put,sx]
          refine tl 27 ?_ ?_ hHeld ?_;rotate_left
          . intro w hSw
            try dsimp only at hSw
            go_simp
            all_goals with_reducible rfl
          try simp only[Act.put,sx]
          refine wpAnyH_done (by kernel_rfl) ?_ _;go_wp2_with fail
          go_meet
          case rel=>exact⟨by rw[hob2.out]; rfl,V.out,Bq.out⟩
     clear V Bq;obtain⟨rfl,V,Bq⟩:=hcut;rw[<- hip.out] at hob;rw[hob] at et eb;replace V:=hid V;replace Bq:=hid Bq;clear hob;cases ob
     . go_wp2;go_ret;exact⟨Ad (by rw[E.out,eb.out (by rw[hlv.out,hbv.out]; rfl)]; simp),Aa B0.out Bq.out⟩
     have et2:=hid (et.out.trans (show _=q.es.all (fun e=>ks.getD e.p.toNat 0 != 0) by rw[hlv.out,hbv.out]; simp));have eb2:=hid (fun(h:q.es.all (fun e=>ks.getD e.p.toNat 0 != 0)=false)=>eb.out (by rw[hlv.out,hbv.out,h]; rfl));have hql:=hqa.out.l;clear et eb DV T1 K1 S1 hqa y0 y1 y2 hr pcx;generalize wr=wo at *;go_wp2
     go_loopw [6] (fun jv W=>∃ j:Nat,j<=q.l/\jv=.int .i64 j/\(q.es.take j).all (fun e=>ks.getD e.p.toNat 0 != 0)=true/\CellsAt W wo.heap.size q.cs/\Below wa.heap.size wa W) (fun i _=>q.l-(RowKit.intOf i).toNat)
     case atStart=>exact⟨0,Nat.zero_le _,rfl,rfl,V.out,Bq.out⟩
     case round =>
      clear V Bq;obtain⟨j,hj,rfl,hja,V,Bq⟩:=hrel;have DV:=hid (DVa.out.step Bq);have x1:=DV.out.cell 1 _ rfl;have v11:=V.cell 11 _ rfl;have K9:=K0.out.step Bq;have E9:=((T0.out.step Bq).all q (List.mem_of_getElem? hq)).E;have hes:=hid E9.1;replace V:=hid V;replace Bq:=hid Bq;by_cases hjl:j<q.l
      . have j0:decide ((j:Int)<(q.l:Int))=true:=decide_eq_true (by omega);have j1:decide (j<q.l)=true:=decide_eq_true hjl;obtain⟨be,offe,eD,_,hce⟩:=E9.2 (by omega);have cp:=(hce j hjl).c0;have hje:j<q.es.length:=by rw[hes.out]; exact hjl
        have hok:=hbd.out.ok _ (List.getElem_mem hje);rw[<- gd hje] at hok;have en:=en_next (f:=fun e=>ks.getD e.p.toNat 0 != 0) hje;rw[hja,Bool.true_and] at en;have ebd:=hid (en_bad (f:=fun e=>ks.getD e.p.toNat 0 != 0) hje);simp only[CE,Bool.and_eq_true,decide_eq_true_eq] at hok;rw[eD] at v11;generalize (q.es.getD j ez).p=pp at *;obtain⟨pn,rfl⟩:=Int.eq_ofNat_of_zero_le hok.1.1;have hm10:m=10:=hs.out.1;have hpn:pn<m:=by omega
        obtain⟨bk,offk,eH,_,hck⟩:=K9.2 (by omega);have ck:=hck pn hpn;have hpn2:(pn:Int)<(m:Int):=by omega
        subst eH;replace en:=hid (show(q.es.take (j+1)).all (fun e=>ks.getD e.p.toNat 0 != 0)=(ks.getD pn 0 != 0) by simpa using en);replace ebd:=hid (show(ks.getD pn 0 != 0)=false->_ from fun h=>ebd.out (by simpa using h));replace hm10:=hid hm10;clear hck hce K9 E9 hja hok;generalize ks.getD pn 0=z at *;by_cases hz:z=0
        . have z0:(z==0)=true:=by simp[hz]
          have z1:=hid (show(z != 0)=false by simp[hz]);replace hz:=hid hz;go_wp2_with fail
          go_quiet (fail)
          go_wp2;go_ret;exact⟨Ad (by rw[E.out,eb2.out (ebd.out z1.out)]; simp),Ar (Aa B0.out Bq.out) _⟩
        . have z0:(z==0)=false:=beq_eq_false_iff_ne.2 hz;have z1:=hid (show(z != 0)=true by simp[hz]);replace hz:=hid hz;go_wp2_with fail
          go_quiet (fail)
          go_wp2
          go_roundw
          case rel=>exact⟨j+1,by omega,by go_num,en.out.trans z1.out,V.out.step (Ar (Ac _) _),Ar Bq.out _⟩
          case measure=>simp[RowKit.intOf]; omega
      obtain rfl:j=q.l:=by omega
      have j0:decide ((q.l:Int)<(q.l:Int))=false:=decide_eq_false (by omega);have hall2:q.es.all (fun e=>ks.getD e.p.toNat 0 != 0)=true:=by rw[<- hes.out,List.take_length] at hja; exact hja
      have et3:=hid (et2.out.trans hall2);clear hja hall2 K9 E9;go_wp2
      go_roundw
      case rel=>exact⟨k+1,by have:=hltk.out; omega,by go_num,et3.out,Bq.out⟩
      case measure=>have:=hltk.out; simp[RowKit.intOf]; omega
   obtain rfl:n=k:=by omega
   have hall2:=hid (show(List.range ts.length).all (tkB ks ts)=true by rw[hT.out]; exact ha);clear ha T1 K1;replace B0:=hid (Aa B0.out Bq.out);replace S0:=hid (S0.out.step Bq.out);clear Bq;generalize wr=wb at *;go_wp2
   go_loopw [7] (GJ wb l gs Fs) (fun i _=>l-(RowKit.intOf i).toNat)
   case atStart=>exact⟨0,Nat.zero_le _,rfl,rfl,Ac wb⟩
   case round =>
    obtain⟨k,hk,rfl,ha,Bq⟩:=hrel;have DV9:=hid (DV.out.step Bq);have y2:=DV9.out.cell 2 _ rfl;have K1:=S0.out.step Bq;replace Bq:=hid Bq;by_cases hlt:k<l
    . obtain⟨b,off,rfl,hb,hc⟩:=K1.2 (by omega);have cc:=hc k hlt;have hkl:k<gs.length:=by have:=hS.out; omega
      have et:=nm_next (f:=Fs) hkl;rw[ha,Bool.true_and] at et;have eb:=hid (nm_bad (f:=Fs) hkl);replace et:=hid et;clear hc ha hkl K1;generalize gs.getD k 0=z at *;cases hv:Fs z
      . have e0:=hid (eb.out hv);replace hv:=hid hv;clear eb et;go_wp2_with fail;refine(CS z false _ hv.out).mono ?_;rintro e w1 ⟨rfl,rfl⟩;go_wp2;go_ret;exact⟨Ad (by rw[E.out,e0.out]; simp),Aa B0.out Bq.out⟩
      . have et:=hid (et.out.trans hv);replace hv:=hid hv;clear eb;go_wp2_with fail;refine(CS z true _ hv.out).mono ?_;rintro e w1 ⟨rfl,rfl⟩;go_wp2
        go_roundw
        case rel=>exact⟨k+1,by omega,by go_num,et.out,Bq.out⟩
        case measure=>simp[RowKit.intOf]; omega
    obtain rfl:l=k:=by omega
    have hall3:=hid (show gs.all Fs=true by rw[<- hS.out,List.take_length] at ha; exact ha);clear ha K1;go_wp2;go_ret;exact⟨Ad (by rw[E.out,hall.out,hall2.out,hall3.out]; rfl),Aa B0.out Bq.out⟩
end Go.Proofs.Ytbeohbhhmcjokaa
