import Derived.Test.YtbeohbhhmcjokaaZSvF
import Derived.Test.YtbeohbhhmcjokaaZSvTop
import Derived.Test.YtbeohbhhmcjokaaZLawSvX
set_option linter.all false
set_option maxRecDepth 100000
set_option maxHeartbeats 8000000
open Go.Lib
namespace Go.Proofs.Ytbeohbhhmcjokaa
open Go.RowKit
open M
theorem M.tkn_val{ts ts':List Tk}(h:ts.map Tk.v=ts'.map Tk.v)(x:Int):tkn ts x=tkn ts' x:=by
 induction ts generalizing ts' with
 | nil=>cases ts' with
  | nil=>rfl
  | cons q ts'=>simp at h
 | cons q ts ih=>cases ts' with
  | nil=>simp at h
  | cons q' ts' =>
   simp only[List.map_cons,List.cons.injEq] at h;obtain⟨_,_,e⟩:=tv_okV q q' h.1;simp only[tkn,e,ih h.2]
theorem M.topO_val{s s':Sv}(h:s.v=s'.v)(x:Int):topO s.ts s.ks s.gs x=topO s'.ts s'.ks s'.gs x:=by
 have hb:=svB_val h;simp only[Sv.v,Vl.mk.injEq] at h;obtain⟨h1,h2,h3⟩:=h;have hl:s.ts.length=s'.ts.length:=by have:=congrArg List.length h1; simpa using this
 have hg:∀ k,(s.ts.getD k kz).v=(s'.ts.getD k kz).v:=fun k=>by
  have:=congrArg (fun l=>l.getD k kz.v) h1;simpa[List.getD_eq_getElem?_getD,List.getElem?_map,Option.getD_map] using this
 rw[topO,topO,hb,tkn_val h1,hl,(tv_okV _ _ (hg _)).2.1]
theorem M.topO_len{s:Sv}{w:World}(R:s.At w)(h:s.Sm)(x:Int):((topO s.ts s.ks s.gs x).getD []).length<=1048576:=by
 rw[topO];split
 . split
   . rename_i h1;have hm:=List.getElem_mem h1;have e:s.ts.getD (tkn s.ts x) kz=s.ts[tkn s.ts x]:=by rw[List.getD_eq_getElem?_getD,List.getElem?_eq_getElem h1]; rfl
     rw[e];have:=(R.T.all _ hm).E.1;have:=(h.q _ hm).l
     show(s.ts[tkn s.ts x]).es.length<=_
     omega
   . simp
 . simp
def Ho(w:World)(b:Bool)(ys:List En)(L:Nat)(e:Ending)(w':World):Prop:=∃ A1 c1,e=.returned (.tuple #[.slice A1 L c1,.bool b])/\Ents w' A1 L ys/\Mk w.heap.size w' A1 (L*2)/\Below w.heap.size w w'
theorem Fo(s:Sv)(x:Int)(b:Bool)(ys:List En)(L:Nat)(hb:(topO s.ts s.ks s.gs x).isSome=b)(hy:(topO s.ts s.ks s.gs x).getD []=ys)(hL:ys.length=L)(w:World)(R:s.At w)(h:s.Sm):Calls Try.prog 34 #[s.val,.int .i64 x] w (Ho w b ys L):=by
 subst hL hb hy;refine(Gd s.A s.n s.c s.H s.m s.d s.G s.l s.e s.ts s.ks s.gs x w R.T R.K R.S R.n R.m R.l (fun q hq=>by have:=(h.q q hq).l; omega)).mono ?_;rintro e w' ⟨v,rfl,O,B⟩;obtain⟨A,c,rfl,I,M⟩:=Ents.of_own O;exact⟨A,c,rfl,I,Mk.of_own O (by decide),B⟩
theorem Do(s:Sv)(x:Int)(b:Bool)(ys:List En)(L:Nat)(hb:(topO s.ts s.ks s.gs x).isSome=b)(hy:(topO s.ts s.ks s.gs x).getD []=ys)(hL:ys.length=L)(w:World)(R:s.At w)(h:s.Sm):Calls Try.prog 35 #[s.val,.int .i64 x] w (Ho w b ys L):=by
 subst hL hb hy;refine(Gc s.A s.n s.c s.H s.m s.d s.G s.l s.e s.ts s.ks s.gs x w R.T R.K R.S R.n R.m R.l (fun q hq=>by have:=(h.q q hq).l; omega)).mono ?_;rintro e w' ⟨v,rfl,O,B⟩;obtain⟨A,c,rfl,I,M⟩:=Ents.of_own O;exact⟨A,c,rfl,I,Mk.of_own O (by decide),B⟩
theorem Bd.sep1{A:Option Addr}{m:Nat}{qs:List (Option Addr × Nat)}{lo hi lo' hi':Nat}(h:Bd [(A,m)] lo hi)(h':Bd qs lo' hi')(hs:hi<=lo'\/hi'<=lo):0<m->∀ r∈qs,0<r.2->r.1≠A:=fun h0=>Bd.sep h h' hs (A,m) (by simp) h0
theorem Mk.bd{lo m:Nat}{W:World}{A:Option Addr}(h:Mk lo W A m):Bd [(A,m)] lo W.heap.size:=fun p hp h0=>by
 rw[List.mem_singleton.1 hp] at h0 ⊢;obtain⟨g,e,h1,h2,_⟩:=h h0;exact⟨g,e,h1,h2⟩
theorem M.sm_tot{s s':Sv}{w w':World}(hv:s'.v=s.v)(R:s.At w)(R':s'.At w')(h:s.n+tss s.ts+s.m+s.l<=1048576):s'.n+tss s'.ts+s'.m+s'.l<=1048576:=by
 simp only[Sv.v,Vl.mk.injEq] at hv;obtain⟨h1,h2,h3⟩:=hv;have a1:=R.T.len;have b1:=R'.T.len;have a2:=R.K.1;have b2:=R'.K.1;have a3:=R.S.1;have b3:=R'.S.1;have hl:s'.ts.length=s.ts.length:=by have:=congrArg List.length h1; simpa using this
 rw[h2] at b2;rw[h3] at b3;have ht:tss s'.ts=tss s.ts:=by
  unfold tss;congr 1;apply List.ext_getElem (by simpa using hl);intro i hi hi2;simp only[List.length_map] at hi hi2;have e:(s'.ts[i]).v=(s.ts[i]).v:=by
   have:=congrArg (fun l=>l[i]?) h1;simp only[List.getElem?_map,List.getElem?_eq_getElem hi,List.getElem?_eq_getElem hi2,Option.map_some] at this;exact Option.some.inj this
  have c1:=R.T.all _ (List.getElem_mem hi2);have c2:=R'.T.all _ (List.getElem_mem hi);simp only[Tk.v,Tv.mk.injEq] at e;obtain⟨-,-,-,-,e1,e2,-,-,-,-,-,e3⟩:=e;simp only[List.getElem_map,tsz];have d1:=c1.I.1;have d2:=c1.J.1;have d3:=c1.E.1;have f1:=c2.I.1;have f2:=c2.J.1;have f3:=c2.E.1;rw[e1] at f1;rw[e2] at f2;rw[e3] at f3;omega
 omega
theorem AO(s:Sv)(x:Int)(w:World)(R:s.AtW w) :
 Calls Try.prog 9 #[s.val,.int .i64 x] w fun e w'=>e=.returned (.bool true)/\Below w.heap.size w w':=by
 replace R:=hid R;have P:=hid (CellsAt.new w w.heap.size s.cs 40 rfl);have H:=hid (Ab (Ac w) (.cells s.cs.toArray 40));obtain⟨x0,x1,x2⟩:=AX P.out;go_enter Try.func9,Try.ntmps9;go_wp2_with fail;refine(Gf s 1048576 _ (by decide) (by decide) (R.out.step H.out)).mono ?_;rintro e w1 ⟨hr,B⟩;replace P:=hid (P.out.step B);replace H:=hid (Aa H.out B);clear B x0 x1 x2;obtain⟨Pc0,Pc1,Pc2⟩:=AX P.out;rcases hr with rfl | ⟨r,hr,er,rfl⟩
 . go_wp2;go_ret;exact⟨rfl,H.out⟩
 have hsm:=hid (Sv.sm_of hr er);replace R:=hid (R.out.ok hsm.out);obtain⟨b,hb⟩:∃ b,(topO s.ts s.ks s.gs x).isSome=b:=⟨_,rfl⟩;obtain⟨ys,hy⟩:∃ ys,(topO s.ts s.ks s.gs x).getD []=ys:=⟨_,rfl⟩;obtain⟨L,hL⟩:∃ L,ys.length=L:=⟨_,rfl⟩;have hLb:L<=1048576:=by rw[<- hL,<- hy]; exact topO_len R.out hsm.out x
 replace er:=hid er;replace hb:=hid hb;replace hy:=hid hy;replace hL:=hid hL;go_wp2_with fail;refine(AF s _ (R.out.step H.out) hsm.out).mono ?_;rintro e w2 ⟨s1,rfl,hv1,F1⟩;have B:=F1.B;have R1:=hid F1.R;have hsm1:=hid (Sv.Sm.of_v hsm.out hv1 R.out R1.out);have hb1:=hid ((congrArg Option.isSome (topO_val hv1 x)).trans hb.out);have hy1:=hid ((congrArg (fun o=>o.getD []) (topO_val hv1 x)).trans hy.out);replace P:=hid (P.out.step B);replace H:=hid (Aa H.out B);clear B F1 hv1;clear Pc0 Pc1 Pc2;obtain⟨Pc0,Pc1,Pc2⟩:=AX P.out;go_wp2_with fail;refine(Fo s1 x b ys L hb1.out hy1.out hL.out w2 R1.out hsm1.out).mono ?_
 rintro e w3 ⟨A6,c6,rfl,Y6,M6,B⟩;have b6:=hid M6.bd;replace Y6:=hid Y6;replace M6:=hid M6;replace P:=hid (P.out.step B);replace H:=hid (Aa H.out B);clear B R1 hsm1 hb1 hy1;have zP:=P.out.lt;clear Pc0 Pc1 Pc2;obtain⟨Pc0,Pc1,Pc2⟩:=AX P.out;go_wp2_with fail;refine(AF s _ (R.out.step H.out) hsm.out).mono ?_;rintro e w4 ⟨s2,rfl,hv2,F2⟩;have B:=F2.B;have z34:w3.heap.size<=w4.heap.size:=B.size;have R2:=hid F2.R;have O2:=hid F2.O;have b2:=hid F2.O.bd;have hsm2:=hid (Sv.Sm.of_v hsm.out hv2 R.out R2.out);have mv2:=hid (show mkV s2<=10000000 from mkV_le R2.out (sm_tot hv2 R.out R2.out (by have:=er.out; omega)))
 have hb2:=hid ((congrArg Option.isSome (topO_val hv2 x)).trans hb.out);have hy2:=hid ((congrArg (fun o=>o.getD []) (topO_val hv2 x)).trans hy.out);replace hv2:=hid hv2;replace P:=hid (P.out.step B);replace Y6:=hid (Y6.out.step B);replace M6:=hid (M6.out.step B);replace H:=hid (Aa H.out B);clear B F2;clear Pc0 Pc1 Pc2;have V8:=hid (CellsAt.new w4 w4.heap.size (s2.cs) 27 rfl);replace P:=hid (P.out.step (Ab (Ac w4) (.cells (s2.cs).toArray 27)));replace Y6:=hid (Y6.out.step (Ab (Ac w4) (.cells (s2.cs).toArray 27)));replace M6:=hid (M6.out.step (Ab (Ac w4) (.cells (s2.cs).toArray 27)))
 replace R2:=hid (R2.out.step (Ab (Ac w4) (.cells (s2.cs).toArray 27)));replace O2:=hid (O2.out.step (Ab (Ac w4) (.cells (s2.cs).toArray 27)));replace H:=hid (Ab H.out (.cells (s2.cs).toArray 27));obtain⟨V8c0,V8c1,V8c2⟩:=AX V8.out;go_wp2_with fail;refine(Do s2 x b ys L hb2.out hy2.out hL.out _ R2.out hsm2.out).mono ?_;rintro e w5 ⟨A9,c9,rfl,Y9,M9,B⟩;have l9:w4.heap.size+1<=(w4.alloc (.cells s2.cs.toArray 27)).heap.size:=by simp
 have b9:=hid (show Bd [(A9,L*2)] (w4.heap.size+1) w5.heap.size from by have:=M9.bd; simpa using this);replace Y9:=hid Y9;replace M9:=hid (show Mk (w4.heap.size+1) w5 A9 (L*2) from by simpa using M9);have z5:w4.heap.size+1<=w5.heap.size:=by have:=B.size; simpa using this
 replace P:=hid (P.out.step B);replace Y6:=hid (Y6.out.step B);replace M6:=hid (M6.out.step B);replace R2:=hid (R2.out.step B);replace O2:=hid (O2.out.step B);replace V8:=hid (V8.out.step B);replace H:=hid (Aa H.out B);clear B;clear V8c0 V8c1 V8c2;have hbb:(b != b)=false:=by cases b<;>rfl
 skip
 go_wp2_with fail;refine(AH A9 A6 L c9 c6 ys _ Y9.out Y6.out hLb).mono ?_;rintro e w6 ⟨rfl,B⟩;have z6:w5.heap.size<=w6.heap.size:=B.size;replace P:=hid (P.out.step B);replace Y6:=hid (Y6.out.step B);replace M6:=hid (M6.out.step B);replace R2:=hid (R2.out.step B);replace O2:=hid (O2.out.step B);replace V8:=hid (V8.out.step B);replace Y9:=hid (Y9.out.step B);replace M9:=hid (M9.out.step B);replace H:=hid (Aa H.out B);clear B;go_wp2_with fail;refine wp_region_held_drew (S:=fun w'=>CellsAt w' w.heap.size s.cs/\CellsAt w' w4.heap.size s2.cs) (by kernel_rfl) ⟨P.out.drew,V8.out.drew⟩ (fun hHeld=>?_);replace P:=hid (P.out.step (Ac _).drew)
 replace Y6:=hid (Y6.out.step (Ac _).drew);replace M6:=hid (M6.out.step (Ac _).drew);replace R2:=hid (R2.out.step (Ac _).drew);replace O2:=hid (O2.out.step (Ac _).drew);replace V8:=hid (V8.out.step (Ac _).drew);replace Y9:=hid (Y9.out.step (Ac _).drew);replace M9:=hid (M9.out.step (Ac _).drew);replace H:=hid (Af H.out);refine wpAnyH_take (i:=0) (oi:=_) (v:=.agg (s2.cs).toArray) rfl (by kernel_rfl) (by kernel_rfl) (by kernel_rfl) (fun _ _ _ h=>h) (yieldsIf_load_mid (by rfl) 27 (.tmp 8) rfl w4.heap.size 0 rfl (s2.cs) _ (fun W hS=>hS.2.range) Try.underlying27 rfl Aw) hHeld ?_
 try simp only[Act.put,sx]
 refine wpAnyH_take (i:=1) (oi:=_) (v:=.agg (s.cs).toArray) rfl (by kernel_rfl) (by kernel_rfl) (by kernel_rfl) (fun _ _ _ h=>h) (yieldsIf_load_mid (by rfl) 40 (.tmp 2) rfl w.heap.size 0 rfl (s.cs) _ (fun W hS=>hS.1.range) Try.underlying40 rfl CO) hHeld ?_
 try simp only[Act.put,sx]
 refine wpAnyH_ready (rs:=[2]) (by kernel_rfl) (by simp) ?_;apply AllReadyH.cons rfl ?_ AllReadyH.nil;intro K hK;go_simp
 go_at_call 23
 refine(AF s _ (R.out.step H.out) hsm.out).mono ?_;rintro e wn ⟨s3,rfl,hvc,FC⟩;have B:=FC.B;have RC:=hid FC.R;replace P:=hid (P.out.step B);replace Y6:=hid (Y6.out.step B);replace M6:=hid (M6.out.step B);replace R2:=hid (R2.out.step B);replace O2:=hid (O2.out.step B);replace V8:=hid (V8.out.step B);replace Y9:=hid (Y9.out.step B);replace M9:=hid (M9.out.step B);replace H:=hid (Aa H.out B);have hvx:=hid (hv2.out.trans hvc.symm);clear B FC hvc;clear hHeld;go_wp2_with fail;refine hK.out _ _ ⟨P.out,V8.out⟩ (fun hHeld=>?_);clear hK K
 try simp only[Act.put,sx]
 refine wpAnyH_ready (rs:=[3]) (by kernel_rfl) (by simp) ?_;apply AllReadyH.cons rfl ?_ AllReadyH.nil;intro K hK;go_simp
 go_at_call 16
 refine(A5 s2 s3 hvx.out _ R2.out RC.out hsm2.out).mono ?_;rintro e wn ⟨rfl,B⟩;replace P:=hid (P.out.step B);replace Y6:=hid (Y6.out.step B);replace M6:=hid (M6.out.step B);replace R2:=hid (R2.out.step B);replace O2:=hid (O2.out.step B);replace V8:=hid (V8.out.step B);replace Y9:=hid (Y9.out.step B);replace M9:=hid (M9.out.step B);replace H:=hid (Aa H.out B);clear B RC hvx;clear hHeld;go_wp2_with fail;refine hK.out _ _ ⟨P.out,V8.out⟩ (fun hHeld=>?_);clear hK K
 try simp only[Act.put,sx]
 refine tl 4 ?_ ?_ hHeld ?_;rotate_left
 . intro w hSw
   try dsimp only at hSw
   go_simp
   all_goals with_reducible rfl
 try simp only[Act.put,sx]
 refine wpAnyH_done (by kernel_rfl) ?_ _;obtain⟨V8c0,V8c1,V8c2⟩:=AX V8.out;go_wp2_with fail;have zV:=V8.out.lt;refine(Cv w3.heap.size s2 1 _ R2.out O2.out (by omega) (by have:=mv2.out; omega) hsm2.out).mono ?_;rintro e w10 ⟨rfl,-,-,F10,L10⟩;clear V8c0 V8c1 V8c2;replace Y6:=hid (Y6.out.flo M6.out F10 (b6.out.sep1 b2.out (by omega)));replace M6:=hid (M6.out.fl F10 (b6.out.sep1 b2.out (by omega)));replace Y9:=hid (Y9.out.flo M9.out F10 (b9.out.sep1 b2.out (by omega)));replace M9:=hid (M9.out.fl F10 (b9.out.sep1 b2.out (by omega)));replace P:=hid (P.out.fl F10 (b2.out.not (by omega)));replace H:=hid (H.out.trans (L10.mono (by omega)));have z10:=F10.1
 clear F10 L10 R2 O2 V8;obtain⟨q1,hq1⟩:∃ q,q=1+mkV s2:=⟨_,rfl⟩;rw[<- hq1];have q0:decide ((q1:Int)<0)=false:=decide_eq_false (by omega);replace hq1:=hid hq1;go_wp2_with fail;refine(AH A9 A6 L c9 c6 ys _ Y9.out Y6.out hLb).mono ?_;rintro e w11 ⟨rfl,B⟩;have z11:=B.size;replace P:=hid (P.out.step B);replace Y6:=hid (Y6.out.step B);replace M6:=hid (M6.out.step B);replace Y9:=hid (Y9.out.step B);replace M9:=hid (M9.out.step B);replace H:=hid (Aa H.out B);clear B;go_wp2_with fail;refine(Cr (w4.heap.size+1) A9 L c9 1 w11 M9.out hLb (by decide) (by omega)).mono ?_;rintro e w12 ⟨rfl,K9,N9,FR,L12⟩
 have F12:Fl [(A9,L*2)] w11 w12:=Fl.of_fr (m:=L*2) FR (fun h0=>⟨by simp,by omega⟩);replace Y6:=hid (Y6.out.flo M6.out F12 (b6.out.sep1 b9.out (by omega)));replace M6:=hid (M6.out.fl F12 (b6.out.sep1 b9.out (by omega)));replace P:=hid (P.out.fl F12 (b9.out.not (by omega)));replace Y9:=hid K9;replace H:=hid (H.out.trans (L12.mono (by omega)));have z12:=F12.1;clear F12 FR L12 N9 M9;have q2:decide (((1+2*L:Nat):Int)<0)=false:=decide_eq_false (by omega);obtain⟨q3,hq3⟩:∃ q,q=1+2*L:=⟨_,rfl⟩;rw[<- hq3] at q2 ⊢;replace hq3:=hid hq3;go_wp2_with fail;refine(Bl A9 L c9 1 w12 Y9.out hLb (by decide)).mono ?_;rintro e w13 ⟨rfl,rfl⟩
 rw[<- hq3.out];obtain⟨Pc0,Pc1,Pc2⟩:=AX P.out;go_wp2_with fail;refine(AF s _ (R.out.step H.out) hsm.out).mono ?_;rintro e w14 ⟨s4,rfl,hv4,F4⟩;have B:=F4.B;have R4:=hid F4.R;have hsm4:=hid (Sv.Sm.of_v hsm.out hv4 R.out R4.out);have hb4:=hid ((congrArg Option.isSome (topO_val hv4 x)).trans hb.out);have hy4:=hid ((congrArg (fun o=>o.getD []) (topO_val hv4 x)).trans hy.out);replace P:=hid (P.out.step B);replace Y6:=hid (Y6.out.step B);replace M6:=hid (M6.out.step B);replace Y9:=hid (Y9.out.step B);replace H:=hid (Aa H.out B);clear B F4 hv4;clear Pc0 Pc1 Pc2;go_wp2_with fail;refine(Do s4 x b ys L hb4.out hy4.out hL.out _ R4.out hsm4.out).mono ?_
 rintro e w15 ⟨A14,c14,rfl,Y14,-,B⟩;replace Y14:=hid Y14;replace P:=hid (P.out.step B);replace Y6:=hid (Y6.out.step B);replace M6:=hid (M6.out.step B);replace Y9:=hid (Y9.out.step B);replace H:=hid (Aa H.out B);clear B R4 hsm4 hb4 hy4;go_wp2_with fail;refine(AH A14 A6 L c14 c6 ys _ Y14.out Y6.out hLb).mono ?_;rintro e w16 ⟨rfl,B⟩;replace P:=hid (P.out.step B);replace Y6:=hid (Y6.out.step B);replace M6:=hid (M6.out.step B);replace Y9:=hid (Y9.out.step B);replace Y14:=hid (Y14.out.step B);replace H:=hid (Aa H.out B);clear B;go_wp2_with fail;refine(Bl A9 L c9 1 w16 Y9.out hLb (by decide)).mono ?_;rintro e w17 ⟨rfl,rfl⟩;rw[<- hq3.out]
 go_wp2;go_ret;exact⟨rfl,H.out⟩
end Go.Proofs.Ytbeohbhhmcjokaa
