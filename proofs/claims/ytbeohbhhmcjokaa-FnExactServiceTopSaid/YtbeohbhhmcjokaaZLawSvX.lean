import Derived.Test.YtbeohbhhmcjokaaZSvZ
import Derived.Test.YtbeohbhhmcjokaaZSvP
set_option linter.all false
set_option maxRecDepth 100000
set_option maxHeartbeats 8000000
open Go.Lib
namespace Go.Proofs.Ytbeohbhhmcjokaa
open Go.RowKit
open M
theorem CO:(Try.prog.info? 40).map (·.size)=some 3:=by kernel_rfl
theorem M.tv_okV(q q':Tk)(h:q.v=q'.v):q.L.ok=q'.L.ok/\q.es=q'.es/\q.L.i=q'.L.i:=by
 simp only[Tk.v,Tv.mk.injEq] at h;obtain⟨h0,h1,h2,h3,h4,h5,h6,h7,h8,h9,h10,h11⟩:=h;exact⟨by simp only[Lv.ok,h0,h1,h2,h3,h4,h5,h6,h7,h8,h9,h10],h11,h0⟩
theorem M.svB_val{s s':Sv}(h:s.v=s'.v):svB s.ts s.ks s.gs=svB s'.ts s'.ks s'.gs:=by
 simp only[Sv.v,Vl.mk.injEq] at h;obtain⟨h1,h2,h3⟩:=h;have hl:s.ts.length=s'.ts.length:=by have:=congrArg List.length h1; simpa using this
 have hg:∀ k,(s.ts.getD k kz).v=(s'.ts.getD k kz).v:=fun k=>by
  have:=congrArg (fun l=>l.getD k kz.v) h1;simpa[List.getD_eq_getElem?_getD,List.getElem?_map,Option.getD_map] using this
 have hb:∀ k,tkB s.ks s.ts k=tkB s'.ks s'.ts k:=fun k=>by
  obtain⟨a1,a2,a3⟩:=tv_okV _ _ (hg k);obtain⟨_,_,b3⟩:=tv_okV _ _ (hg (k-1));simp only[tkB,a1,a2,a3,b3,h2]
 have hb':tkB s.ks s.ts=tkB s'.ks s'.ts:=funext hb;simp only[svB,hl,h2,h3,h2▸hb']
theorem M.Sv.Sm.of_v{s s':Sv}{w w':World}(h:s.Sm)(hv:s'.v=s.v)(R:s.At w)(R':s'.At w'):s'.Sm:=by
 simp only[Sv.v,Vl.mk.injEq] at hv;obtain⟨h1,h2,h3⟩:=hv;have a1:=R.T.len;have b1:=R'.T.len;have a2:=R.K.1;have b2:=R'.K.1;have a3:=R.S.1;have b3:=R'.S.1;have hl:s'.ts.length=s.ts.length:=by have:=congrArg List.length h1; simpa using this
 rw[h2] at b2;rw[h3] at b3;refine⟨by have:=h.n; omega,by have:=h.m; omega,by have:=h.l; omega,fun q' hq'=>?_⟩;obtain⟨k,hk,rfl⟩:=List.getElem_of_mem hq';have hk2:k<s.ts.length:=by omega
 have e:(s'.ts[k]).v=(s.ts[k]).v:=by
  have:=congrArg (fun l=>l[k]?) h1;simp only[List.getElem?_map,List.getElem?_eq_getElem hk,List.getElem?_eq_getElem hk2,Option.map_some] at this;exact Option.some.inj this
 exact(h.q _ (List.getElem_mem hk2)).of_v e (R.T.all _ (List.getElem_mem hk2)) (R'.T.all _ (List.getElem_mem hk))
theorem AJ(s:Sv)(w:World)(R:s.AtW w) :
 Calls Try.prog 5 #[s.val] w fun e w'=>e=.returned (.bool true)/\Below w.heap.size w w':=by
 have P:=hid (CellsAt.new w w.heap.size s.cs 40 rfl);have H:=hid (Ab (Ac w) (.cells s.cs.toArray 40));replace R:=hid (R.step H.out);obtain⟨x0,x1,x2⟩:=AX P.out;go_enter Try.func5,Try.ntmps5;go_wp2_with fail;refine(Gf s 1048576 _ (by decide) (by decide) R.out).mono ?_;rintro e w1 ⟨hr,B⟩;replace P:=hid (P.out.step B);replace R:=hid (R.out.step B);replace H:=hid (Aa H.out B);clear B;replace x0:=P.out.cell 0 _ rfl;replace x1:=P.out.cell 1 _ rfl;replace x2:=P.out.cell 2 _ rfl;rcases hr with rfl | ⟨r,hr,er,rfl⟩
 . go_wp2;go_ret;exact⟨rfl,H.out⟩
 have hsm:=hid (Sv.sm_of hr er);replace R:=hid (R.out.ok hsm.out);replace er:=hid er;obtain⟨b,hb⟩:∃ b,svB s.ts s.ks s.gs=b:=⟨_,rfl⟩;replace hb:=hid hb;go_wp2_with fail;refine(AF s _ R.out hsm.out).mono ?_;rintro e w2 ⟨s1,rfl,hv1,F1⟩;have B:=F1.B;have R1:=hid F1.R;replace P:=hid (P.out.step B);replace R:=hid (R.out.step B);replace H:=hid (Aa H.out B);have hb1:=hid ((svB_val hv1).trans hb.out);clear B F1 hv1;replace x0:=P.out.cell 0 _ rfl;replace x1:=P.out.cell 1 _ rfl;replace x2:=P.out.cell 2 _ rfl;go_wp2_with fail
 refine(AL s1.A s1.n s1.c s1.H s1.m s1.d s1.G s1.l s1.e s1.ts s1.ks s1.gs b hb1.out _ R1.out.T R1.out.K R1.out.S R1.out.n R1.out.m R1.out.l).mono ?_;rintro e w3 ⟨rfl,B⟩;replace P:=hid (P.out.step B);replace R:=hid (R.out.step B);replace H:=hid (Aa H.out B);clear B R1 hb1;replace x0:=P.out.cell 0 _ rfl;replace x1:=P.out.cell 1 _ rfl;replace x2:=P.out.cell 2 _ rfl;go_wp2_with fail;refine(AF s _ R.out hsm.out).mono ?_;rintro e w4 ⟨s2,rfl,hv2,F2⟩;have B:=F2.B;have R2:=hid F2.R;replace P:=hid (P.out.step B);replace R:=hid (R.out.step B);replace H:=hid (Aa H.out B);have hb2:=hid ((svB_val hv2).trans hb.out)
 have hsm2:=hid (Sv.Sm.of_v hsm.out hv2 R.out R2.out);replace hv2:=hid hv2;clear B F2;have V2:=hid (CellsAt.new w4 w4.heap.size s2.cs 27 rfl);replace P:=hid (P.out.alloc (.cells s2.cs.toArray 27));replace R:=hid (R.out.step (Ab (Ac w4) (.cells s2.cs.toArray 27)));replace R2:=hid (R2.out.step (Ab (Ac w4) (.cells s2.cs.toArray 27)));replace H:=hid (Ab H.out (.cells s2.cs.toArray 27));replace x0:=V2.out.cell 0 _ rfl;replace x1:=V2.out.cell 1 _ rfl;replace x2:=V2.out.cell 2 _ rfl;go_wp2_with fail
 refine(AM s2.A s2.n s2.c s2.H s2.m s2.d s2.G s2.l s2.e s2.ts s2.ks s2.gs b hb2.out _ R2.out.T R2.out.K R2.out.S R2.out.n R2.out.m R2.out.l).mono ?_;rintro e w5 ⟨rfl,B⟩;replace P:=hid (P.out.step B);replace V2:=hid (V2.out.step B);replace R:=hid (R.out.step B);replace R2:=hid (R2.out.step B);replace H:=hid (Aa H.out B);clear B;obtain⟨V2b,hV2b⟩:∃ g,g=w4.heap.size:=⟨_,rfl⟩;rw[<- hV2b] at V2 ⊢;replace hV2b:=hid hV2b;clear x0 x1 x2;have hbb:(b != b)=false:=by cases b<;>rfl
 go_wp2_with fail;refine wp_region_held_drew (S:=fun w'=>CellsAt w' w.heap.size s.cs/\CellsAt w' V2b s2.cs) (by kernel_rfl) ⟨P.out.drew,V2.out.drew⟩ (fun hHeld=>?_);replace P:=hid (P.out.step (Ac _).drew);replace V2:=hid (V2.out.step (Ac _).drew);replace R:=hid (R.out.step (Ac _).drew);replace R2:=hid (R2.out.step (Ac _).drew);replace H:=hid (Af H.out);refine wpAnyH_take (i:=0) (oi:=_) (v:=.agg (s2.cs).toArray) rfl (by kernel_rfl) (by kernel_rfl) (by kernel_rfl) (fun _ _ _ h=>h) (yieldsIf_load_mid (by rfl) 27 (.tmp 5) rfl V2b 0 rfl (s2.cs) _ (fun W hS=>hS.2.range) Try.underlying27 rfl Aw) hHeld ?_
 try simp only[Act.put,sx]
 refine wpAnyH_take (i:=1) (oi:=_) (v:=.agg (s.cs).toArray) rfl (by kernel_rfl) (by kernel_rfl) (by kernel_rfl) (fun _ _ _ h=>h) (yieldsIf_load_mid (by rfl) 40 (.tmp 1) rfl w.heap.size 0 rfl (s.cs) _ (fun W hS=>hS.1.range) Try.underlying40 rfl CO) hHeld ?_
 try simp only[Act.put,sx]
 refine wpAnyH_ready (rs:=[2]) (by kernel_rfl) (by simp) ?_;apply AllReadyH.cons rfl ?_ AllReadyH.nil;intro K hK;go_simp
 go_at_call 23
 refine(AF s _ R.out hsm.out).mono ?_;rintro e w8 ⟨s3,rfl,hv3,F3⟩;have B:=F3.B;have R3:=hid F3.R;replace P:=hid (P.out.step B);replace V2:=hid (V2.out.step B);replace R:=hid (R.out.step B);replace R2:=hid (R2.out.step B);replace H:=hid (Aa H.out B);have hv23:=hid (hv2.out.trans hv3.symm);clear B F3 hv3;clear hHeld;go_wp2_with fail;refine hK.out _ _ ⟨P.out,V2.out⟩ (fun hHeld=>?_);clear hK K
 try simp only[Act.put,sx]
 refine wpAnyH_ready (rs:=[3]) (by kernel_rfl) (by simp) ?_;apply AllReadyH.cons rfl ?_ AllReadyH.nil;intro K hK;go_simp
 go_at_call 16
 refine(A5 s2 s3 hv23.out _ R2.out R3.out hsm2.out).mono ?_;rintro e w9 ⟨rfl,B⟩;replace P:=hid (P.out.step B);replace V2:=hid (V2.out.step B);replace H:=hid (Aa H.out B);clear B;clear hHeld;go_wp2_with fail;refine hK.out _ _ ⟨P.out,V2.out⟩ (fun hHeld=>?_);clear hK K
 try simp only[Act.put,sx]
 refine tl 4 ?_ ?_ hHeld ?_;rotate_left
 . intro w hSw
   try dsimp only at hSw
   go_simp
   all_goals with_reducible rfl
 try simp only[Act.put,sx]
 refine wpAnyH_done (by kernel_rfl) ?_ _;go_wp2;go_ret;exact⟨rfl,H.out⟩
end Go.Proofs.Ytbeohbhhmcjokaa
