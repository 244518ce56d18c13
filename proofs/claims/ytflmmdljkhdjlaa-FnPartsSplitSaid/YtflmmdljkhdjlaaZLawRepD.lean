import Derived.Test.YtflmmdljkhdjlaaZRepSame
set_option linter.all false
set_option maxRecDepth 100000
set_option maxHeartbeats 8000000
open Go.Lib
namespace Go.Proofs.Ytflmmdljkhdjlaa
open Go.RowKit
open M
theorem M.okP_mid:∀(a b:List Pt) (p q:Pt),Dq (a++p::q::b)=true->p.c≠q.c
 | [],b,p,q,h=>by simp only[List.nil_append,Dq,Bool.and_eq_true,decide_eq_true_eq] at h; exact h.1.2
 | x::a,b,p,q,h=>okP_mid a b p q (CY (p:=x) h)
theorem M.split_none{ps:List Pt}{k:Nat}(h:k<ps.length):Az ([]++ps.take (k+1)++[⟨(ps.getD k pz).c,1⟩]++ps.drop (k+1))=none:=by
 cases e:Az ([]++ps.take (k+1)++[⟨(ps.getD k pz).c,1⟩]++ps.drop (k+1)) with
 | none=>rfl
 | some xs =>
  have t:=(BF e).2.2.1;have e2:[]++ps.take (k+1)++[⟨(ps.getD k pz).c,1⟩]++ps.drop (k+1)=ps.take k++ps.getD k pz::(⟨(ps.getD k pz).c,1⟩:Pt)::ps.drop (k+1):=by
   rw[List.take_succ_eq_append_getElem h,List.getD_eq_getElem?_getD,List.getElem?_eq_getElem h,List.nil_append,List.append_assoc,List.append_assoc];rfl
  rw[e2] at t;exact(okP_mid _ _ _ _ t rfl).elim
theorem Parts.drop{w:World}{b off:Nat}{n:Nat}{xs:List Pt}(h:Parts w (some ⟨b,off,none⟩) n xs)(j:Nat):Parts w (some ⟨b,off+j*2,none⟩) (n-j) (xs.drop j) :=
 ⟨by rw[List.length_drop,h.1],fun hn=>by
  obtain⟨b',off',e,hb,hc⟩:=h.2 (by omega);cases e
  refine⟨b,off+j*2,rfl,hb,fun k hk=>?_⟩;have t:=hc (j+k) (by omega);have e2:(xs.drop j).getD k pz=xs.getD (j+k) pz:=by simp[List.getD_eq_getElem?_getD]
  rw[e2,show off+j*2+k*2=off+(j+k)*2 by omega];exact t⟩
theorem CR(a:Option Addr)(len cap:Nat)(zs:List Int)(a2:Option Addr)(len2 cap2:Nat)(zs2:List Int)(w:World)(h:IsRow .u8 w a len cap zs)(h2:IsRow .u8 w a2 len2 cap2 zs2) :
 Calls Try.prog 11 #[.slice a len cap,.slice a2 len2 cap2] w fun e w'=>e=.returned (.bool true)/\Below w.heap.size w w':=by
 have hm:=h.bytes.1;have hm2:=h.bytes.2.1;unfold maxLen at hm2;have hn:=h2.bytes.1;have hn2:=h2.bytes.2.1;unfold maxLen at hn2;clear h2;by_cases g:1048576<len
 . have g1:(1048576:Int)<(len:Int):=by omega
   go_enter Try.func11,Try.ntmps11;go_wp2;go_ret;exact⟨rfl,Below.refl _ _⟩
 have g1:(len:Int)<=1048576:=by omega
 by_cases k:1048576<len2
 . have k1:(1048576:Int)<(len2:Int):=by omega
   go_enter Try.func11,Try.ntmps11;go_wp2;go_ret;exact⟨rfl,Below.refl _ _⟩
 have k1:(len2:Int)<=1048576:=by omega
 clear k hn hn2;clear g hm hm2;go_enter Try.func11,Try.ntmps11;go_wp2_with fail;refine(B0 a len cap zs w h).mono ?_;rintro e w1 ⟨D,N,cc,ps,rfl,⟨hN,hNc⟩,Y,B⟩;have H:=hid B;clear B h;have hpl:=Y.1;replace Y:=hid Y;cases hri:Az ps
 . have V:=hid (fun W (Z:Parts W D N ps)=>Bq D N cc ps hri W Z (by omega));have S:=hid (fun W (Z:Parts W D N ps)=>Er D N cc ps hri W Z (by omega));go_wp2_with fail;refine(V.out _ Y.out).mono ?_;rintro e w2 ⟨A1,c1,rfl,I1,M1,hc1,B⟩;replace Y:=hid (Y.out.step B);replace I1:=hid I1;replace H:=hid (Aa H.out B);clear B;go_wp2_with fail;refine(S.out _ Y.out).mono ?_;rintro e w3 ⟨A2,c2,rfl,I2,M2,hc2,B⟩;replace Y:=hid (Y.out.step B);replace I1:=hid (I1.out.step B);replace I2:=hid I2;replace H:=hid (Aa H.out B);clear B;go_wp2_with fail;refine(Au A1 A2 0 c1 c2 _ _ I1.out I2.out (by omega)).mono ?_;rintro e w4 ⟨rfl,B⟩
   replace Y:=hid (Y.out.step B);replace I1:=hid (I1.out.step B);replace I2:=hid (I2.out.step B);replace H:=hid (Aa H.out B);clear B;go_wp2_with fail;refine(Au A1 A2 0 c1 c2 _ _ I1.out I2.out (by omega)).mono ?_;rintro e w5 ⟨rfl,B⟩;replace Y:=hid (Y.out.step B);replace I1:=hid (I1.out.step B);replace I2:=hid (I2.out.step B);replace H:=hid (Aa H.out B);clear B;go_wp2;go_ret;exact⟨rfl,H.out⟩
 rename_i xs;obtain⟨ok,hpp,hfi⟩:=BF hri;have hx60:=(AP.1 ok).2;obtain⟨M,hM⟩:∃ M,xs.length=M:=⟨_,rfl⟩;rw[hM] at hx60;have V:=hid (fun W (Z:Parts W D N ps)=>Cl D N cc ps xs M hri hM W Z (by omega));have S:=hid (fun W (Z:Parts W D N ps)=>Ep D N cc ps xs M hri hM W Z (by omega));by_cases hN0:N=0
 . subst hN0;go_wp2_with fail;refine(V.out _ Y.out).mono ?_;rintro e w2 ⟨A1,c1,rfl,I1,M1,hc1,B⟩;replace Y:=hid (Y.out.step B);replace I1:=hid I1;replace H:=hid (Aa H.out B);clear B;go_wp2_with fail;refine(S.out _ Y.out).mono ?_;rintro e w3 ⟨A2,c2,rfl,I2,M2,hc2,B⟩;replace Y:=hid (Y.out.step B);replace I1:=hid (I1.out.step B);replace I2:=hid I2;replace H:=hid (Aa H.out B);clear B;go_wp2_with fail;refine(Au A1 A2 M c1 c2 _ _ I1.out I2.out (by omega)).mono ?_;rintro e w4 ⟨rfl,B⟩;replace Y:=hid (Y.out.step B);replace I1:=hid (I1.out.step B);replace I2:=hid (I2.out.step B);replace H:=hid (Aa H.out B);clear B;go_wp2_with fail
   refine(Au A1 A2 M c1 c2 _ _ I1.out I2.out (by omega)).mono ?_;rintro e w5 ⟨rfl,B⟩;replace Y:=hid (Y.out.step B);replace I1:=hid (I1.out.step B);replace I2:=hid (I2.out.step B);replace H:=hid (Aa H.out B);clear B;go_wp2;go_ret;exact⟨rfl,H.out⟩
 obtain⟨k,hk⟩:∃ k:Nat,(len2:Int) % (N:Int)=(k:Int):=⟨len2 % N,by omega⟩;have hkN:k<N:=by have:=Int.emod_lt_of_pos (len2:Int) (show(0:Int)<(N:Int) by omega); omega
 have hkt:(len2:Int).tmod (N:Int)=(k:Int):=by rw[Int.tmod_eq_emod_of_nonneg (by omega)]; exact hk
 have h0b:((N:Int)==0)=false:=by simpa using hN0
 have h0c:(N==0)=false:=by simpa using hN0
 have h0d:¬ (N:Int)=0:=by omega
 have hsp:=split_none (ps:=ps) (k:=k) (by omega);have hcell:∀ W,Parts W D N ps->∃ b off,D=some ⟨b,off,none⟩/\b<W.heap.size/\W.cell? ⟨b,off+k*2,none⟩=some (.int .i64 (ps.getD k pz).c):=fun W Z=>by
  obtain⟨b,off,e,hb,hc⟩:=Z.2 (by omega);exact⟨b,off,e,hb,(hc k hkN).c0⟩
 generalize (ps.getD k pz).c=qc at *;simp only[List.append_assoc,List.cons_append,List.nil_append] at hsp;replace hcell:=hid hcell;replace hsp:=hid hsp;clear hpp hfi ok hri;go_wp2_with fail;refine(V.out _ Y.out).mono ?_;rintro e w2 ⟨A1,c1,rfl,I1,M1,hc1,B⟩;replace Y:=hid (Y.out.step B);replace I1:=hid I1;replace H:=hid (Aa H.out B);clear B;go_wp2_with fail;refine(S.out _ Y.out).mono ?_;rintro e w3 ⟨A2,c2,rfl,I2,M2,hc2,B⟩;replace Y:=hid (Y.out.step B);replace I1:=hid (I1.out.step B);replace I2:=hid I2;replace H:=hid (Aa H.out B);clear B;go_wp2_with fail;refine(Au A1 A2 M c1 c2 _ _ I1.out I2.out (by omega)).mono ?_
 rintro e w4 ⟨rfl,B⟩;replace Y:=hid (Y.out.step B);replace I1:=hid (I1.out.step B);replace I2:=hid (I2.out.step B);replace H:=hid (Aa H.out B);clear B;go_upto_region 9 with fail;clear hk hkt h0b h0c h0d;obtain⟨b,off,rfl,hb,c0⟩:=hcell.out _ Y.out;have YT:=hid (Y.out.take (show k+1<=N by omega));have YD:=hid (Y.out.drop (k+1));have hw:IntKind.i64.wrap ((k:Int)+1)=((k+1:Nat):Int):=by rw[IntWalk.i64_in _ (by omega)]; omega
 have hk0:(0:Int)<=(k:Int)+1:=by omega
 have hk1:(k:Int)+1<=(cc:Int):=by omega
 have hkn:((k:Int)+1).toNat=k+1:=by omega
 have hi0:(0:Int)<=(k:Int):=by omega
 have hi1:(k:Int)<(N:Int):=by omega
 have hkc:k+1<=cc:=by omega
 clear I1 I2 V S;go_wp2_with fail;refine wp_region_held_drew (S:=fun w'=>w'.cell? ⟨b,off+k*2,none⟩=some (.int .i64 qc)/\b<w'.heap.size) (by kernel_rfl) ⟨c0,hb⟩ (fun hHeld=>?_);replace c0:w4.drew.cell? ⟨b,off+k*2,none⟩=some (.int .i64 qc):=c0;replace hb:b<w4.drew.heap.size:=hb;replace H:=hid (AD H.out);replace YT:=hid YT.out.drew;replace YD:=hid YD.out.drew;clear Y;generalize w4.drew=wd at *;refine tl 1 ?_ ?_ hHeld ?_;rotate_left
 . intro w hSw
   try dsimp only at hSw
   go_simp
   all_goals with_reducible rfl
 try simp only[Act.put,sx]
 refine tl 2 ?_ ?_ hHeld ?_;rotate_left
 . intro w hSw
   try dsimp only at hSw
   go_simp
   all_goals with_reducible rfl
 try simp only[Act.put,sx]
 refine tl 3 ?_ ?_ hHeld ?_;rotate_left
 . intro w hSw
   try dsimp only at hSw
   go_simp
   all_goals with_reducible rfl
 try simp only[Act.put,sx]
 refine tl 4 ?_ ?_ hHeld ?_;rotate_left
 . intro w hSw
   try dsimp only at hSw
   go_simp
   all_goals with_reducible rfl
 try simp only[Act.put,sx]
 refine tl 6 ?_ ?_ hHeld ?_;rotate_left
 . intro w hSw
   try dsimp only at hSw
   go_simp
   all_goals with_reducible rfl
 try simp only[Act.put,sx]
 refine tl 7 ?_ ?_ hHeld ?_;rotate_left
 . intro w hSw
   try dsimp only at hSw
   go_simp
   all_goals with_reducible rfl
 try simp only[Act.put,sx]
 refine tl 8 ?_ ?_ hHeld ?_;rotate_left
 . intro w hSw
   try dsimp only at hSw
   go_simp
   all_goals with_reducible rfl
 try simp only[Act.put,sx]
 refine tl 9 ?_ ?_ hHeld ?_;rotate_left
 . intro w hSw
   try dsimp only at hSw
   go_simp
   all_goals with_reducible rfl
 try simp only[Act.put,sx]
 refine tl 10 ?_ ?_ hHeld ?_;rotate_left
 . intro w hSw;have x0:=hSw.1;go_simp
   all_goals with_reducible rfl
 try simp only[Act.put,sx]
 refine tl 11 ?_ ?_ hHeld ?_;rotate_left
 . intro w hSw
   try dsimp only at hSw
   go_simp
   all_goals with_reducible rfl
 try simp only[Act.put,sx]
 refine wpAnyH_ready (rs:=[0,12]) (by kernel_rfl) (by simp) ?_;refine(AllReadyH.cons (o:=_) rfl (fun K hK=>?_) (AllReadyH.cons (o:=_) rfl (fun K hK=>?_) AllReadyH.nil))
 . skip
   go_simp;have cc5:=(World.cell?_of_block (a:=⟨b,off+k*2,none⟩) ((Ab (Ac wd) (.cells #[] 34)).block b hb)).trans c0;have sz5:(wd.alloc (.cells #[] 34)).heap.size=wd.heap.size+1:=by simp
   have hb5:b<(wd.alloc (.cells #[] 34)).heap.size:=by have:=hb; omega
   have H5:=hid (Ab H.out (.cells #[] 34));have YT5:=hid (YT.out.alloc (.cells #[] 34));have YD5:=hid (YD.out.alloc (.cells #[] 34));have bz5:wd.heap.size<=(wd.alloc (.cells #[] 34)).heap.size:=by have:=(Nat.le_refl wd.heap.size); omega
   have O5:=hid (Bm wd wd.heap.size _ rfl (Nat.le_refl wd.heap.size));replace sz5:=hid sz5;generalize wd.alloc (.cells #[] 34)=wa5 at *;refine hK.out _ _ ⟨cc5,hb5⟩ (fun hHeld=>?_);clear hK K
   try simp only[Act.put,sx]
   refine wpAnyH_ready (rs:=[5,12]) (by kernel_rfl) (by simp) ?_;refine(AllReadyH.cons (o:=_) rfl (fun K hK=>?_) (AllReadyH.cons (o:=_) rfl (fun K hK=>?_) AllReadyH.nil))
   . skip
     dsimp only[List.getElem_toArray,List.getElem_cons_succ,List.getElem_cons_zero];rw[if_pos (by rfl)];obtain⟨v6,w6,hr6,O6,G6,hB6⟩:=AH wa5 wd.heap.size 25 (.slice (some ⟨wd.heap.size,0,none⟩) 0 0) 0 [] O5.out (some ⟨b,off,none⟩) (k+1) cc (ps.take (k+1)) YT5.out (by omega) bz5;refine wp_append_run (.tmp 65) (.tmp 69) 25 25 rfl _ _ rfl rfl hr6 ?_;have cc6:=(World.cell?_of_block (a:=⟨b,off+k*2,none⟩) (G6.block b hb5 (fun e=>by have:=(O5.out.lt b e.symm).1; omega))).trans cc5;have hb6:=Nat.lt_of_lt_of_le hb5 G6.size
     have H6:=hid (H5.out.grown G6 (by have:=H5.out.size; omega) (fun g e=>by have:=(O5.out.lt g e).1; have:=H.out.size; omega));have YT6:=hid (YT5.out.grown G6 (fun _ g o e e2=>by cases e; have:=(O5.out.lt _ e2).1; omega));have YD6:=hid (YD5.out.grown G6 (fun _ g o e e2=>by cases e; have:=(O5.out.lt _ e2).1; omega));have bz6:=Nat.le_trans bz5 G6.size;replace O6:=hid O6;clear hr6 G6 hB6;refine hK.out _ _ ⟨cc6,hb6⟩ (fun hHeld=>?_);clear hK K
     try simp only[Act.put,sx]
     refine wpAnyH_ready (rs:=[12]) (by kernel_rfl) (by simp) ?_;apply AllReadyH.cons rfl ?_ AllReadyH.nil;intro K hK;go_simp;have cc7:=(World.cell?_of_block (a:=⟨b,off+k*2,none⟩) ((Ab (Ac w6) (.cells #[.int .i64 qc,.int .i64 1] 34)).block b hb6)).trans cc6;have sz7:(w6.alloc (.cells #[.int .i64 qc,.int .i64 1] 34)).heap.size=w6.heap.size+1:=by simp
     have hb7:b<(w6.alloc (.cells #[.int .i64 qc,.int .i64 1] 34)).heap.size:=by have:=hb6; omega
     have H7:=hid (Ab H6.out (.cells #[.int .i64 qc,.int .i64 1] 34));have YT7:=hid (YT6.out.alloc (.cells #[.int .i64 qc,.int .i64 1] 34));have YD7:=hid (YD6.out.alloc (.cells #[.int .i64 qc,.int .i64 1] 34));have bz7:wd.heap.size<=(w6.alloc (.cells #[.int .i64 qc,.int .i64 1] 34)).heap.size:=by have:=bz6; omega
     have L7:=hid (Parts.one w6 _ qc 1 34 rfl);have O7:=hid (O6.out.alloc (.cells #[.int .i64 qc,.int .i64 1] 34));replace sz7:=hid sz7;generalize w6.alloc (.cells #[.int .i64 qc,.int .i64 1] 34)=wa7 at *;refine hK.out _ _ ⟨cc7,hb7⟩ (fun hHeld=>?_);clear hK K
     try simp only[Act.put,sx]
     refine wpAnyH_ready (rs:=[13]) (by kernel_rfl) (by simp) ?_;apply AllReadyH.cons rfl ?_ AllReadyH.nil;intro K hK;dsimp only[List.getElem_toArray,List.getElem_cons_succ,List.getElem_cons_zero];rw[if_pos (by rfl)];obtain⟨v8,w8,hr8,O8,G8,hB8⟩:=AH wa7 wd.heap.size 25 v6 (0+(k+1)) ([]++ps.take (k+1)) O7.out (some ⟨w6.heap.size,0,none⟩) 1 1 [⟨qc,1⟩] L7.out (by omega) bz7;refine wp_append_run (.tmp 70) (.tmp 77) 25 25 rfl _ _ rfl rfl hr8 ?_;have cc8:=(World.cell?_of_block (a:=⟨b,off+k*2,none⟩) (G8.block b hb7 (fun e=>by have:=(O7.out.lt b e.symm).1; omega))).trans cc7;have hb8:=Nat.lt_of_lt_of_le hb7 G8.size
     have H8:=hid (H7.out.grown G8 (by have:=H7.out.size; omega) (fun g e=>by have:=(O7.out.lt g e).1; have:=H.out.size; omega));have YT8:=hid (YT7.out.grown G8 (fun _ g o e e2=>by cases e; have:=(O7.out.lt _ e2).1; omega));have YD8:=hid (YD7.out.grown G8 (fun _ g o e e2=>by cases e; have:=(O7.out.lt _ e2).1; omega));have bz8:=Nat.le_trans bz7 G8.size;replace O8:=hid O8;clear hr8 G8 hB8;refine hK.out _ _ ⟨cc8,hb8⟩ (fun hHeld=>?_);clear hK K
     try simp only[Act.put,sx]
     refine tl 14 ?_ ?_ hHeld ?_;rotate_left
     . intro w hSw
       try dsimp only at hSw
       go_simp
       all_goals with_reducible rfl
     try simp only[Act.put,sx]
     refine wpAnyH_done (by kernel_rfl) ?_ _;have OX:w8.ownsRow wd.heap.size 34 2 v8 (k+1+1) (BR (ps.take (k+1)++[⟨qc,1⟩])):=by have t:=O8.out; rw[Nat.zero_add,List.nil_append] at t; exact t
     obtain⟨Ax,cx,hvx,_,_⟩:=Parts.of_own OX;subst hvx;replace OX:=hid OX;have hkd:(ps.drop (k+1)).length=N-(k+1):=by rw[List.length_drop,hpl]
     by_cases hcc:cc=k+1
     . have hNk:N=k+1:=by omega
       subst hcc;have hz:N-(k+1)=0:=by omega
       have YZ:=hid (show Parts w8 (some ⟨b,off,none⟩) 0 (ps.drop (k+1)) from⟨by rw[hkd,hz],fun h=>absurd h (by omega)⟩);go_wp2_with (at_builtin; (refine AL _ rfl (.tmp 80) (.tmp 84) rfl wd.heap.size (Value.slice Ax (k+1+1) cx) (k+1+1) (ps.take (k+1)++[⟨qc,1⟩]) rfl OX.out _ _ _ (ps.drop (k+1)) rfl YZ.out (by omega) bz8 ?_));intro v9 w9 O9 G9 _;have H9:=hid (H8.out.grown G9 (by have:=H8.out.size; omega) (fun g e=>by have:=(O8.out.lt g e).1; have:=H.out.size; omega));obtain⟨A9,c9,hv9,I9,_⟩:=Parts.of_own O9;subst hv9;replace I9:=hid I9;clear G9 O9;go_wp2_with fail;refine(Bq _ _ _ _ hsp.out _ I9.out (by omega)).mono ?_
       rintro e w10 ⟨A10,c10,rfl,I10,M10,hc10,B⟩;replace H9:=hid (Aa H9.out B);clear B;go_wp2;go_ret;exact⟨rfl,H9.out⟩
     . skip
       have YZ:=YD8;go_wp2_with (at_builtin; (refine AL _ rfl (.tmp 80) (.tmp 84) rfl wd.heap.size (Value.slice Ax (k+1+1) cx) (k+1+1) (ps.take (k+1)++[⟨qc,1⟩]) rfl OX.out _ _ _ (ps.drop (k+1)) rfl YZ.out (by omega) bz8 ?_));intro v9 w9 O9 G9 _;have H9:=hid (H8.out.grown G9 (by have:=H8.out.size; omega) (fun g e=>by have:=(O8.out.lt g e).1; have:=H.out.size; omega));obtain⟨A9,c9,hv9,I9,_⟩:=Parts.of_own O9;subst hv9;replace I9:=hid I9;clear G9 O9;go_wp2_with fail;refine(Bq _ _ _ _ hsp.out _ I9.out (by omega)).mono ?_;rintro e w10 ⟨A10,c10,rfl,I10,M10,hc10,B⟩;replace H9:=hid (Aa H9.out B);clear B;go_wp2;go_ret
       exact⟨rfl,H9.out⟩
   . skip
     go_simp;have cc6:=(World.cell?_of_block (a:=⟨b,off+k*2,none⟩) ((Ab (Ac wa5) (.cells #[.int .i64 qc,.int .i64 1] 34)).block b hb5)).trans cc5;have sz6:(wa5.alloc (.cells #[.int .i64 qc,.int .i64 1] 34)).heap.size=wa5.heap.size+1:=by simp
     have hb6:b<(wa5.alloc (.cells #[.int .i64 qc,.int .i64 1] 34)).heap.size:=by have:=hb5; omega
     have H6:=hid (Ab H5.out (.cells #[.int .i64 qc,.int .i64 1] 34));have YT6:=hid (YT5.out.alloc (.cells #[.int .i64 qc,.int .i64 1] 34));have YD6:=hid (YD5.out.alloc (.cells #[.int .i64 qc,.int .i64 1] 34));have bz6:wd.heap.size<=(wa5.alloc (.cells #[.int .i64 qc,.int .i64 1] 34)).heap.size:=by have:=bz5; omega
     have L6:=hid (Parts.one wa5 _ qc 1 34 rfl);have O6:=hid (O5.out.alloc (.cells #[.int .i64 qc,.int .i64 1] 34));replace sz6:=hid sz6;generalize wa5.alloc (.cells #[.int .i64 qc,.int .i64 1] 34)=wa6 at *;refine hK.out _ _ ⟨cc6,hb6⟩ (fun hHeld=>?_);clear hK K
     try simp only[Act.put,sx]
     refine wpAnyH_ready (rs:=[5]) (by kernel_rfl) (by simp) ?_;apply AllReadyH.cons rfl ?_ AllReadyH.nil;intro K hK;dsimp only[List.getElem_toArray,List.getElem_cons_succ,List.getElem_cons_zero];rw[if_pos (by rfl)];obtain⟨v7,w7,hr7,O7,G7,hB7⟩:=AH wa6 wd.heap.size 25 (.slice (some ⟨wd.heap.size,0,none⟩) 0 0) 0 [] O6.out (some ⟨b,off,none⟩) (k+1) cc (ps.take (k+1)) YT6.out (by omega) bz6;refine wp_append_run (.tmp 65) (.tmp 69) 25 25 rfl _ _ rfl rfl hr7 ?_;have cc7:=(World.cell?_of_block (a:=⟨b,off+k*2,none⟩) (G7.block b hb6 (fun e=>by have:=(O6.out.lt b e.symm).1; omega))).trans cc6;have hb7:=Nat.lt_of_lt_of_le hb6 G7.size
     have H7:=hid (H6.out.grown G7 (by have:=H6.out.size; omega) (fun g e=>by have:=(O6.out.lt g e).1; have:=H.out.size; omega));have YT7:=hid (YT6.out.grown G7 (fun _ g o e e2=>by cases e; have:=(O6.out.lt _ e2).1; omega));have YD7:=hid (YD6.out.grown G7 (fun _ g o e e2=>by cases e; have:=(O6.out.lt _ e2).1; omega));have bz7:=Nat.le_trans bz6 G7.size;have L7:=hid (L6.out.grown G7 (fun _ g o e e2=>by cases e; have:=sz5.out; have:=sz6.out; simp[Value.ownBlock] at e2; omega));replace O7:=hid O7;clear hr7 G7 hB7;refine hK.out _ _ ⟨cc7,hb7⟩ (fun hHeld=>?_);clear hK K
     try simp only[Act.put,sx]
     refine wpAnyH_ready (rs:=[13]) (by kernel_rfl) (by simp) ?_;apply AllReadyH.cons rfl ?_ AllReadyH.nil;intro K hK;dsimp only[List.getElem_toArray,List.getElem_cons_succ,List.getElem_cons_zero];rw[if_pos (by rfl)];obtain⟨v8,w8,hr8,O8,G8,hB8⟩:=AH w7 wd.heap.size 25 v7 (0+(k+1)) ([]++ps.take (k+1)) O7.out (some ⟨wa5.heap.size,0,none⟩) 1 1 [⟨qc,1⟩] L7.out (by omega) bz7;refine wp_append_run (.tmp 70) (.tmp 77) 25 25 rfl _ _ rfl rfl hr8 ?_;have cc8:=(World.cell?_of_block (a:=⟨b,off+k*2,none⟩) (G8.block b hb7 (fun e=>by have:=(O7.out.lt b e.symm).1; omega))).trans cc7;have hb8:=Nat.lt_of_lt_of_le hb7 G8.size
     have H8:=hid (H7.out.grown G8 (by have:=H7.out.size; omega) (fun g e=>by have:=(O7.out.lt g e).1; have:=H.out.size; omega));have YT8:=hid (YT7.out.grown G8 (fun _ g o e e2=>by cases e; have:=(O7.out.lt _ e2).1; omega));have YD8:=hid (YD7.out.grown G8 (fun _ g o e e2=>by cases e; have:=(O7.out.lt _ e2).1; omega));have bz8:=Nat.le_trans bz7 G8.size;replace O8:=hid O8;clear hr8 G8 hB8;refine hK.out _ _ ⟨cc8,hb8⟩ (fun hHeld=>?_);clear hK K
     try simp only[Act.put,sx]
     refine tl 14 ?_ ?_ hHeld ?_;rotate_left
     . intro w hSw
       try dsimp only at hSw
       go_simp
       all_goals with_reducible rfl
     try simp only[Act.put,sx]
     refine wpAnyH_done (by kernel_rfl) ?_ _;have OX:w8.ownsRow wd.heap.size 34 2 v8 (k+1+1) (BR (ps.take (k+1)++[⟨qc,1⟩])):=by have t:=O8.out; rw[Nat.zero_add,List.nil_append] at t; exact t
     obtain⟨Ax,cx,hvx,_,_⟩:=Parts.of_own OX;subst hvx;replace OX:=hid OX;have hkd:(ps.drop (k+1)).length=N-(k+1):=by rw[List.length_drop,hpl]
     by_cases hcc:cc=k+1
     . have hNk:N=k+1:=by omega
       subst hcc;have hz:N-(k+1)=0:=by omega
       have YZ:=hid (show Parts w8 (some ⟨b,off,none⟩) 0 (ps.drop (k+1)) from⟨by rw[hkd,hz],fun h=>absurd h (by omega)⟩);go_wp2_with (at_builtin; (refine AL _ rfl (.tmp 80) (.tmp 84) rfl wd.heap.size (Value.slice Ax (k+1+1) cx) (k+1+1) (ps.take (k+1)++[⟨qc,1⟩]) rfl OX.out _ _ _ (ps.drop (k+1)) rfl YZ.out (by omega) bz8 ?_));intro v9 w9 O9 G9 _;have H9:=hid (H8.out.grown G9 (by have:=H8.out.size; omega) (fun g e=>by have:=(O8.out.lt g e).1; have:=H.out.size; omega));obtain⟨A9,c9,hv9,I9,_⟩:=Parts.of_own O9;subst hv9;replace I9:=hid I9;clear G9 O9;go_wp2_with fail;refine(Bq _ _ _ _ hsp.out _ I9.out (by omega)).mono ?_
       rintro e w10 ⟨A10,c10,rfl,I10,M10,hc10,B⟩;replace H9:=hid (Aa H9.out B);clear B;go_wp2;go_ret;exact⟨rfl,H9.out⟩
     . skip
       have YZ:=YD8;go_wp2_with (at_builtin; (refine AL _ rfl (.tmp 80) (.tmp 84) rfl wd.heap.size (Value.slice Ax (k+1+1) cx) (k+1+1) (ps.take (k+1)++[⟨qc,1⟩]) rfl OX.out _ _ _ (ps.drop (k+1)) rfl YZ.out (by omega) bz8 ?_));intro v9 w9 O9 G9 _;have H9:=hid (H8.out.grown G9 (by have:=H8.out.size; omega) (fun g e=>by have:=(O8.out.lt g e).1; have:=H.out.size; omega));obtain⟨A9,c9,hv9,I9,_⟩:=Parts.of_own O9;subst hv9;replace I9:=hid I9;clear G9 O9;go_wp2_with fail;refine(Bq _ _ _ _ hsp.out _ I9.out (by omega)).mono ?_;rintro e w10 ⟨A10,c10,rfl,I10,M10,hc10,B⟩;replace H9:=hid (Aa H9.out B);clear B;go_wp2;go_ret
       exact⟨rfl,H9.out⟩
 . skip
   go_simp;have cc5:=(World.cell?_of_block (a:=⟨b,off+k*2,none⟩) ((Ab (Ac wd) (.cells #[.int .i64 qc,.int .i64 1] 34)).block b hb)).trans c0;have sz5:(wd.alloc (.cells #[.int .i64 qc,.int .i64 1] 34)).heap.size=wd.heap.size+1:=by simp
   have hb5:b<(wd.alloc (.cells #[.int .i64 qc,.int .i64 1] 34)).heap.size:=by have:=hb; omega
   have H5:=hid (Ab H.out (.cells #[.int .i64 qc,.int .i64 1] 34));have YT5:=hid (YT.out.alloc (.cells #[.int .i64 qc,.int .i64 1] 34));have YD5:=hid (YD.out.alloc (.cells #[.int .i64 qc,.int .i64 1] 34));have bz5:wd.heap.size<=(wd.alloc (.cells #[.int .i64 qc,.int .i64 1] 34)).heap.size:=by have:=(Nat.le_refl wd.heap.size); omega
   have L5:=hid (Parts.one wd _ qc 1 34 rfl);replace sz5:=hid sz5;generalize wd.alloc (.cells #[.int .i64 qc,.int .i64 1] 34)=wa5 at *;refine hK.out _ _ ⟨cc5,hb5⟩ (fun hHeld=>?_);clear hK K
   try simp only[Act.put,sx]
   refine wpAnyH_ready (rs:=[0]) (by kernel_rfl) (by simp) ?_;apply AllReadyH.cons rfl ?_ AllReadyH.nil;intro K hK;go_simp;have cc6:=(World.cell?_of_block (a:=⟨b,off+k*2,none⟩) ((Ab (Ac wa5) (.cells #[] 34)).block b hb5)).trans cc5;have sz6:(wa5.alloc (.cells #[] 34)).heap.size=wa5.heap.size+1:=by simp
   have hb6:b<(wa5.alloc (.cells #[] 34)).heap.size:=by have:=hb5; omega
   have H6:=hid (Ab H5.out (.cells #[] 34));have YT6:=hid (YT5.out.alloc (.cells #[] 34));have YD6:=hid (YD5.out.alloc (.cells #[] 34));have bz6:wd.heap.size<=(wa5.alloc (.cells #[] 34)).heap.size:=by have:=bz5; omega
   have O6:=hid (Bm wa5 wd.heap.size _ rfl bz5);have L6:=hid (L5.out.alloc (.cells #[] 34));replace sz6:=hid sz6;generalize wa5.alloc (.cells #[] 34)=wa6 at *;refine hK.out _ _ ⟨cc6,hb6⟩ (fun hHeld=>?_);clear hK K
   try simp only[Act.put,sx]
   refine wpAnyH_ready (rs:=[5]) (by kernel_rfl) (by simp) ?_;apply AllReadyH.cons rfl ?_ AllReadyH.nil;intro K hK;dsimp only[List.getElem_toArray,List.getElem_cons_succ,List.getElem_cons_zero];rw[if_pos (by rfl)];obtain⟨v7,w7,hr7,O7,G7,hB7⟩:=AH wa6 wd.heap.size 25 (.slice (some ⟨wa5.heap.size,0,none⟩) 0 0) 0 [] O6.out (some ⟨b,off,none⟩) (k+1) cc (ps.take (k+1)) YT6.out (by omega) bz6;refine wp_append_run (.tmp 65) (.tmp 69) 25 25 rfl _ _ rfl rfl hr7 ?_;have cc7:=(World.cell?_of_block (a:=⟨b,off+k*2,none⟩) (G7.block b hb6 (fun e=>by have:=(O6.out.lt b e.symm).1; omega))).trans cc6;have hb7:=Nat.lt_of_lt_of_le hb6 G7.size
   have H7:=hid (H6.out.grown G7 (by have:=H6.out.size; omega) (fun g e=>by have:=(O6.out.lt g e).1; have:=H.out.size; omega));have YT7:=hid (YT6.out.grown G7 (fun _ g o e e2=>by cases e; have:=(O6.out.lt _ e2).1; omega));have YD7:=hid (YD6.out.grown G7 (fun _ g o e e2=>by cases e; have:=(O6.out.lt _ e2).1; omega));have bz7:=Nat.le_trans bz6 G7.size;have L7:=hid (L6.out.grown G7 (fun _ g o e e2=>by cases e; have:=sz5.out; have:=sz6.out; simp[Value.ownBlock] at e2; omega));replace O7:=hid O7;clear hr7 G7 hB7;refine hK.out _ _ ⟨cc7,hb7⟩ (fun hHeld=>?_);clear hK K
   try simp only[Act.put,sx]
   refine wpAnyH_ready (rs:=[13]) (by kernel_rfl) (by simp) ?_;apply AllReadyH.cons rfl ?_ AllReadyH.nil;intro K hK;dsimp only[List.getElem_toArray,List.getElem_cons_succ,List.getElem_cons_zero];rw[if_pos (by rfl)];obtain⟨v8,w8,hr8,O8,G8,hB8⟩:=AH w7 wd.heap.size 25 v7 (0+(k+1)) ([]++ps.take (k+1)) O7.out (some ⟨wd.heap.size,0,none⟩) 1 1 [⟨qc,1⟩] L7.out (by omega) bz7;refine wp_append_run (.tmp 70) (.tmp 77) 25 25 rfl _ _ rfl rfl hr8 ?_;have cc8:=(World.cell?_of_block (a:=⟨b,off+k*2,none⟩) (G8.block b hb7 (fun e=>by have:=(O7.out.lt b e.symm).1; omega))).trans cc7;have hb8:=Nat.lt_of_lt_of_le hb7 G8.size
   have H8:=hid (H7.out.grown G8 (by have:=H7.out.size; omega) (fun g e=>by have:=(O7.out.lt g e).1; have:=H.out.size; omega));have YT8:=hid (YT7.out.grown G8 (fun _ g o e e2=>by cases e; have:=(O7.out.lt _ e2).1; omega));have YD8:=hid (YD7.out.grown G8 (fun _ g o e e2=>by cases e; have:=(O7.out.lt _ e2).1; omega));have bz8:=Nat.le_trans bz7 G8.size;replace O8:=hid O8;clear hr8 G8 hB8;refine hK.out _ _ ⟨cc8,hb8⟩ (fun hHeld=>?_);clear hK K
   try simp only[Act.put,sx]
   refine tl 14 ?_ ?_ hHeld ?_;rotate_left
   . intro w hSw
     try dsimp only at hSw
     go_simp
     all_goals with_reducible rfl
   try simp only[Act.put,sx]
   refine wpAnyH_done (by kernel_rfl) ?_ _;have OX:w8.ownsRow wd.heap.size 34 2 v8 (k+1+1) (BR (ps.take (k+1)++[⟨qc,1⟩])):=by have t:=O8.out; rw[Nat.zero_add,List.nil_append] at t; exact t
   obtain⟨Ax,cx,hvx,_,_⟩:=Parts.of_own OX;subst hvx;replace OX:=hid OX;have hkd:(ps.drop (k+1)).length=N-(k+1):=by rw[List.length_drop,hpl]
   by_cases hcc:cc=k+1
   . have hNk:N=k+1:=by omega
     subst hcc;have hz:N-(k+1)=0:=by omega
     have YZ:=hid (show Parts w8 (some ⟨b,off,none⟩) 0 (ps.drop (k+1)) from⟨by rw[hkd,hz],fun h=>absurd h (by omega)⟩);go_wp2_with (at_builtin; (refine AL _ rfl (.tmp 80) (.tmp 84) rfl wd.heap.size (Value.slice Ax (k+1+1) cx) (k+1+1) (ps.take (k+1)++[⟨qc,1⟩]) rfl OX.out _ _ _ (ps.drop (k+1)) rfl YZ.out (by omega) bz8 ?_));intro v9 w9 O9 G9 _;have H9:=hid (H8.out.grown G9 (by have:=H8.out.size; omega) (fun g e=>by have:=(O8.out.lt g e).1; have:=H.out.size; omega));obtain⟨A9,c9,hv9,I9,_⟩:=Parts.of_own O9;subst hv9;replace I9:=hid I9;clear G9 O9;go_wp2_with fail;refine(Bq _ _ _ _ hsp.out _ I9.out (by omega)).mono ?_
     rintro e w10 ⟨A10,c10,rfl,I10,M10,hc10,B⟩;replace H9:=hid (Aa H9.out B);clear B;go_wp2;go_ret;exact⟨rfl,H9.out⟩
   . skip
     have YZ:=YD8;go_wp2_with (at_builtin; (refine AL _ rfl (.tmp 80) (.tmp 84) rfl wd.heap.size (Value.slice Ax (k+1+1) cx) (k+1+1) (ps.take (k+1)++[⟨qc,1⟩]) rfl OX.out _ _ _ (ps.drop (k+1)) rfl YZ.out (by omega) bz8 ?_));intro v9 w9 O9 G9 _;have H9:=hid (H8.out.grown G9 (by have:=H8.out.size; omega) (fun g e=>by have:=(O8.out.lt g e).1; have:=H.out.size; omega));obtain⟨A9,c9,hv9,I9,_⟩:=Parts.of_own O9;subst hv9;replace I9:=hid I9;clear G9 O9;go_wp2_with fail;refine(Bq _ _ _ _ hsp.out _ I9.out (by omega)).mono ?_;rintro e w10 ⟨A10,c10,rfl,I10,M10,hc10,B⟩;replace H9:=hid (Aa H9.out B);clear B;go_wp2;go_ret;exact⟨rfl,H9.out⟩
end Go.Proofs.Ytflmmdljkhdjlaa
