import Derived.Test.YtgghhedkephohaaZLawBdC
set_option linter.all false
set_option maxRecDepth 100000
set_option maxHeartbeats 8000000
open Go.Lib
namespace Go.Proofs.Ytgghhedkephohaa
open Go.RowKit
open M
theorem Ents.cut2{w:World}{g o n c k:Nat}{xs:List En}(h:Ents w (some ⟨g,o,none⟩) n xs)(hc:n<=c)(hk:k<=n):Ents w (if c=k then some ⟨g,o,none⟩ else some ⟨g,o+k*2,none⟩) (n-k) (xs.drop k) :=
 ⟨by rw[List.length_drop,h.1],fun h0=>by
  obtain⟨b,off,e,hb,hcell⟩:=h.2 (by omega);cases e
  rw[if_neg (by omega)];refine⟨g,o+k*2,rfl,hb,fun j hj=>?_⟩;have t:=hcell (k+j) (by omega);have e2:(xs.drop k).getD j ez=xs.getD (k+j) ez:=by simp[List.getD_eq_getElem?_getD,List.getElem?_drop]
  rw[e2,show o+k*2+j*2=o+(k+j)*2 by omega];exact t⟩
theorem FQ(a:Option Addr)(len cap:Nat)(zs:List Int)(a2:Option Addr)(len2 cap2:Nat)(zs2:List Int)(w:World)(h:IsRow .u8 w a len cap zs)(h2:IsRow .u8 w a2 len2 cap2 zs2) :
 Calls Try.prog 13 #[.slice a len cap,.slice a2 len2 cap2] w fun e w'=>e=.returned (.bool true)/\Below w.heap.size w w':=by
 have hm:=h.bytes.1;have hm2:=h.bytes.2.1;unfold maxLen at hm2;have hn:=h2.bytes.1;have hn2:=h2.bytes.2.1;unfold maxLen at hn2;clear h2;by_cases g:1048576<len
 . have g1:(1048576:Int)<(len:Int):=by omega
   go_enter Try.func13,Try.ntmps13;go_wp2;go_ret;exact⟨rfl,Below.refl _ _⟩
 have g1:(len:Int)<=1048576:=by omega
 by_cases k:1048576<len2
 . have k1:(1048576:Int)<(len2:Int):=by omega
   go_enter Try.func13,Try.ntmps13;go_wp2;go_ret;exact⟨rfl,Below.refl _ _⟩
 have k1:(len2:Int)<=1048576:=by omega
 clear k hn hn2;clear g hm hm2;go_enter Try.func13,Try.ntmps13;go_wp2_with fail;refine(FT a len cap zs w h).mono ?_;rintro e w1 ⟨D,N,cc,xs,rfl,⟨hN,hNc⟩,Y,B⟩;have H:=hid B;clear B h;have hxl:=hid Y.1;replace Y:=hid Y;cases hv:bdv xs
 . replace hv:=hid hv;go_wp2_with fail;refine(E2 D N cc xs false hv.out _ Y.out (by omega)).mono ?_;rintro e w2 ⟨rfl,B⟩;replace Y:=hid (Y.out.step B);replace H:=hid (Aa H.out B);clear B;go_wp2_with fail;refine(Dz D N cc xs false hv.out _ Y.out (by omega)).mono ?_;rintro e w3 ⟨rfl,B⟩;replace Y:=hid (Y.out.step B);replace H:=hid (Aa H.out B);clear B;go_wp2;go_ret;exact⟨rfl,H.out⟩
 by_cases h0:N=0
 . have g0:((N:Int)==0)=true:=by simp[h0]
   have g1:(N==0)=true:=by simp[h0]
   replace hv:=hid hv;replace h0:=hid h0;go_wp2_with fail;refine(E2 D N cc xs true hv.out _ Y.out (by omega)).mono ?_;rintro e w2 ⟨rfl,B⟩;replace Y:=hid (Y.out.step B);replace H:=hid (Aa H.out B);clear B;go_wp2_with fail;refine(Dz D N cc xs true hv.out _ Y.out (by omega)).mono ?_;rintro e w3 ⟨rfl,B⟩;replace Y:=hid (Y.out.step B);replace H:=hid (Aa H.out B);clear B;go_wp2;go_ret;exact⟨rfl,H.out⟩
 have g0:((N:Int)==0)=false:=beq_eq_false_iff_ne.2 (by omega);have g1:(N==0)=false:=beq_eq_false_iff_ne.2 h0;obtain⟨k,hk⟩:∃ k,len2 % N=k:=⟨_,rfl⟩;have hkN:k<N:=hk▸Nat.mod_lt _ (by omega);have m0:Int.tmod (len2:Int) (N:Int)=(k:Int):=by rw[Int.tmod_eq_emod_of_nonneg (by omega),<- hk]; omega
 have m1:(len2:Int) % (N:Int)=(k:Int):=by rw[<- hk]; omega
 have m2:IntKind.i64.wrap (k:Int)=(k:Int):=IntWalk.i64_in _ (by omega);obtain⟨k1,hk1⟩:∃ k1,k+1=k1:=⟨_,rfl⟩;have m3:(k:Int)+1=(k1:Int):=by omega
 have m4:IntKind.i64.wrap (k1:Int)=(k1:Int):=IntWalk.i64_in _ (by omega);have m5:k<=cc:=by omega
 have m6:k1<=cc:=by omega
 have m7:k1<=N:=by omega
 have m8:(k1:Int)<=(cc:Int):=by omega
 have m9:(k:Int)<=(cc:Int):=by omega
 have m10:(k1:Int)<=(N:Int):=by omega
 have m11:(k:Int)<=(N:Int):=by omega
 have less:=hid (show bdv (xs.take k++xs.drop k1)=true from hk1▸FV (Aw.1 hv) k);have twice:=hid (show bdv (xs.take k1++xs.drop k)=false from hk1▸FU (by rw[hxl.out]; exact hkN));have hN0:0<N:=by omega
 replace hv:=hid hv;replace hk:=hid hk;replace h0:=hid h0;obtain⟨gb,go,hD⟩:∃ gb go,D=some ⟨gb,go,none⟩:=by obtain⟨b,off,e,_⟩:=Y.out.2 hN0; exact⟨b,off,e⟩
 subst hD;go_wp2_with fail;refine(E2 _ N cc xs true hv.out _ Y.out (by omega)).mono ?_;rintro e w2 ⟨rfl,B⟩;replace Y:=hid (Y.out.step B);replace H:=hid (Aa H.out B);clear B;go_wp2_with fail;refine(Dz _ N cc xs true hv.out _ Y.out (by omega)).mono ?_;rintro e w3 ⟨rfl,B⟩;replace Y:=hid (Y.out.step B);replace H:=hid (Aa H.out B);clear B;go_upto_region 9 with fail;have I66:=hid (fun W (Z:Ents W (some ⟨gb,go,none⟩) N xs)=>Z.take (j:=k) (Nat.le_of_lt hkN));have I73:=hid (fun W (Z:Ents W (some ⟨gb,go,none⟩) N xs)=>Z.cut2 hNc m7);refine wp_region_held_drew (S:=fun w'=>True) (by kernel_rfl) trivial (fun hHeld=>?_);replace Y:=hid (Y.out.drew)
 replace H:=hid (Cv H.out)
 skip
 generalize World.drew _=v9 at *;have Hb:=hid (Ac v9);refine tl 1 ?_ ?_ hHeld ?_;rotate_left
 . intro w hSw
   try dsimp only at hSw
   go_simp
   all_goals with_reducible rfl
 try simp only[Act.put,sx]
 refine tl 2 ?_ ?_ hHeld ?_;rotate_left
 . intro w hSw
   try dsimp only at hSw
   go_simp
   all_goals with_reducible rfl
 try simp only[Act.put,sx]
 refine tl 3 ?_ ?_ hHeld ?_;rotate_left
 . intro w hSw
   try dsimp only at hSw
   go_simp
   all_goals with_reducible rfl
 try simp only[Act.put,sx]
 refine tl 5 ?_ ?_ hHeld ?_;rotate_left
 . intro w hSw
   try dsimp only at hSw
   go_simp
   all_goals with_reducible rfl
 try simp only[Act.put,sx]
 refine tl 6 ?_ ?_ hHeld ?_;rotate_left
 . intro w hSw
   try dsimp only at hSw
   go_simp
   all_goals with_reducible rfl
 try simp only[Act.put,sx]
 refine tl 7 ?_ ?_ hHeld ?_;rotate_left
 . intro w hSw
   try dsimp only at hSw
   go_simp
   all_goals with_reducible rfl
 try simp only[Act.put,sx]
 refine tl 8 ?_ ?_ hHeld ?_;rotate_left
 . intro w hSw
   try dsimp only at hSw
   go_simp
   all_goals with_reducible rfl
 try simp only[Act.put,sx]
 refine wpAnyH_ready (rs:=[0]) (by kernel_rfl) (by simp) ?_;apply AllReadyH.cons rfl ?_ AllReadyH.nil;intro K hK;dsimp only[List.getElem_toArray,List.getElem_cons_succ,List.getElem_cons_zero];rw[if_pos (by rfl)];refine A0 rfl ?_;intro g0 wn S hg0 E0;have hz:=Nat.le_of_lt (E0.lt g0 rfl).2;have hU:v9.heap.size<=g0:=Nat.le_trans Hb.out.size hg0;replace Hb:=hid (Hb.out.trans (S.mono Hb.out.size));clear S hg0 hHeld;refine hK.out _ _ trivial (fun hHeld=>?_);clear hK K
 try simp only[Act.put,sx]
 refine wpAnyH_ready (rs:=[4]) (by kernel_rfl) (by simp) ?_;apply AllReadyH.cons rfl ?_ AllReadyH.nil;intro K hK;dsimp only[List.getElem_toArray,List.getElem_cons_succ,List.getElem_cons_zero];rw[if_pos (by rfl)];refine Ae (.tmp 45) (.tmp 48) rfl g0 _ _ _ rfl E0 _ _ _ (xs.take k) rfl (I66.out _ (Y.out.step Hb.out)) (by omega) hz ?_;intro v1 wn E1 GN;have own:∀ q,Value.ownBlock _=some q->g0<=q:=fun q e=>(E0.lt q e).1;replace hz:=Nat.le_trans hz GN.size;replace Hb:=hid (Hb.out.grown GN Hb.out.size (fun q e=>by have:=own _ e; omega));replace E0:=E1;clear GN E1 hHeld own;refine hK.out _ _ trivial (fun hHeld=>?_);clear hK K
 try simp only[Act.put,sx]
 refine wpAnyH_ready (rs:=[9]) (by kernel_rfl) (by simp) ?_;apply AllReadyH.cons rfl ?_ AllReadyH.nil;intro K hK;dsimp only[List.getElem_toArray,List.getElem_cons_succ,List.getElem_cons_zero];rw[if_pos (by rfl)];refine Ae (.tmp 49) (.tmp 53) rfl g0 _ _ _ rfl E0 _ _ _ (xs.drop k1) rfl (I73.out _ (Y.out.step Hb.out)) (by omega) hz ?_;intro v1 wn E1 GN;have own:∀ q,Value.ownBlock _=some q->g0<=q:=fun q e=>(E0.lt q e).1;replace hz:=Nat.le_trans hz GN.size;replace Hb:=hid (Hb.out.grown GN Hb.out.size (fun q e=>by have:=own _ e; omega));replace E0:=E1;clear GN E1 hHeld own;refine hK.out _ _ trivial (fun hHeld=>?_);clear hK K
 try simp only[Act.put,sx]
 refine tl 10 ?_ ?_ hHeld ?_;rotate_left
 . intro w hSw
   try dsimp only at hSw
   go_simp
   all_goals with_reducible rfl
 try simp only[Act.put,sx]
 refine wpAnyH_done (by kernel_rfl) ?_ _
 skip
 obtain⟨L1,hL1⟩:∃ L1,0+k+(N-k1)=L1:=⟨_,rfl⟩;rw[hL1] at E0;have hL1b:L1<=9:=by omega
 obtain⟨A8,c8,e8,J1,_⟩:=Ents.of_own E0;subst e8;replace J1:=hid (show Ents wn A8 L1 (xs.take k++xs.drop k1) from(by simpa using J1));replace Y:=hid (Y.out.step Hb.out);replace H:=hid (Aa H.out Hb.out);replace hL1:=hid hL1;clear Hb I66 I73 E0 hz hU hHeld;generalize (if cc=k1 then (some ⟨gb,go,none⟩:Option Addr) else some ⟨gb,go+k1*2,none⟩)=q739 at *;go_upto_region 10 with fail;have I66:=hid (fun W (Z:Ents W (some ⟨gb,go,none⟩) N xs)=>Z.take (j:=k1) m7);have I73:=hid (fun W (Z:Ents W (some ⟨gb,go,none⟩) N xs)=>Z.cut2 hNc (Nat.le_of_lt hkN));refine wp_region_held_drew (S:=fun w'=>True) (by kernel_rfl) trivial (fun hHeld=>?_)
 replace Y:=hid (Y.out.drew);replace H:=hid (Cv H.out);replace J1:=hid J1.out.drew
 skip
 generalize World.drew _=v10 at *;have Hb:=hid (Ac v10);refine tl 1 ?_ ?_ hHeld ?_;rotate_left
 . intro w hSw
   try dsimp only at hSw
   go_simp
   all_goals with_reducible rfl
 try simp only[Act.put,sx]
 refine tl 2 ?_ ?_ hHeld ?_;rotate_left
 . intro w hSw
   try dsimp only at hSw
   go_simp
   all_goals with_reducible rfl
 try simp only[Act.put,sx]
 refine tl 3 ?_ ?_ hHeld ?_;rotate_left
 . intro w hSw
   try dsimp only at hSw
   go_simp
   all_goals with_reducible rfl
 try simp only[Act.put,sx]
 refine tl 4 ?_ ?_ hHeld ?_;rotate_left
 . intro w hSw
   try dsimp only at hSw
   go_simp
   all_goals with_reducible rfl
 try simp only[Act.put,sx]
 refine tl 6 ?_ ?_ hHeld ?_;rotate_left
 . intro w hSw
   try dsimp only at hSw
   go_simp
   all_goals with_reducible rfl
 try simp only[Act.put,sx]
 refine tl 7 ?_ ?_ hHeld ?_;rotate_left
 . intro w hSw
   try dsimp only at hSw
   go_simp
   all_goals with_reducible rfl
 try simp only[Act.put,sx]
 refine tl 8 ?_ ?_ hHeld ?_;rotate_left
 . intro w hSw
   try dsimp only at hSw
   go_simp
   all_goals with_reducible rfl
 try simp only[Act.put,sx]
 refine wpAnyH_ready (rs:=[0]) (by kernel_rfl) (by simp) ?_;apply AllReadyH.cons rfl ?_ AllReadyH.nil;intro K hK;dsimp only[List.getElem_toArray,List.getElem_cons_succ,List.getElem_cons_zero];rw[if_pos (by rfl)];refine A0 rfl ?_;intro g0 wn S hg0 E0;have hz:=Nat.le_of_lt (E0.lt g0 rfl).2;have hU:v10.heap.size<=g0:=Nat.le_trans Hb.out.size hg0;replace Hb:=hid (Hb.out.trans (S.mono Hb.out.size));clear S hg0 hHeld;refine hK.out _ _ trivial (fun hHeld=>?_);clear hK K
 try simp only[Act.put,sx]
 refine wpAnyH_ready (rs:=[5]) (by kernel_rfl) (by simp) ?_;apply AllReadyH.cons rfl ?_ AllReadyH.nil;intro K hK;dsimp only[List.getElem_toArray,List.getElem_cons_succ,List.getElem_cons_zero];rw[if_pos (by rfl)];refine Ae (.tmp 55) (.tmp 59) rfl g0 _ _ _ rfl E0 _ _ _ (xs.take k1) rfl (I66.out _ (Y.out.step Hb.out)) (by omega) hz ?_;intro v1 wn E1 GN;have own:∀ q,Value.ownBlock _=some q->g0<=q:=fun q e=>(E0.lt q e).1;replace hz:=Nat.le_trans hz GN.size;replace Hb:=hid (Hb.out.grown GN Hb.out.size (fun q e=>by have:=own _ e; omega));replace E0:=E1;clear GN E1 hHeld own;refine hK.out _ _ trivial (fun hHeld=>?_);clear hK K
 try simp only[Act.put,sx]
 refine wpAnyH_ready (rs:=[9]) (by kernel_rfl) (by simp) ?_;apply AllReadyH.cons rfl ?_ AllReadyH.nil;intro K hK;dsimp only[List.getElem_toArray,List.getElem_cons_succ,List.getElem_cons_zero];rw[if_pos (by rfl)];refine Ae (.tmp 60) (.tmp 63) rfl g0 _ _ _ rfl E0 _ _ _ (xs.drop k) rfl (I73.out _ (Y.out.step Hb.out)) (by omega) hz ?_;intro v1 wn E1 GN;have own:∀ q,Value.ownBlock _=some q->g0<=q:=fun q e=>(E0.lt q e).1;replace hz:=Nat.le_trans hz GN.size;replace Hb:=hid (Hb.out.grown GN Hb.out.size (fun q e=>by have:=own _ e; omega));replace E0:=E1;clear GN E1 hHeld own;refine hK.out _ _ trivial (fun hHeld=>?_);clear hK K
 try simp only[Act.put,sx]
 refine tl 10 ?_ ?_ hHeld ?_;rotate_left
 . intro w hSw
   try dsimp only at hSw
   go_simp
   all_goals with_reducible rfl
 try simp only[Act.put,sx]
 refine wpAnyH_done (by kernel_rfl) ?_ _
 skip
 obtain⟨L2,hL2⟩:∃ L2,0+k1+(N-k)=L2:=⟨_,rfl⟩;rw[hL2] at E0;have hL2b:L2<=9:=by omega
 obtain⟨A7,c7,e8,J2,_⟩:=Ents.of_own E0;subst e8;replace J2:=hid (show Ents wn A7 L2 (xs.take k1++xs.drop k) from(by simpa using J2));replace Y:=hid (Y.out.step Hb.out);replace H:=hid (Aa H.out Hb.out);replace J1:=hid (J1.out.step Hb.out);replace hL2:=hid hL2;clear Hb I66 I73 E0 hz hU hHeld;generalize (if cc=k then (some ⟨gb,go,none⟩:Option Addr) else some ⟨gb,go+k*2,none⟩)=q7310 at *;go_wp2_with fail;refine(E2 A8 L1 c8 _ true less.out _ J1.out (by omega)).mono ?_;rintro e w7 ⟨rfl,B⟩;replace J2:=hid (J2.out.step B);replace H:=hid (Aa H.out B);clear B;go_wp2_with fail
 refine(E2 A7 L2 c7 _ false twice.out _ J2.out (by omega)).mono ?_;rintro e w8 ⟨rfl,B⟩;replace H:=hid (Aa H.out B);clear B;go_wp2;go_ret;exact⟨rfl,H.out⟩
end Go.Proofs.Ytgghhedkephohaa
