import Derived.Test.YtgghhedkephohaaZLawBdF
import Derived.Test.YtgghhedkephohaaZLawBdC
set_option linter.all false
set_option maxRecDepth 100000
set_option maxHeartbeats 8000000
open Go.Lib
namespace Go.Proofs.Ytgghhedkephohaa
open Go.RowKit
open M
theorem FR(a:Option Addr)(len cap:Nat)(zs:List Int)(w:World)(h:IsRow .u8 w a len cap zs) :
 Calls Try.prog 3 #[.slice a len cap] w fun e w'=>e=.returned (.bool true)/\Below w.heap.size w w':=by
 have hm:=h.bytes.1;have hm2:=h.bytes.2.1;unfold maxLen at hm2;by_cases g:1048576<len
 . have g1:(1048576:Int)<(len:Int):=by omega
   go_enter Try.func3,Try.ntmps3;go_wp2;go_ret;exact⟨rfl,Below.refl _ _⟩
 have g1:(len:Int)<=1048576:=by omega
 clear g hm hm2;go_enter Try.func3,Try.ntmps3;go_wp2_with fail;refine(Bu a len cap zs w h).mono ?_;rintro e w1 ⟨D,N,cc,xs,p,s,rfl,⟨hN,hNc⟩,hb,Y,B⟩;have DV:=hid (CellsAt.new w1 w1.heap.size [.int .i64 p,.int .i64 s] 25 rfl);have d0:=DV.out.cell 0 _ rfl;have d1:=DV.out.cell 1 _ rfl;have H:=hid (Ad B (.cells #[.int .i64 p,.int .i64 s] 25));clear B h;have hxl:=hid Y.1;replace Y:=hid (Y.alloc (.cells #[.int .i64 p,.int .i64 s] 25));obtain⟨ys,cd,hq⟩:∃ ys cd,Am xs ⟨p,s⟩=(ys,cd):=⟨_,_,rfl⟩;obtain⟨L,hL⟩:∃ L,ys.length=L:=⟨_,rfl⟩;have hL5:L<=5:=by have:=badd_max hq; rw[hL,hxl.out] at this; omega
 by_cases hcd:cd=0
 rotate_left
 . have hcb:(cd==0)=false:=beq_eq_false_iff_ne.2 hcd;have hcn:(cd != 0)=true:=bne_iff_ne.2 hcd;replace hq:=hid hq;replace hL:=hid hL;replace hcd:=hid hcd;go_wp2_with fail;refine(An D N cc xs p s ys cd L hq.out hL.out _ Y.out (by omega)).mono ?_;rintro e w2 ⟨A1,c1,rfl,I1,M1,hc1,B⟩;replace Y:=hid (Y.out.step B);replace DV:=hid (DV.out.step B);replace I1:=hid I1;replace d0:=DV.out.cell 0 _ rfl;replace d1:=DV.out.cell 1 _ rfl;replace H:=hid (Aa H.out B);clear B;go_wp2_with fail;refine(AB D N cc xs p s ys cd L hq.out hL.out _ Y.out (by omega)).mono ?_;rintro e w3 ⟨A2,c2,rfl,I2,M2,hc2,B⟩;replace Y:=hid (Y.out.step B)
   replace DV:=hid (DV.out.step B);replace I1:=hid (I1.out.step B);replace I2:=hid I2;replace d0:=DV.out.cell 0 _ rfl;replace d1:=DV.out.cell 1 _ rfl;replace H:=hid (Aa H.out B);clear B;go_wp2_with fail;refine(Ab A1 A2 L c1 c2 ys _ I1.out I2.out (by omega)).mono ?_;rintro e w4 ⟨rfl,B⟩;replace Y:=hid (Y.out.step B);replace DV:=hid (DV.out.step B);replace I1:=hid (I1.out.step B);replace I2:=hid (I2.out.step B);replace d0:=DV.out.cell 0 _ rfl;replace d1:=DV.out.cell 1 _ rfl;replace H:=hid (Aa H.out B);clear B;go_wp2_with fail;refine(Ab A1 A2 L c1 c2 ys _ I1.out I2.out (by omega)).mono ?_;rintro e w5 ⟨rfl,B⟩
   replace Y:=hid (Y.out.step B);replace DV:=hid (DV.out.step B);replace I1:=hid (I1.out.step B);replace I2:=hid (I2.out.step B);replace d0:=DV.out.cell 0 _ rfl;replace d1:=DV.out.cell 1 _ rfl;replace H:=hid (Aa H.out B);clear B;go_wp2;go_ret;exact⟨rfl,H.out⟩
 subst hcd;have hP:=BU hq;have hok:=hP.ok;simp only[AR,Bool.and_eq_true,decide_eq_true_eq] at hok;obtain⟨rs,hrs⟩:∃ rs,As xs p=rs:=⟨_,rfl⟩;dsimp only at hP;rw[hrs] at hP;have hmine:=hP.mine;dsimp only at hmine;have hrl:=hP.bpr.len;have hvy:=hP.bdv;have hsc:=hP.score;dsimp only at hsc;obtain⟨n1,hn1⟩:∃ n1,rs.length=n1:=⟨_,rfl⟩;obtain⟨n2,hn2⟩:∃ n2,(rs.take 3).length=n2:=⟨_,rfl⟩;have hn12:n2<=n1/\n1-1<=n2/\n1<=4/\n2<=3:=by rw[List.length_take,hn1] at hn2; omega
 have ht2:rs.take n2=rs.take 3:=by
  rw[List.length_take,hn1] at hn2;rcases Nat.lt_or_ge n1 3 with h | h
  . rw[List.take_of_length_le (by omega),List.take_of_length_le (by omega)]
  . rw[show n2=3 by omega]
 replace hq:=hid hq;replace hL:=hid hL;replace hrs:=hid hrs;replace hmine:=hid hmine;replace hvy:=hid hvy;replace hsc:=hid hsc;replace hn1:=hid hn1;replace hn2:=hid hn2;replace ht2:=hid ht2;clear hP hrl;go_wp2_with fail;refine(An D N cc xs p s ys 0 L hq.out hL.out _ Y.out (by omega)).mono ?_;rintro e w2 ⟨A1,c1,rfl,I1,M1,hc1,B⟩;replace Y:=hid (Y.out.step B);replace DV:=hid (DV.out.step B);replace I1:=hid I1;replace d0:=DV.out.cell 0 _ rfl;replace d1:=DV.out.cell 1 _ rfl;replace H:=hid (Aa H.out B);clear B;go_wp2_with fail;refine(AB D N cc xs p s ys 0 L hq.out hL.out _ Y.out (by omega)).mono ?_;rintro e w3 ⟨A2,c2,rfl,I2,M2,hc2,B⟩
 replace Y:=hid (Y.out.step B);replace DV:=hid (DV.out.step B);replace I1:=hid (I1.out.step B);replace I2:=hid I2;replace d0:=DV.out.cell 0 _ rfl;replace d1:=DV.out.cell 1 _ rfl;replace H:=hid (Aa H.out B);clear B;go_wp2_with fail;refine(Ab A1 A2 L c1 c2 ys _ I1.out I2.out (by omega)).mono ?_;rintro e w4 ⟨rfl,B⟩;replace Y:=hid (Y.out.step B);replace DV:=hid (DV.out.step B);replace I1:=hid (I1.out.step B);replace I2:=hid (I2.out.step B);replace d0:=DV.out.cell 0 _ rfl;replace d1:=DV.out.cell 1 _ rfl;replace H:=hid (Aa H.out B);clear B;go_wp2
 go_loopw [9,10] (fun ov iv W=>∃ k:Nat,k<=N/\iv=.int .i64 k/\W.ownsRow w4.heap.size 25 2 ov (As (xs.take k) p).length (AM (As (xs.take k) p))/\Below w4.heap.size w4 W) (fun _ i _=>N-(RowKit.intOf i).toNat)
 case atStart=>exact⟨0,Nat.zero_le _,rfl,Ah w4 _ _ rfl (Nat.le_refl _),Ad (Ac w4) _⟩
 case round =>
  obtain⟨k,hk,rfl,O,Bq⟩:=hrel;have S9:=hid (Y.out.step Bq);have DV9:=hid (DV.out.step Bq);replace d0:=DV9.out.cell 0 _ rfl;replace d1:=DV9.out.cell 1 _ rfl;replace Bq:=hid Bq;by_cases hlt:k<N
  . have g0:decide ((k:Int)<(N:Int))=true:=decide_eq_true (by omega);have g1:decide (k<N)=true:=decide_eq_true hlt;obtain⟨b,off,eA,_,hc⟩:=S9.out.2 (by omega);subst eA;obtain⟨c0,c1⟩:=hc k hlt;have hkl:k<xs.length:=by have:=S9.out.1; omega
    have hwl:(As (xs.take k) p).length<=k:=Nat.le_trans (List.length_filter_le _ _) (List.length_take_le k _);have en:=wo_next hkl (pl:=p);clear hc;generalize xs.getD k ez=q at *;obtain⟨zp,zs⟩:=q;dsimp only at c0 c1 en;by_cases hpp:zp=p
    . rw[if_pos hpp] at en;rw[<- en] at O;replace en:=hid en;replace O:=hid O;have hpn:(zp != p)=false:=by simp[hpp]
      clear hpp;go_wp2_with fail
      go_quiet (fail)
      go_wp2
      go_roundw
      case rel=>exact⟨k+1,by omega,by go_num,Ak O.out (Ai (Ac _) _),Ai Bq.out _⟩
      case measure=>simp[RowKit.intOf]; omega
    . rw[if_neg hpp] at en;have hln:=hid (show(As (xs.take (k+1)) p).length=(As (xs.take k) p).length+1 by rw[en]; simp);replace en:=hid en;have hpn:(zp != p)=true:=bne_iff_ne.2 hpp;replace hpp:=hid hpp;obtain⟨A8,c8,e8,_,_⟩:=Ents.of_own O;subst e8;replace O:=hid O;go_wp2_with fail
      go_quiet (fail)
      go_wp2_with (at_builtin; refine Al _ rfl (.tmp 69) (.tmp 74) rfl w4.heap.size (.slice A8 _ c8) _ _ rfl ((Ak O.out (Ai (Ac _) _)).alloc _) _ 1 1 [⟨zp,zs⟩] rfl (Ents.one _ _ zp zs _ (by simp)) (by omega) (by have:=Bq.out.size; simp; omega) ?_);intro v' w9 O9 G9 _;rw[<- en.out] at O9;have B9:=hid ((Ad (Ai Bq.out _) _).grown G9 (by have:=Bq.out.size; simp; omega) (fun g e=>(O.out.lt g e).1));replace O9:=hid O9;clear G9 O Bq;go_wp2
      go_roundw
      case rel=>exact⟨k+1,by omega,by go_num,by rw[hln.out]; exact O9.out,B9.out⟩
      case measure=>simp[RowKit.intOf]; omega
  . obtain rfl:N=k:=by omega
    have g0:decide ((N:Int)<(N:Int))=false:=decide_eq_false (by omega);have et:xs.take N=xs:=List.take_of_length_le (by have:=S9.out.1; omega);rw[et] at O;replace et:=hid et;rw[hrs.out,hn1.out] at O;obtain⟨A8,c8,e8,I9,_⟩:=Ents.of_own O;subst e8;have hc8:n1<=c8:=Be O;replace I9:=hid I9;replace I1:=hid (I1.out.step Bq.out);replace DV:=DV9;replace H:=hid (Aa H.out Bq.out);clear O Bq S9 DV9 et hlt g0;generalize wr=wq at *;go_wp2
    go_loopw [11,12] (fun ov iv W=>∃ k:Nat,k<=L/\iv=.int .i64 k/\W.ownsRow wq.heap.size 25 2 ov (As (ys.take k) p).length (AM (As (ys.take k) p))/\Below wq.heap.size wq W) (fun _ i _=>L-(RowKit.intOf i).toNat)
    case atStart=>exact⟨0,Nat.zero_le _,rfl,Ah wq _ _ rfl (Nat.le_refl _),Ad (Ac wq) _⟩
    case round =>
     obtain⟨k,hk,rfl,O,Bq⟩:=hrel;have S9:=hid (I1.out.step Bq);have DV9:=hid (DV.out.step Bq);replace d0:=DV9.out.cell 0 _ rfl;replace d1:=DV9.out.cell 1 _ rfl;replace Bq:=hid Bq;by_cases hlt:k<L
     . have g0:decide ((k:Int)<(L:Int))=true:=decide_eq_true (by omega);have g1:decide (k<L)=true:=decide_eq_true hlt;obtain⟨b,off,eA,_,hc⟩:=S9.out.2 (by omega);subst eA;obtain⟨c0,c1⟩:=hc k hlt;have hkl:k<ys.length:=by have:=S9.out.1; omega
       have hwl:(As (ys.take k) p).length<=k:=Nat.le_trans (List.length_filter_le _ _) (List.length_take_le k _);have en:=wo_next hkl (pl:=p);clear hc;generalize ys.getD k ez=q at *;obtain⟨zp,zs⟩:=q;dsimp only at c0 c1 en;by_cases hpp:zp=p
       . rw[if_pos hpp] at en;rw[<- en] at O;replace en:=hid en;replace O:=hid O;have hpn:(zp != p)=false:=by simp[hpp]
         clear hpp;go_wp2_with fail
         go_quiet (fail)
         go_wp2
         go_roundw
         case rel=>exact⟨k+1,by omega,by go_num,Ak O.out (Ai (Ac _) _),Ai Bq.out _⟩
         case measure=>simp[RowKit.intOf]; omega
       . rw[if_neg hpp] at en;have hln:=hid (show(As (ys.take (k+1)) p).length=(As (ys.take k) p).length+1 by rw[en]; simp);replace en:=hid en;have hpn:(zp != p)=true:=bne_iff_ne.2 hpp;replace hpp:=hid hpp;obtain⟨A8,c8,e8,_,_⟩:=Ents.of_own O;subst e8;replace O:=hid O;go_wp2_with fail
         go_quiet (fail)
         go_wp2_with (at_builtin; refine Al _ rfl (.tmp 91) (.tmp 96) rfl wq.heap.size (.slice A8 _ c8) _ _ rfl ((Ak O.out (Ai (Ac _) _)).alloc _) _ 1 1 [⟨zp,zs⟩] rfl (Ents.one _ _ zp zs _ (by simp)) (by omega) (by have:=Bq.out.size; simp; omega) ?_);intro v' w9 O9 G9 _;rw[<- en.out] at O9;have B9:=hid ((Ad (Ai Bq.out _) _).grown G9 (by have:=Bq.out.size; simp; omega) (fun g e=>(O.out.lt g e).1));replace O9:=hid O9;clear G9 O Bq;go_wp2
         go_roundw
         case rel=>exact⟨k+1,by omega,by go_num,by rw[hln.out]; exact O9.out,B9.out⟩
         case measure=>simp[RowKit.intOf]; omega
     . obtain rfl:L=k:=by omega
       have g0:decide ((L:Int)<(L:Int))=false:=decide_eq_false (by omega);have et:ys.take L=ys:=List.take_of_length_le (by have:=S9.out.1; omega);rw[et] at O;replace et:=hid et;rw[hmine.out,hn2.out] at O;obtain⟨J8,jc8,e8,J9,_⟩:=Ents.of_own O;subst e8;replace J9:=hid J9;replace I1:=hid (I1.out.step Bq.out);replace I9:=hid (I9.out.step Bq.out);replace DV:=DV9;replace H:=hid (Aa H.out Bq.out);clear O Bq S9 DV9;have r1:decide ((n2:Int)<=(n1:Int))=true:=decide_eq_true (by omega);have r2:decide (n2<=n1)=true:=decide_eq_true (by omega);have r3:IntKind.i64.wrap ((n1:Int)-1)=(n1:Int)-1:=IntWalk.i64_in _ (by omega)
       have r4:decide ((n1:Int)-1<=(n2:Int))=true:=decide_eq_true (by omega);have r5:n2<=c8:=by omega
       have r6:(n2:Int)<=(c8:Int):=by omega
       have hpp:(s==s)=true:=by simp
       go_wp2_with fail;refine wp_region_held_drew (S:=fun w'=>w'.cell? ⟨w1.heap.size,0,none⟩=some (.int .i64 p)/\w'.cell? ⟨w1.heap.size,1,none⟩=some (.int .i64 s)) (by kernel_rfl) ⟨d0,d1⟩ (fun hHeld=>?_);replace I1:=hid I1.out.drew;replace I9:=hid I9.out.drew;replace J9:=hid J9.out.drew;replace DV:=hid DV.out.drew;replace H:=hid (Cv H.out);refine tl 0 ?_ ?_ hHeld ?_;rotate_left
       . intro w hSw
         try dsimp only at hSw
         go_simp
         all_goals with_reducible rfl
       try simp only[Act.put,sx]
       refine wpAnyH_ready (rs:=[1]) (by kernel_rfl) (by simp) ?_;apply AllReadyH.cons rfl ?_ AllReadyH.nil;intro K hK;go_simp
       go_at_call 23
       refine(E2 A1 L c1 ys true hvy.out _ I1.out (by omega)).mono ?_;rintro e wn ⟨rfl,Bn⟩;replace I1:=hid (I1.out.step Bn);replace I9:=hid (I9.out.step Bn);replace J9:=hid (J9.out.step Bn);replace DV:=hid (DV.out.step Bn);replace H:=hid (Aa H.out Bn);replace d0:=DV.out.cell 0 _ rfl;replace d1:=DV.out.cell 1 _ rfl;clear Bn;clear hHeld;go_wp2_with fail;refine hK.out _ _ ⟨d0,d1⟩ (fun hHeld=>?_);clear hK K
       try simp only[Act.put,sx]
       refine tl 2 ?_ ?_ hHeld ?_;rotate_left
       . intro w hSw
         try dsimp only at hSw
         go_simp
         all_goals with_reducible rfl
       try simp only[Act.put,sx]
       refine tl 3 ?_ ?_ hHeld ?_;rotate_left
       . intro w hSw
         try dsimp only at hSw
         go_simp
         all_goals with_reducible rfl
       try simp only[Act.put,sx]
       refine tl 4 ?_ ?_ hHeld ?_;rotate_left
       . intro w hSw
         try dsimp only at hSw
         go_simp
         all_goals with_reducible rfl
       try simp only[Act.put,sx]
       refine tl 5 ?_ ?_ hHeld ?_;rotate_left
       . intro w hSw;obtain⟨d0,d1⟩:=hSw;go_simp
         all_goals with_reducible rfl
       try simp only[Act.put,sx]
       refine tl 7 ?_ ?_ hHeld ?_;rotate_left
       . intro w hSw
         try dsimp only at hSw
         go_simp
         all_goals with_reducible rfl
       try simp only[Act.put,sx]
       refine tl 8 ?_ ?_ hHeld ?_;rotate_left
       . intro w hSw;obtain⟨d0,d1⟩:=hSw;go_simp
         all_goals with_reducible rfl
       try simp only[Act.put,sx]
       refine wpAnyH_ready (rs:=[6]) (by kernel_rfl) (by simp) ?_;apply AllReadyH.cons rfl ?_ AllReadyH.nil;intro K hK;go_simp
       go_at_call 24
       refine(AV A1 L c1 ys p s hsc.out _ I1.out (by omega)).mono ?_;rintro e wn ⟨rfl,Bn⟩;replace I1:=hid (I1.out.step Bn);replace I9:=hid (I9.out.step Bn);replace J9:=hid (J9.out.step Bn);replace DV:=hid (DV.out.step Bn);replace H:=hid (Aa H.out Bn);replace d0:=DV.out.cell 0 _ rfl;replace d1:=DV.out.cell 1 _ rfl;clear Bn;clear hHeld;go_wp2_with fail;refine hK.out _ _ ⟨d0,d1⟩ (fun hHeld=>?_);clear hK K
       try simp only[Act.put,sx]
       refine tl 9 ?_ ?_ hHeld ?_;rotate_left
       . intro w hSw
         try dsimp only at hSw
         go_simp
         all_goals with_reducible rfl
       try simp only[Act.put,sx]
       refine tl 10 ?_ ?_ hHeld ?_;rotate_left
       . intro w hSw
         try dsimp only at hSw
         go_simp
         all_goals with_reducible rfl
       try simp only[Act.put,sx]
       refine tl 11 ?_ ?_ hHeld ?_;rotate_left
       . intro w hSw
         try dsimp only at hSw
         go_simp
         all_goals with_reducible rfl
       try simp only[Act.put,sx]
       refine tl 12 ?_ ?_ hHeld ?_;rotate_left
       . intro w hSw
         try dsimp only at hSw
         go_simp
         all_goals with_reducible rfl
       try simp only[Act.put,sx]
       refine tl 13 ?_ ?_ hHeld ?_;rotate_left
       . intro w hSw
         try dsimp only at hSw
         go_simp
         all_goals with_reducible rfl
       try simp only[Act.put,sx]
       refine tl 14 ?_ ?_ hHeld ?_;rotate_left
       . intro w hSw
         try dsimp only at hSw
         go_simp
         all_goals with_reducible rfl
       try simp only[Act.put,sx]
       refine tl 15 ?_ ?_ hHeld ?_;rotate_left
       . intro w hSw
         try dsimp only at hSw
         go_simp
         all_goals with_reducible rfl
       try simp only[Act.put,sx]
       refine tl 16 ?_ ?_ hHeld ?_;rotate_left
       . intro w hSw
         try dsimp only at hSw
         go_simp
         all_goals with_reducible rfl
       try simp only[Act.put,sx]
       refine tl 17 ?_ ?_ hHeld ?_;rotate_left
       . intro w hSw
         try dsimp only at hSw
         go_simp
         all_goals with_reducible rfl
       try simp only[Act.put,sx]
       refine tl 18 ?_ ?_ hHeld ?_;rotate_left
       . intro w hSw
         try dsimp only at hSw
         go_simp
         all_goals with_reducible rfl
       try simp only[Act.put,sx]
       refine tl 19 ?_ ?_ hHeld ?_;rotate_left
       . intro w hSw
         try dsimp only at hSw
         go_simp
         all_goals with_reducible rfl
       try simp only[Act.put,sx]
       refine tl 20 ?_ ?_ hHeld ?_;rotate_left
       . intro w hSw
         try dsimp only at hSw
         go_simp
         all_goals with_reducible rfl
       try simp only[Act.put,sx]
       refine tl 21 ?_ ?_ hHeld ?_;rotate_left
       . intro w hSw
         try dsimp only at hSw
         go_simp
         all_goals with_reducible rfl
       try simp only[Act.put,sx]
       refine tl 22 ?_ ?_ hHeld ?_;rotate_left
       . intro w hSw
         try dsimp only at hSw
         go_simp
         all_goals with_reducible rfl
       try simp only[Act.put,sx]
       refine tl 23 ?_ ?_ hHeld ?_;rotate_left
       . intro w hSw
         try dsimp only at hSw
         go_simp
         all_goals with_reducible rfl
       try simp only[Act.put,sx]
       refine tl 24 ?_ ?_ hHeld ?_;rotate_left
       . intro w hSw
         try dsimp only at hSw
         go_simp
         all_goals with_reducible rfl
       try simp only[Act.put,sx]
       refine tl 25 ?_ ?_ hHeld ?_;rotate_left
       . intro w hSw
         try dsimp only at hSw
         go_simp
         all_goals with_reducible rfl
       try simp only[Act.put,sx]
       refine tl 26 ?_ ?_ hHeld ?_;rotate_left
       . intro w hSw
         try dsimp only at hSw
         go_simp
         all_goals with_reducible rfl
       try simp only[Act.put,sx]
       refine tl 27 ?_ ?_ hHeld ?_;rotate_left
       . intro w hSw
         try dsimp only at hSw
         go_simp
         all_goals with_reducible rfl
       try simp only[Act.put,sx]
       refine tl 28 ?_ ?_ hHeld ?_;rotate_left
       . intro w hSw
         try dsimp only at hSw
         go_simp
         all_goals with_reducible rfl
       try simp only[Act.put,sx]
       refine tl 29 ?_ ?_ hHeld ?_;rotate_left
       . intro w hSw
         try dsimp only at hSw
         go_simp
         all_goals with_reducible rfl
       try simp only[Act.put,sx]
       refine tl 30 ?_ ?_ hHeld ?_;rotate_left
       . intro w hSw
         try dsimp only at hSw
         go_simp
         all_goals with_reducible rfl
       try simp only[Act.put,sx]
       refine tl 31 ?_ ?_ hHeld ?_;rotate_left
       . intro w hSw
         try dsimp only at hSw
         go_simp
         all_goals with_reducible rfl
       try simp only[Act.put,sx]
       refine wpAnyH_ready (rs:=[32]) (by kernel_rfl) (by simp) ?_;apply AllReadyH.cons rfl ?_ AllReadyH.nil;intro K hK;go_simp
       go_at_call 22
       refine(Ab J8 A8 n2 jc8 c8 (rs.take 3) _ J9.out (by have:=I9.out.take (j:=n2) (by omega); rw[ht2.out] at this; exact this) (by omega)).mono ?_;rintro e wn ⟨rfl,Bn⟩;replace I1:=hid (I1.out.step Bn);replace I9:=hid (I9.out.step Bn);replace J9:=hid (J9.out.step Bn);replace DV:=hid (DV.out.step Bn);replace H:=hid (Aa H.out Bn);replace d0:=DV.out.cell 0 _ rfl;replace d1:=DV.out.cell 1 _ rfl;clear Bn;clear hHeld;go_wp2_with fail;refine hK.out _ _ ⟨d0,d1⟩ (fun hHeld=>?_);clear hK K
       try simp only[Act.put,sx]
       refine tl 33 ?_ ?_ hHeld ?_;rotate_left
       . intro w hSw
         try dsimp only at hSw
         go_simp
         all_goals with_reducible rfl
       try simp only[Act.put,sx]
       refine tl 34 ?_ ?_ hHeld ?_;rotate_left
       . intro w hSw
         try dsimp only at hSw
         go_simp
         all_goals with_reducible rfl
       try simp only[Act.put,sx]
       refine wpAnyH_done (by kernel_rfl) ?_ _;go_wp2;go_ret;exact⟨rfl,H.out⟩
end Go.Proofs.Ytgghhedkephohaa
