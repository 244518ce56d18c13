import Derived.Test.YtgghhedkephohaaZLawBdC
set_option linter.all false
set_option maxRecDepth 100000
set_option maxHeartbeats 8000000
open Go.Lib
namespace Go.Proofs.Ytgghhedkephohaa
open Go.RowKit
open M
theorem M.ecnt_wo_next{xs:List En}{k:Nat}{pl s:Int}(h:k<xs.length):Ax (As (xs.take (k+1)) pl) s=if (xs.getD k ez).p≠pl/\(xs.getD k ez).s<=s then Ax (As (xs.take k) pl) s+1 else Ax (As (xs.take k) pl) s:=by
 rw[wo_next h];by_cases e:(xs.getD k ez).p=pl
 . rw[if_pos e,if_neg (fun c=>c.1 e)]
 . rw[if_neg e,Ax,List.filter_append,List.length_append];by_cases e2:(xs.getD k ez).s<=s
   . rw[if_pos ⟨e,e2⟩,List.filter_cons_of_pos (by simpa using e2)]; simp[Ax]
   . rw[if_neg (fun c=>e2 c.2),List.filter_cons_of_neg (by simpa using e2)]; simp[Ax]
theorem M.ecnt_wo_le(xs:List En)(pl s:Int):Ax (As xs pl) s<=xs.length:=Nat.le_trans (List.length_filter_le _ _) (List.length_filter_le _ _)
theorem BS(a:Option Addr)(len cap:Nat)(zs:List Int)(w:World)(h:IsRow .u8 w a len cap zs) :
 Calls Try.prog 5 #[.slice a len cap] w fun e w'=>e=.returned (.bool true)/\Below w.heap.size w w':=by
 have hm:=h.bytes.1;have hm2:=h.bytes.2.1;unfold maxLen at hm2;by_cases g:1048576<len
 . have g1:(1048576:Int)<(len:Int):=by omega
   go_enter Try.func5,Try.ntmps5;go_wp2;go_ret;exact⟨rfl,Below.refl _ _⟩
 have g1:(len:Int)<=1048576:=by omega
 clear g hm hm2;go_enter Try.func5,Try.ntmps5;go_wp2_with fail;refine(Bu a len cap zs w h).mono ?_;rintro e w1 ⟨D,N,cc,xs,p,s,rfl,⟨hN,hNc⟩,hb,Y,B⟩;have DV:=hid (CellsAt.new w1 w1.heap.size [.int .i64 p,.int .i64 s] 25 rfl);have d0:=DV.out.cell 0 _ rfl;have d1:=DV.out.cell 1 _ rfl;have H:=hid (Ad B (.cells #[.int .i64 p,.int .i64 s] 25));clear B h;have hxl:=hid Y.1;replace Y:=hid (Y.alloc (.cells #[.int .i64 p,.int .i64 s] 25));obtain⟨ys,cd,hq⟩:∃ ys cd,Am xs ⟨p,s⟩=(ys,cd):=⟨_,_,rfl⟩;obtain⟨L,hL⟩:∃ L,ys.length=L:=⟨_,rfl⟩;have hL5:L<=5:=by have:=badd_max hq; rw[hL,hxl.out] at this; omega
 by_cases hcd:cd=3
 . have hcb:(cd==3)=true:=by simp[hcd]
   replace hq:=hid hq;replace hL:=hid hL;subst hcd;go_wp2_with fail;refine(An D N cc xs p s ys 3 L hq.out hL.out _ Y.out (by omega)).mono ?_;rintro e w2 ⟨A1,c1,rfl,I1,M1,hc1,B⟩;replace Y:=hid (Y.out.step B);replace DV:=hid (DV.out.step B);replace I1:=hid I1;replace d0:=DV.out.cell 0 _ rfl;replace d1:=DV.out.cell 1 _ rfl;replace H:=hid (Aa H.out B);clear B;go_wp2_with fail;refine(AB D N cc xs p s ys 3 L hq.out hL.out _ Y.out (by omega)).mono ?_;rintro e w3 ⟨A2,c2,rfl,I2,M2,hc2,B⟩;replace Y:=hid (Y.out.step B);replace DV:=hid (DV.out.step B);replace I1:=hid (I1.out.step B);replace I2:=hid I2;replace d0:=DV.out.cell 0 _ rfl
   replace d1:=DV.out.cell 1 _ rfl;replace H:=hid (Aa H.out B);clear B;go_wp2_with fail;refine(Ab A1 A2 L c1 c2 ys _ I1.out I2.out (by omega)).mono ?_;rintro e w4 ⟨rfl,B⟩;replace Y:=hid (Y.out.step B);replace DV:=hid (DV.out.step B);replace I1:=hid (I1.out.step B);replace I2:=hid (I2.out.step B);replace d0:=DV.out.cell 0 _ rfl;replace d1:=DV.out.cell 1 _ rfl;replace H:=hid (Aa H.out B);clear B;go_wp2_with fail;refine(Ab A1 A2 L c1 c2 ys _ I1.out I2.out (by omega)).mono ?_;rintro e w5 ⟨rfl,B⟩;replace Y:=hid (Y.out.step B);replace DV:=hid (DV.out.step B);replace I1:=hid (I1.out.step B);replace I2:=hid (I2.out.step B)
   replace d0:=DV.out.cell 0 _ rfl;replace d1:=DV.out.cell 1 _ rfl;replace H:=hid (Aa H.out B);clear B;go_wp2;go_ret;exact⟨rfl,H.out⟩
 have hc3:(cd==3)=false:=beq_eq_false_iff_ne.2 hcd;obtain⟨hbp,hok,hcode⟩:=DW (xs:=xs) (e:=⟨p,s⟩) (by rw[hq]; exact hcd);rw[hq] at hcode;obtain⟨z,hz⟩:∃ z,A7 xs p=z:=⟨_,rfl⟩;dsimp only at hcode;rw[hz] at hcode;replace hq:=hid hq;replace hL:=hid hL;replace hz:=hid hz;replace hcode:=hid hcode;replace hcd:=hid hcd;clear hok hbp;go_wp2_with fail;refine(An D N cc xs p s ys cd L hq.out hL.out _ Y.out (by omega)).mono ?_;rintro e w2 ⟨A1,c1,rfl,I1,M1,hc1,B⟩;replace Y:=hid (Y.out.step B);replace DV:=hid (DV.out.step B);replace I1:=hid I1;replace d0:=DV.out.cell 0 _ rfl;replace d1:=DV.out.cell 1 _ rfl
 replace H:=hid (Aa H.out B);clear B;go_wp2_with fail;refine(AB D N cc xs p s ys cd L hq.out hL.out _ Y.out (by omega)).mono ?_;rintro e w3 ⟨A2,c2,rfl,I2,M2,hc2,B⟩;replace Y:=hid (Y.out.step B);replace DV:=hid (DV.out.step B);replace I1:=hid (I1.out.step B);replace I2:=hid I2;replace d0:=DV.out.cell 0 _ rfl;replace d1:=DV.out.cell 1 _ rfl;replace H:=hid (Aa H.out B);clear B;go_wp2_with fail;refine(Ab A1 A2 L c1 c2 ys _ I1.out I2.out (by omega)).mono ?_;rintro e w4 ⟨rfl,B⟩;replace Y:=hid (Y.out.step B);replace DV:=hid (DV.out.step B);replace I1:=hid (I1.out.step B);replace I2:=hid (I2.out.step B);replace d0:=DV.out.cell 0 _ rfl
 replace d1:=DV.out.cell 1 _ rfl;replace H:=hid (Aa H.out B);clear B;go_wp2_with fail;refine(AV D N cc xs p z hz.out _ Y.out (by omega)).mono ?_;rintro e w5 ⟨rfl,B⟩;replace Y:=hid (Y.out.step B);replace DV:=hid (DV.out.step B);replace I1:=hid (I1.out.step B);replace I2:=hid (I2.out.step B);replace d0:=DV.out.cell 0 _ rfl;replace d1:=DV.out.cell 1 _ rfl;replace H:=hid (Aa H.out B);clear B;go_wp2
 go_loopw [10,11] (fun c i W=>∃ k m:Nat,k<=N/\i=.int .i64 k/\c=.int .i64 (Ax (As (xs.take k) p) s)/\w5.drewN m=W) (fun _ i _=>N-(RowKit.intOf i).toNat)
 case atStart=>exact⟨0,0,Nat.zero_le _,rfl,rfl,rfl⟩
 case round =>
  obtain⟨k,m,hk,rfl,rfl,hW⟩:=hrel;have Bq:Below w5.heap.size w5 wr:=hW▸Ai (Ac w5) m;have Y9:=Y.out.step Bq;have DV9:=DV.out.step Bq;have I19:=hid (I1.out.step Bq);have H1:=hid (Aa H.out Bq);replace hW:=hid hW;replace d0:=DV9.cell 0 _ rfl;replace d1:=DV9.cell 1 _ rfl;have hcl:=Nat.le_trans (ecnt_wo_le (xs.take k) p s) (List.length_take_le k xs);clear Bq;by_cases hlt:k<N
  . have g0:decide ((k:Int)<(N:Int))=true:=decide_eq_true (by omega);have g1:decide (k<N)=true:=decide_eq_true hlt;obtain⟨b,off,rfl,_,hc⟩:=Y9.2 (by omega);have a0:=(hc k hlt).c0;have a1:=(hc k hlt).c1;have en:=ecnt_wo_next (k:=k) (pl:=p) (s:=s) (show k<xs.length by rw[hxl.out]; exact hlt);generalize (xs.getD k ez).s=zk at *;generalize (xs.getD k ez).p=pk at *;generalize Ax (As (xs.take k) p) s=C at *;have q1:IntKind.i64.wrap ((C:Int)+1)=(C:Int)+1:=IntWalk.i64_in _ (by omega);replace DV9:=hid DV9;clear hc;by_cases hp:pk=p
    . rw[if_neg (fun c=>c.1 hp)] at en;have e1:(pk != p)=false:=by simp[hp]
      replace en:=hid en;replace hp:=hid hp;go_wp2_with fail
      go_quiet (fail)
      go_wp2
      go_roundw
      case rel=>exact⟨k+1,m+_,by omega,by go_num,by rw[en.out],by rw[<- hW.out]; exact Ao w5 m _⟩
      case measure=>simp[RowKit.intOf]; omega
    have e1:(pk != p)=true:=bne_iff_ne.2 hp;by_cases hs:zk<=s
    . rw[if_pos ⟨hp,hs⟩] at en;have e2:decide (zk<=s)=true:=decide_eq_true hs;replace en:=hid en;replace hp:=hid hp;replace hs:=hid hs;go_wp2_with fail
      go_quiet (fail)
      go_wp2
      go_roundw
      case rel=>exact⟨k+1,m+_,by omega,by go_num,by rw[en.out]; go_num,by rw[<- hW.out]; exact Ao w5 m _⟩
      case measure=>simp[RowKit.intOf]; omega
    . rw[if_neg (fun c=>hs c.2)] at en;have e2:decide (zk<=s)=false:=decide_eq_false hs;replace en:=hid en;replace hp:=hid hp;replace hs:=hid hs;go_wp2_with fail
      go_quiet (fail)
      go_wp2
      go_roundw
      case rel=>exact⟨k+1,m+_,by omega,by go_num,by rw[en.out],by rw[<- hW.out]; exact Ao w5 m _⟩
      case measure=>simp[RowKit.intOf]; omega
  . obtain rfl:k=N:=by omega
    have g0:decide ((k:Int)<(k:Int))=false:=decide_eq_false (by omega);have et:xs.take k=xs:=List.take_of_length_le (by have:=hxl.out; omega);have hcode:=hcode.out;rw[et];obtain⟨C,hC⟩:∃ C,Ax (As xs p) s=C:=⟨_,rfl⟩;rw[hC];rw[hC] at hcode;replace hC:=hid hC;have Y8:=hid Y9;have DV8:=hid DV9;clear Y9 DV9 et;by_cases h0:0<=z/\z<=s
    . rw[if_pos h0] at hcode;obtain⟨e1,rfl⟩:=Prod.mk.inj hcode;have f1:decide (0<=z)=true:=decide_eq_true h0.1;have f2:decide (z<=s)=true:=decide_eq_true h0.2;have hLN:L=k:=by rw[<- hL.out,e1,hxl.out]
      have I18:=hid (show Ents wr A1 k xs from by have:=I19.out; rw[e1,hLN] at this; exact this);replace h0:=hid h0;replace e1:=hid e1;replace hLN:=hid hLN;rw[hLN.out] at *;clear hcode;go_wp2_with fail;refine(Ab A1 D k c1 cc xs _ I18.out Y8.out (by omega)).mono ?_;rintro e w9 ⟨rfl,B⟩;replace H1:=hid (Aa H1.out B);clear B;go_wp2;go_ret;exact⟨rfl,H1.out⟩
    rw[if_neg h0] at hcode;by_cases h4:4<=C
    . rw[if_pos h4] at hcode;obtain⟨e1,rfl⟩:=Prod.mk.inj hcode;have f4:decide ((4:Int)<=(C:Int))=true:=decide_eq_true (by omega);have f5:decide (4<=C)=true:=decide_eq_true h4;have hLN:L=k:=by rw[<- hL.out,e1,hxl.out]
      have I18:=hid (show Ents wr A1 k xs from by have:=I19.out; rw[e1,hLN] at this; exact this);replace e1:=hid e1;replace hLN:=hid hLN;rw[hLN.out] at *;clear hcode;by_cases h1:0<=z
      . have f1:decide (0<=z)=true:=decide_eq_true h1;have f2:decide (z<=s)=false:=decide_eq_false (fun c=>h0 ⟨h1,c⟩);replace h0:=hid h0;go_wp2_with fail;refine(Ab A1 D k c1 cc xs _ I18.out Y8.out (by omega)).mono ?_;rintro e w9 ⟨rfl,B⟩;replace H1:=hid (Aa H1.out B);clear B;go_wp2;go_ret;exact⟨rfl,H1.out⟩
      . have f1:decide (0<=z)=false:=decide_eq_false h1;replace h0:=hid h0;go_wp2_with fail;refine(Ab A1 D k c1 cc xs _ I18.out Y8.out (by omega)).mono ?_;rintro e w9 ⟨rfl,B⟩;replace H1:=hid (Aa H1.out B);clear B;go_wp2;go_ret;exact⟨rfl,H1.out⟩
    rw[if_neg h4] at hcode;obtain⟨e1,rfl⟩:=Prod.mk.inj hcode;have f4:decide ((4:Int)<=(C:Int))=false:=decide_eq_false (by omega);have f5:decide (4<=C)=false:=decide_eq_false h4;replace e1:=hid e1;clear hcode;by_cases h1:0<=z
    . have f1:decide (0<=z)=true:=decide_eq_true h1;have f2:decide (z<=s)=false:=decide_eq_false (fun c=>h0 ⟨h1,c⟩);replace h0:=hid h0;go_wp2;go_ret;exact⟨rfl,H1.out⟩
    . have f1:decide (0<=z)=false:=decide_eq_false h1;replace h0:=hid h0;go_wp2;go_ret;exact⟨rfl,H1.out⟩
theorem B7(a:Option Addr)(len cap:Nat)(zs:List Int)(w:World)(h:IsRow .u8 w a len cap zs) :
 Calls Try.prog 6 #[.slice a len cap] w fun e w'=>e=.returned (.bool true)/\Below w.heap.size w w':=by
 have hm:=h.bytes.1;have hm2:=h.bytes.2.1;unfold maxLen at hm2;by_cases g:1048576<len
 . have g1:(1048576:Int)<(len:Int):=by omega
   go_enter Try.func6,Try.ntmps6;go_wp2;go_ret;exact⟨rfl,Below.refl _ _⟩
 have g1:(len:Int)<=1048576:=by omega
 clear g hm hm2;go_enter Try.func6,Try.ntmps6;go_wp2_with fail;refine(Bu a len cap zs w h).mono ?_;rintro e w1 ⟨D,N,cc,xs,p,s,rfl,⟨hN,hNc⟩,hb,Y,B⟩;have DV:=hid (CellsAt.new w1 w1.heap.size [.int .i64 p,.int .i64 s] 25 rfl);have d0:=DV.out.cell 0 _ rfl;have d1:=DV.out.cell 1 _ rfl;have H:=hid (Ad B (.cells #[.int .i64 p,.int .i64 s] 25));clear B h;have hxl:=hid Y.1;replace Y:=hid (Y.alloc (.cells #[.int .i64 p,.int .i64 s] 25));obtain⟨ys,cd,hq⟩:∃ ys cd,Am xs ⟨p,s⟩=(ys,cd):=⟨_,_,rfl⟩;obtain⟨L,hL⟩:∃ L,ys.length=L:=⟨_,rfl⟩;have hL5:L<=5:=by have:=badd_max hq; rw[hL,hxl.out] at this; omega
 by_cases hcd:cd=0
 rotate_left
 . have hcb:(cd==0)=false:=beq_eq_false_iff_ne.2 hcd;have hcn:(cd != 0)=true:=bne_iff_ne.2 hcd;replace hq:=hid hq;replace hL:=hid hL;replace hcd:=hid hcd;go_wp2_with fail;refine(An D N cc xs p s ys cd L hq.out hL.out _ Y.out (by omega)).mono ?_;rintro e w2 ⟨A1,c1,rfl,I1,M1,hc1,B⟩;replace Y:=hid (Y.out.step B);replace DV:=hid (DV.out.step B);replace I1:=hid I1;replace d0:=DV.out.cell 0 _ rfl;replace d1:=DV.out.cell 1 _ rfl;replace H:=hid (Aa H.out B);clear B;go_wp2_with fail;refine(AB D N cc xs p s ys cd L hq.out hL.out _ Y.out (by omega)).mono ?_;rintro e w3 ⟨A2,c2,rfl,I2,M2,hc2,B⟩;replace Y:=hid (Y.out.step B)
   replace DV:=hid (DV.out.step B);replace I1:=hid (I1.out.step B);replace I2:=hid I2;replace d0:=DV.out.cell 0 _ rfl;replace d1:=DV.out.cell 1 _ rfl;replace H:=hid (Aa H.out B);clear B;go_wp2_with fail;refine(Ab A1 A2 L c1 c2 ys _ I1.out I2.out (by omega)).mono ?_;rintro e w4 ⟨rfl,B⟩;replace Y:=hid (Y.out.step B);replace DV:=hid (DV.out.step B);replace I1:=hid (I1.out.step B);replace I2:=hid (I2.out.step B);replace d0:=DV.out.cell 0 _ rfl;replace d1:=DV.out.cell 1 _ rfl;replace H:=hid (Aa H.out B);clear B;go_wp2_with fail;refine(Ab A1 A2 L c1 c2 ys _ I1.out I2.out (by omega)).mono ?_;rintro e w5 ⟨rfl,B⟩
   replace Y:=hid (Y.out.step B);replace DV:=hid (DV.out.step B);replace I1:=hid (I1.out.step B);replace I2:=hid (I2.out.step B);replace d0:=DV.out.cell 0 _ rfl;replace d1:=DV.out.cell 1 _ rfl;replace H:=hid (Aa H.out B);clear B;go_wp2;go_ret;exact⟨rfl,H.out⟩
 subst hcd;have hP:=BU hq;have hok:=hP.ok;simp only[AR,Bool.and_eq_true,decide_eq_true_eq] at hok;obtain⟨rs,hrs⟩:∃ rs,As xs p=rs:=⟨_,rfl⟩;dsimp only at hP;rw[hrs] at hP;have hbest:=hid (fun(i:Nat) (hi:i<xs.length)=>hP.best hi);have hmore:=hP.more;have hLp:0<L:=by have:=hP.lt; rw[hL] at this; omega
 rw[hL,hxl.out] at hmore;rw[hxl.out] at hbest;replace hq:=hid hq;replace hL:=hid hL;clear hP hrs;go_wp2_with fail;refine(An D N cc xs p s ys 0 L hq.out hL.out _ Y.out (by omega)).mono ?_;rintro e w2 ⟨A1,c1,rfl,I1,M1,hc1,B⟩;replace Y:=hid (Y.out.step B);replace DV:=hid (DV.out.step B);replace I1:=hid I1;replace d0:=DV.out.cell 0 _ rfl;replace d1:=DV.out.cell 1 _ rfl;replace H:=hid (Aa H.out B);clear B;go_wp2_with fail;refine(AB D N cc xs p s ys 0 L hq.out hL.out _ Y.out (by omega)).mono ?_;rintro e w3 ⟨A2,c2,rfl,I2,M2,hc2,B⟩;replace Y:=hid (Y.out.step B);replace DV:=hid (DV.out.step B);replace I1:=hid (I1.out.step B)
 replace I2:=hid I2;replace d0:=DV.out.cell 0 _ rfl;replace d1:=DV.out.cell 1 _ rfl;replace H:=hid (Aa H.out B);clear B;go_wp2_with fail;refine(Ab A1 A2 L c1 c2 ys _ I1.out I2.out (by omega)).mono ?_;rintro e w4 ⟨rfl,B⟩;replace Y:=hid (Y.out.step B);replace DV:=hid (DV.out.step B);replace I1:=hid (I1.out.step B);replace I2:=hid (I2.out.step B);replace d0:=DV.out.cell 0 _ rfl;replace d1:=DV.out.cell 1 _ rfl;replace H:=hid (Aa H.out B);clear B;have q1:IntKind.i64.wrap ((L:Int)-1)=((L-1:Nat):Int):=by rw[IntWalk.i64_in _ (by omega)]; omega
 have q2:(L:Int)-1=((L-1:Nat):Int):=by omega
 have q3:IntKind.i64.wrap ((L-1:Nat):Int)=((L-1:Nat):Int):=IntWalk.i64_in _ (by omega);have q4:L-1<L:=by omega
 go_wp2
 go_loopw [9] (fun i W=>∃ k:Nat,k<=N/\i=.int .i64 k/\Below w4.heap.size w4 W) (fun i _=>N-(RowKit.intOf i).toNat)
 case atStart=>exact⟨0,Nat.zero_le _,rfl,Ac _⟩
 case round =>
  obtain⟨k,hk,rfl,Bq⟩:=hrel;have Y9:=hid (Y.out.step Bq);have I9:=hid (I1.out.step Bq);replace Bq:=hid Bq;by_cases hlt:k<N
  . have g0:decide ((k:Int)<(N:Int))=true:=decide_eq_true (by omega);have g1:decide (k<N)=true:=decide_eq_true hlt;obtain⟨b,off,rfl,_,hc⟩:=Y9.out.2 (by omega);have a0:=(hc k hlt).c0;obtain⟨o1,o2⟩:=hbest.out k hlt;obtain⟨z,hz⟩:∃ z,A7 ys (xs.getD k ez).p=z:=⟨_,rfl⟩;obtain⟨lz,hlz⟩:∃ lz,(ys.getD (L-1) ez).s=lz:=⟨_,rfl⟩;rw[hz] at o1 o2;rw[hL.out,hlz] at o2;have cx:=hid (show ∀ W:World,Ents W (some ⟨b,off,none⟩) N xs->W.cell? ⟨b,off+k*2+1,none⟩=some (.int .i64 (xs.getD k ez).s) from fun W Z=>by
     obtain⟨b',off',e,_,hc⟩:=Z.2 (by omega);cases e
     exact(hc k hlt).c1)
    have cy:=hid (show ∀ W:World,Ents W A1 L ys->∃ b off,A1=some ⟨b,off,none⟩/\W.cell? ⟨b,off+(L-1)*2+1,none⟩=some (.int .i64 lz) from fun W Z=>by
     obtain⟨b',off',e,_,hc⟩:=Z.2 (by omega);exact⟨b',off',e,hlz▸(hc (L-1) (by omega)).c1⟩)
    generalize (xs.getD k ez).s=zk at *;generalize (xs.getD k ez).p=pk at *;replace hz:=hid hz;replace hlz:=hid hlz;clear hc;have gs:decide (zk<z)=false:=decide_eq_false (by omega);go_wp2_with fail;refine(AV A1 L c1 ys pk z hz.out _ I9.out (by omega)).mono ?_;rintro e w9 ⟨rfl,B9⟩;replace Y9:=hid (Y9.out.step B9);replace I9:=hid (I9.out.step B9);replace Bq:=hid (Aa Bq.out B9);have a1:=cx.out _ Y9.out;clear B9 a0;by_cases hz0:z<0
    . have g2:decide (z<0)=true:=decide_eq_true hz0;have g3:decide (zk<lz)=false:=decide_eq_false (by have:=o2 hz0; omega);obtain⟨b1,off1,hA1,y1⟩:=cy.out _ I9.out;have hA:=hA1;subst hA;clear o1 o2;go_wp2_with fail
      go_quiet (fail)
      go_wp2
      go_roundw
      case rel=>exact⟨k+1,by omega,by go_num,Ai Bq.out _⟩
      case measure=>simp[RowKit.intOf]; omega
    . have g2:decide (z<0)=false:=decide_eq_false hz0;clear o1 o2;go_wp2_with fail
      go_quiet (fail)
      go_wp2
      go_roundw
      case rel=>exact⟨k+1,by omega,by go_num,Ai Bq.out _⟩
      case measure=>simp[RowKit.intOf]; omega
  . obtain rfl:k=N:=by omega
    have g0:decide ((k:Int)<(k:Int))=false:=decide_eq_false (by omega);have g5:decide ((k:Int)<=(L:Int))=true:=decide_eq_true (by omega);have g6:decide (k<=L)=true:=decide_eq_true hmore;have H9:=hid (Aa H.out Bq.out);go_wp2;go_ret;exact⟨rfl,H9.out⟩
end Go.Proofs.Ytgghhedkephohaa
