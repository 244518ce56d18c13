import Derived.Test.YtgghhedkephohaaZBdR
set_option linter.all false
set_option maxRecDepth 100000
set_option maxHeartbeats 8000000
open Go.Lib
namespace Go.Proofs.Ytgghhedkephohaa
open Go.RowKit
open M
theorem M.badd_max{xs:List En}{e:En}{ys:List En}{cd:Int}(h:Am xs e=(ys,cd)):ys.length<=max 4 xs.length:=by
 unfold Am at h;split at h
 . obtain⟨rfl,_⟩:=Prod.mk.inj h; simp
 . split at h
   . obtain⟨rfl,_⟩:=Prod.mk.inj h; omega
   . split at h
     . obtain⟨rfl,_⟩:=Prod.mk.inj h; omega
     . obtain⟨rfl,_⟩:=Prod.mk.inj h; rw[BF]; omega
theorem BQ(a:Option Addr)(len cap:Nat)(zs:List Int)(a2:Option Addr)(len2 cap2:Nat)(zs2:List Int)(w:World)(h:IsRow .u8 w a len cap zs)(h2:IsRow .u8 w a2 len2 cap2 zs2) :
 Calls Try.prog 4 #[.slice a len cap,.slice a2 len2 cap2] w fun e w'=>e=.returned (.bool true)/\Below w.heap.size w w':=by
 have hm:=h.bytes.1;have hm2:=h.bytes.2.1;unfold maxLen at hm2;have hn:=h2.bytes.1;have hn2:=h2.bytes.2.1;unfold maxLen at hn2;clear h2;by_cases g:1048576<len
 . have g1:(1048576:Int)<(len:Int):=by omega
   go_enter Try.func4,Try.ntmps4;go_wp2;go_ret;exact⟨rfl,Below.refl _ _⟩
 have g1:(len:Int)<=1048576:=by omega
 by_cases k:1048576<len2
 . have k1:(1048576:Int)<(len2:Int):=by omega
   go_enter Try.func4,Try.ntmps4;go_wp2;go_ret;exact⟨rfl,Below.refl _ _⟩
 have k1:(len2:Int)<=1048576:=by omega
 clear k hn hn2;clear g hm hm2;go_enter Try.func4,Try.ntmps4;go_wp2_with fail;refine(Bu a len cap zs w h).mono ?_;rintro e w1 ⟨D,N,cc,xs,p,s,rfl,⟨hN,hNc⟩,hb,Y,B⟩;have DV:=hid (CellsAt.new w1 w1.heap.size [.int .i64 p,.int .i64 s] 25 rfl);have d0:=DV.out.cell 0 _ rfl;have d1:=DV.out.cell 1 _ rfl;have H:=hid (Ad B (.cells #[.int .i64 p,.int .i64 s] 25));clear B h;have hxl:=hid Y.1;replace Y:=hid (Y.alloc (.cells #[.int .i64 p,.int .i64 s] 25));obtain⟨ys,cd,hq⟩:∃ ys cd,Am xs ⟨p,s⟩=(ys,cd):=⟨_,_,rfl⟩;obtain⟨L,hL⟩:∃ L,ys.length=L:=⟨_,rfl⟩;have hL5:L<=5:=by have:=badd_max hq; rw[hL,hxl.out] at this; omega
 by_cases hcd:cd=0
 rotate_left
 . have hcb:(cd==0)=false:=beq_eq_false_iff_ne.2 hcd;have hcn:(cd != 0)=true:=bne_iff_ne.2 hcd;replace hq:=hid hq;replace hL:=hid hL;replace hcd:=hid hcd;go_wp2_with fail;refine(An D N cc xs p s ys cd L hq.out hL.out _ Y.out (by omega)).mono ?_;rintro e w2 ⟨A1,c1,rfl,I1,M1,hc1,B⟩;replace Y:=hid (Y.out.step B);replace DV:=hid (DV.out.step B);replace I1:=hid I1;replace d0:=DV.out.cell 0 _ rfl;replace d1:=DV.out.cell 1 _ rfl;replace H:=hid (Aa H.out B);clear B;go_wp2_with fail;refine(AB D N cc xs p s ys cd L hq.out hL.out _ Y.out (by omega)).mono ?_;rintro e w3 ⟨A2,c2,rfl,I2,M2,hc2,B⟩;replace Y:=hid (Y.out.step B)
   replace DV:=hid (DV.out.step B);replace I1:=hid (I1.out.step B);replace I2:=hid I2;replace d0:=DV.out.cell 0 _ rfl;replace d1:=DV.out.cell 1 _ rfl;replace H:=hid (Aa H.out B);clear B;go_wp2_with fail;refine(Ab A1 A2 L c1 c2 ys _ I1.out I2.out (by omega)).mono ?_;rintro e w4 ⟨rfl,B⟩;replace Y:=hid (Y.out.step B);replace DV:=hid (DV.out.step B);replace I1:=hid (I1.out.step B);replace I2:=hid (I2.out.step B);replace d0:=DV.out.cell 0 _ rfl;replace d1:=DV.out.cell 1 _ rfl;replace H:=hid (Aa H.out B);clear B;go_wp2_with fail;refine(Ab A1 A2 L c1 c2 ys _ I1.out I2.out (by omega)).mono ?_;rintro e w5 ⟨rfl,B⟩
   replace Y:=hid (Y.out.step B);replace DV:=hid (DV.out.step B);replace I1:=hid (I1.out.step B);replace I2:=hid (I2.out.step B);replace d0:=DV.out.cell 0 _ rfl;replace d1:=DV.out.cell 1 _ rfl;replace H:=hid (Aa H.out B);clear B;go_wp2;go_ret;exact⟨rfl,H.out⟩
 subst hcd;have hP:=BU hq;have hok:=hP.ok;simp only[AR,Bool.and_eq_true,decide_eq_true_eq] at hok;obtain⟨rs,hrs⟩:∃ rs,As xs p=rs:=⟨_,rfl⟩;dsimp only at hP;rw[hrs] at hP;have t1:=hP.again (s:=s) (Int.le_refl _) (by omega);have hmn:=CQ;have m1:IntKind.i64.wrap (s+(len2:Int))=s+(len2:Int):=IntWalk.i64_in _ (by omega);obtain⟨s2,hs2⟩:∃ s2,min (s+(len2:Int)) 60=s2:=⟨_,rfl⟩;have t2:=hP.again (s:=s2) (by dsimp only; omega) (by omega);dsimp only at t1 t2;replace hq:=hid hq;replace hL:=hid hL;replace t1:=hid t1;replace t2:=hid t2;clear hP hrs;go_wp2_with fail
 refine(An D N cc xs p s ys 0 L hq.out hL.out _ Y.out (by omega)).mono ?_;rintro e w2 ⟨A1,c1,rfl,I1,M1,hc1,B⟩;replace Y:=hid (Y.out.step B);replace DV:=hid (DV.out.step B);replace I1:=hid I1;replace d0:=DV.out.cell 0 _ rfl;replace d1:=DV.out.cell 1 _ rfl;replace H:=hid (Aa H.out B);clear B;go_wp2_with fail;refine(AB D N cc xs p s ys 0 L hq.out hL.out _ Y.out (by omega)).mono ?_;rintro e w3 ⟨A2,c2,rfl,I2,M2,hc2,B⟩;replace Y:=hid (Y.out.step B);replace DV:=hid (DV.out.step B);replace I1:=hid (I1.out.step B);replace I2:=hid I2;replace d0:=DV.out.cell 0 _ rfl;replace d1:=DV.out.cell 1 _ rfl;replace H:=hid (Aa H.out B);clear B
 go_wp2_with fail;refine(Ab A1 A2 L c1 c2 ys _ I1.out I2.out (by omega)).mono ?_;rintro e w4 ⟨rfl,B⟩;replace Y:=hid (Y.out.step B);replace DV:=hid (DV.out.step B);replace I1:=hid (I1.out.step B);replace I2:=hid (I2.out.step B);replace d0:=DV.out.cell 0 _ rfl;replace d1:=DV.out.cell 1 _ rfl;replace H:=hid (Aa H.out B);clear B;go_wp2_with fail;refine(An A1 L c1 ys p s ys 1 L t1.out hL.out _ I1.out (by omega)).mono ?_;rintro e w5 ⟨A3,c3,rfl,I3,M3,hc3,B⟩;replace Y:=hid (Y.out.step B);replace DV:=hid (DV.out.step B);replace I1:=hid (I1.out.step B);replace I2:=hid (I2.out.step B);replace I3:=hid I3;replace d0:=DV.out.cell 0 _ rfl
 replace d1:=DV.out.cell 1 _ rfl;replace H:=hid (Aa H.out B);clear B;go_wp2_with fail;refine(An A1 L c1 ys p s2 ys 1 L t2.out hL.out _ I1.out (by omega)).mono ?_;rintro e w6 ⟨A4,c4,rfl,I4,M4,hc4,B⟩;replace Y:=hid (Y.out.step B);replace DV:=hid (DV.out.step B);replace I1:=hid (I1.out.step B);replace I2:=hid (I2.out.step B);replace I3:=hid (I3.out.step B);replace I4:=hid I4;replace d0:=DV.out.cell 0 _ rfl;replace d1:=DV.out.cell 1 _ rfl;replace H:=hid (Aa H.out B);clear B;go_wp2_with fail;refine(Ab A3 A1 L c3 c1 ys _ I3.out I1.out (by omega)).mono ?_;rintro e w7 ⟨rfl,B⟩;replace Y:=hid (Y.out.step B)
 replace DV:=hid (DV.out.step B);replace I1:=hid (I1.out.step B);replace I2:=hid (I2.out.step B);replace I3:=hid (I3.out.step B);replace I4:=hid (I4.out.step B);replace d0:=DV.out.cell 0 _ rfl;replace d1:=DV.out.cell 1 _ rfl;replace H:=hid (Aa H.out B);clear B;go_wp2_with fail;refine(Ab A4 A1 L c4 c1 ys _ I4.out I1.out (by omega)).mono ?_;rintro e w8 ⟨rfl,B⟩;replace Y:=hid (Y.out.step B);replace DV:=hid (DV.out.step B);replace I1:=hid (I1.out.step B);replace I2:=hid (I2.out.step B);replace I3:=hid (I3.out.step B);replace I4:=hid (I4.out.step B);replace d0:=DV.out.cell 0 _ rfl;replace d1:=DV.out.cell 1 _ rfl
 replace H:=hid (Aa H.out B);clear B;go_wp2;go_ret;exact⟨rfl,H.out⟩
theorem BR(a:Option Addr)(len cap:Nat)(zs:List Int)(w:World)(h:IsRow .u8 w a len cap zs) :
 Calls Try.prog 12 #[.slice a len cap] w fun e w'=>e=.returned (.bool true)/\Below w.heap.size w w':=by
 have hm:=h.bytes.1;have hm2:=h.bytes.2.1;unfold maxLen at hm2;by_cases g:1048576<len
 . have g1:(1048576:Int)<(len:Int):=by omega
   go_enter Try.func12,Try.ntmps12;go_wp2;go_ret;exact⟨rfl,Below.refl _ _⟩
 have g1:(len:Int)<=1048576:=by omega
 clear g hm hm2;go_enter Try.func12,Try.ntmps12;go_wp2_with fail;refine(Bu a len cap zs w h).mono ?_;rintro e w1 ⟨D,N,cc,xs,p,s,rfl,⟨hN,hNc⟩,hb,Y,B⟩;have DV:=hid (CellsAt.new w1 w1.heap.size [.int .i64 p,.int .i64 s] 25 rfl);have d0:=DV.out.cell 0 _ rfl;have d1:=DV.out.cell 1 _ rfl;have H:=hid (Ad B (.cells #[.int .i64 p,.int .i64 s] 25));clear B h;have hxl:=hid Y.1;replace Y:=hid (Y.alloc (.cells #[.int .i64 p,.int .i64 s] 25));obtain⟨ys,cd,hq⟩:∃ ys cd,Am xs ⟨p,s⟩=(ys,cd):=⟨_,_,rfl⟩;obtain⟨L,hL⟩:∃ L,ys.length=L:=⟨_,rfl⟩;have hL5:L<=5:=by have:=badd_max hq; rw[hL,hxl.out] at this; omega
 by_cases hcd:cd=0
 rotate_left
 . have hcb:(cd==0)=false:=beq_eq_false_iff_ne.2 hcd;have hcn:(cd != 0)=true:=bne_iff_ne.2 hcd;replace hq:=hid hq;replace hL:=hid hL;replace hcd:=hid hcd;go_wp2_with fail;refine(An D N cc xs p s ys cd L hq.out hL.out _ Y.out (by omega)).mono ?_;rintro e w2 ⟨A1,c1,rfl,I1,M1,hc1,B⟩;replace Y:=hid (Y.out.step B);replace DV:=hid (DV.out.step B);replace I1:=hid I1;replace d0:=DV.out.cell 0 _ rfl;replace d1:=DV.out.cell 1 _ rfl;replace H:=hid (Aa H.out B);clear B;go_wp2_with fail;refine(AB D N cc xs p s ys cd L hq.out hL.out _ Y.out (by omega)).mono ?_;rintro e w3 ⟨A2,c2,rfl,I2,M2,hc2,B⟩;replace Y:=hid (Y.out.step B)
   replace DV:=hid (DV.out.step B);replace I1:=hid (I1.out.step B);replace I2:=hid I2;replace d0:=DV.out.cell 0 _ rfl;replace d1:=DV.out.cell 1 _ rfl;replace H:=hid (Aa H.out B);clear B;go_wp2_with fail;refine(Ab A1 A2 L c1 c2 ys _ I1.out I2.out (by omega)).mono ?_;rintro e w4 ⟨rfl,B⟩;replace Y:=hid (Y.out.step B);replace DV:=hid (DV.out.step B);replace I1:=hid (I1.out.step B);replace I2:=hid (I2.out.step B);replace d0:=DV.out.cell 0 _ rfl;replace d1:=DV.out.cell 1 _ rfl;replace H:=hid (Aa H.out B);clear B;go_wp2_with fail;refine(Ab A1 A2 L c1 c2 ys _ I1.out I2.out (by omega)).mono ?_;rintro e w5 ⟨rfl,B⟩
   replace Y:=hid (Y.out.step B);replace DV:=hid (DV.out.step B);replace I1:=hid (I1.out.step B);replace I2:=hid (I2.out.step B);replace d0:=DV.out.cell 0 _ rfl;replace d1:=DV.out.cell 1 _ rfl;replace H:=hid (Aa H.out B);clear B;go_wp2;go_ret;exact⟨rfl,H.out⟩
 subst hcd;have hP:=BU hq;have hok:=hP.ok;simp only[AR,Bool.and_eq_true,decide_eq_true_eq] at hok;obtain⟨rs,hrs⟩:∃ rs,As xs p=rs:=⟨_,rfl⟩;dsimp only at hP;rw[hrs] at hP;have hord:=hid (fun(i:Nat) (hi:i<ys.length)=>hP.order hi);have hbv:=hP.bdv;have hpos:=hP.pos;obtain⟨K,hK⟩:∃ K,lead rs s=K:=⟨_,rfl⟩;dsimp only at hpos;rw[hK] at hpos hord;have hr:=hid (show brank ys p=(K:Int)+1 by rw[brank,hbv,if_neg (by simp),hpos]);have hK3:=hP.low;dsimp only at hK3;rw[hK] at hK3;have q1:IntKind.i64.wrap ((K:Int)+1-1)=(K:Int):=by rw[IntWalk.i64_in _ (by omega)]; omega
 have q2:(K:Int)+1-1=(K:Int):=by omega
 have q3:IntKind.i64.wrap (K:Int)=(K:Int):=IntWalk.i64_in _ (by omega);have q4:decide ((0:Int)<=(K:Int))=true:=decide_eq_true (by omega);rw[hL] at hord;replace hq:=hid hq;replace hL:=hid hL;clear hP hrs hpos hbv hK;go_wp2_with fail;refine(An D N cc xs p s ys 0 L hq.out hL.out _ Y.out (by omega)).mono ?_;rintro e w2 ⟨A1,c1,rfl,I1,M1,hc1,B⟩;replace Y:=hid (Y.out.step B);replace DV:=hid (DV.out.step B);replace I1:=hid I1;replace d0:=DV.out.cell 0 _ rfl;replace d1:=DV.out.cell 1 _ rfl;replace H:=hid (Aa H.out B);clear B;go_wp2_with fail;refine(AB D N cc xs p s ys 0 L hq.out hL.out _ Y.out (by omega)).mono ?_
 rintro e w3 ⟨A2,c2,rfl,I2,M2,hc2,B⟩;replace Y:=hid (Y.out.step B);replace DV:=hid (DV.out.step B);replace I1:=hid (I1.out.step B);replace I2:=hid I2;replace d0:=DV.out.cell 0 _ rfl;replace d1:=DV.out.cell 1 _ rfl;replace H:=hid (Aa H.out B);clear B;go_wp2_with fail;refine(Ab A1 A2 L c1 c2 ys _ I1.out I2.out (by omega)).mono ?_;rintro e w4 ⟨rfl,B⟩;replace Y:=hid (Y.out.step B);replace DV:=hid (DV.out.step B);replace I1:=hid (I1.out.step B);replace I2:=hid (I2.out.step B);replace d0:=DV.out.cell 0 _ rfl;replace d1:=DV.out.cell 1 _ rfl;replace H:=hid (Aa H.out B);clear B;go_wp2_with fail
 refine(AD A1 L c1 ys p ((K:Int)+1) hr.out _ I1.out (by omega)).mono ?_;rintro e w5 ⟨rfl,B⟩;replace Y:=hid (Y.out.step B);replace DV:=hid (DV.out.step B);replace I1:=hid (I1.out.step B);replace I2:=hid (I2.out.step B);replace d0:=DV.out.cell 0 _ rfl;replace d1:=DV.out.cell 1 _ rfl;replace H:=hid (Aa H.out B);clear B;go_wp2
 go_loopw [10] (fun i W=>∃ k m:Nat,k<=L/\i=.int .i64 k/\w5.drewN m=W) (fun i _=>L-(RowKit.intOf i).toNat)
 case atStart=>exact⟨0,0,Nat.zero_le _,rfl,rfl⟩
 case round =>
  obtain⟨k,m,hk,rfl,hW⟩:=hrel;have I9:=I1.out.step (hW▸Ai (Ac w5) m:Below w5.heap.size w5 wr);have DV9:=DV.out.step (hW▸Ai (Ac w5) m:Below w5.heap.size w5 wr);have H1:=hid (Aa H.out (hW▸Ai (Ac w5) m:Below w5.heap.size w5 wr));replace hW:=hid hW;replace d0:=DV9.cell 0 _ rfl;replace d1:=DV9.cell 1 _ rfl;by_cases hlt:k<L
  . have g0:decide ((k:Int)<(L:Int))=true:=decide_eq_true (by omega);have g1:decide (k<L)=true:=decide_eq_true hlt;obtain⟨b,off,rfl,_,hc⟩:=I9.2 (by omega);have a1:=(hc k hlt).c1;obtain⟨o1,o2⟩:=hord.out k hlt
    try dsimp only at o1 o2
    generalize (ys.getD k ez).s=zk at *;replace DV9:=hid DV9;clear hc;rcases Nat.lt_trichotomy k K with hkK | hkK | hkK
    . have e1:decide ((k:Int)<(K:Int))=true:=decide_eq_true (by omega);have e2:decide (k<K)=true:=decide_eq_true hkK;have e3:decide ((K:Int)<(k:Int))=false:=decide_eq_false (by omega);have e4:decide (K<k)=false:=decide_eq_false (by omega);have gs:decide (s<zk)=false:=decide_eq_false (by have:=o1 hkK; omega);clear o1 o2;go_wp2_with fail
      go_quiet (fail)
      go_wp2
      go_roundw
      case rel=>exact⟨k+1,m+_,by omega,by go_num,by rw[<- hW.out]; exact Ao w5 m _⟩
      case measure=>simp[RowKit.intOf]; omega
    . have e1:decide ((k:Int)<(K:Int))=false:=decide_eq_false (by omega);have e2:decide (k<K)=false:=decide_eq_false (by omega);have e3:decide ((K:Int)<(k:Int))=false:=decide_eq_false (by omega);have e4:decide (K<k)=false:=decide_eq_false (by omega);replace hkK:=hid hkK;clear o1 o2;go_wp2_with fail
      go_quiet (fail)
      go_wp2
      go_roundw
      case rel=>exact⟨k+1,m+_,by omega,by go_num,by rw[<- hW.out]; exact Ao w5 m _⟩
      case measure=>simp[RowKit.intOf]; omega
    . have e1:decide ((k:Int)<(K:Int))=false:=decide_eq_false (by omega);have e2:decide (k<K)=false:=decide_eq_false (by omega);have e3:decide ((K:Int)<(k:Int))=true:=decide_eq_true (by omega);have e4:decide (K<k)=true:=decide_eq_true hkK;have gs:decide (zk<=s)=false:=decide_eq_false (by have:=o2 hkK; omega);clear o1 o2;go_wp2_with fail
      go_quiet (fail)
      go_wp2
      go_roundw
      case rel=>exact⟨k+1,m+_,by omega,by go_num,by rw[<- hW.out]; exact Ao w5 m _⟩
      case measure=>simp[RowKit.intOf]; omega
  . obtain rfl:k=L:=by omega
    have g0:decide ((k:Int)<(k:Int))=false:=decide_eq_false (by omega);clear I9 DV9;go_wp2;go_ret;exact⟨rfl,H1.out⟩
end Go.Proofs.Ytgghhedkephohaa
