import Derived.Test.YtgghhedkephohaaZBdR
set_option linter.all false
set_option maxRecDepth 100000
set_option maxHeartbeats 8000000
open Go.Lib
namespace Go.Proofs.Ytgghhedkephohaa
open Go.RowKit
open M
theorem M.brem_ok{xs:List En}{p:Int}{ys:List En}{b:Bool}(h:brem xs p=(ys,b))(hb:b=true):bdv xs=true:=by
 cases hv:bdv xs with
 | false =>
  rw[brem,hv,if_pos rfl] at h;subst hb;cases h
 | true=>rfl
theorem M.blim_ok{xs:List En}(h:0<=Au xs):bdv xs=true:=by
 cases hv:bdv xs with
 | false =>
  rw[Au,hv,if_pos rfl] at h;omega
 | true=>rfl
theorem M.brem_len{xs:List En}{p:Int}{ys:List En}{b:Bool}(h:brem xs p=(ys,b)):ys.length<=xs.length:=by
 unfold brem at h;split at h
 . obtain⟨rfl,_⟩:=Prod.mk.inj h; simp
 . obtain⟨rfl,_⟩:=Prod.mk.inj h; exact List.length_filter_le _ _
theorem Bb(a:Option Addr)(len cap:Nat)(zs:List Int)(w:World)(h:IsRow .u8 w a len cap zs) :
 Calls Try.prog 10 #[.slice a len cap] w fun e w'=>e=.returned (.bool true)/\Below w.heap.size w w':=by
 have hm:=h.bytes.1;have hm2:=h.bytes.2.1;unfold maxLen at hm2;by_cases g:1048576<len
 . have g1:(1048576:Int)<(len:Int):=by omega
   go_enter Try.func10,Try.ntmps10;go_wp2;go_ret;exact⟨rfl,Below.refl _ _⟩
 have g1:(len:Int)<=1048576:=by omega
 clear g hm hm2;go_enter Try.func10,Try.ntmps10;go_wp2_with fail;refine(CE a len cap zs w h).mono ?_;rintro e w1 ⟨D,N,cc,xs,p,rfl,⟨hN,hNc⟩,hp,Y,B⟩;have H:=hid B;clear B h;have hxl:=hid Y.1;replace Y:=hid Y;obtain⟨ys,b,hq⟩:∃ ys b,brem xs p=(ys,b):=⟨_,_,rfl⟩;obtain⟨L,hL⟩:∃ L,ys.length=L:=⟨_,rfl⟩;have hyx:ys.length<=xs.length:=brem_len hq;rw[hL,hxl.out] at hyx;cases b
 . replace hq:=hid hq;replace hL:=hid hL;go_wp2_with fail;refine(BH D N cc xs p ys _ L hq.out hL.out _ Y.out (by omega)).mono ?_;rintro e w2 ⟨A1,c1,rfl,I1,M1,hc1,B⟩;replace Y:=hid (Y.out.step B);replace I1:=hid I1;replace H:=hid (Aa H.out B);clear B;go_wp2_with fail;refine(BI D N cc xs p ys _ L hq.out hL.out _ Y.out (by omega)).mono ?_;rintro e w3 ⟨A2,c2,rfl,I2,M2,hc2,B⟩;replace Y:=hid (Y.out.step B);replace I1:=hid (I1.out.step B);replace I2:=hid I2;replace H:=hid (Aa H.out B);clear B;go_wp2_with fail;refine(Ab A1 A2 L c1 c2 ys _ I1.out I2.out (by omega)).mono ?_;rintro e w4 ⟨rfl,B⟩;replace Y:=hid (Y.out.step B)
   replace I1:=hid (I1.out.step B);replace I2:=hid (I2.out.step B);replace H:=hid (Aa H.out B);clear B;go_wp2_with fail;refine(Ab A1 A2 L c1 c2 ys _ I1.out I2.out (by omega)).mono ?_;rintro e w5 ⟨rfl,B⟩;replace Y:=hid (Y.out.step B);replace I1:=hid (I1.out.step B);replace I2:=hid (I2.out.step B);replace H:=hid (Aa H.out B);clear B;go_wp2;go_ret;exact⟨rfl,H.out⟩
 have hv:bdv xs=true:=brem_ok hq rfl;have hq2:=hq;rw[brem,hv,if_neg (by simp)] at hq2;obtain⟨hy,hb⟩:=Prod.mk.inj hq2;have hin:Aj xs p<xs.length:=of_decide_eq_true hb;obtain⟨zs,hz⟩:∃ zs,A7 xs p=zs:=⟨_,rfl⟩;obtain⟨us,hu,hul⟩:=Dl (Aw.1 hv) hin;rw[hy,hz] at hu;rw[hxl.out] at hul;have hub:((N:Int)==(N:Int))=true:=by simp
 replace hq:=hid hq;replace hL:=hid hL;replace hz:=hid hz;replace hu:=hid hu;replace hul:=hid hul;clear hq2 hy hb hin hv;go_wp2_with fail;refine(BH D N cc xs p ys _ L hq.out hL.out _ Y.out (by omega)).mono ?_;rintro e w2 ⟨A1,c1,rfl,I1,M1,hc1,B⟩;replace Y:=hid (Y.out.step B);replace I1:=hid I1;replace H:=hid (Aa H.out B);clear B;go_wp2_with fail;refine(BI D N cc xs p ys _ L hq.out hL.out _ Y.out (by omega)).mono ?_;rintro e w3 ⟨A2,c2,rfl,I2,M2,hc2,B⟩;replace Y:=hid (Y.out.step B);replace I1:=hid (I1.out.step B);replace I2:=hid I2;replace H:=hid (Aa H.out B);clear B;go_wp2_with fail
 refine(Ab A1 A2 L c1 c2 ys _ I1.out I2.out (by omega)).mono ?_;rintro e w4 ⟨rfl,B⟩;replace Y:=hid (Y.out.step B);replace I1:=hid (I1.out.step B);replace I2:=hid (I2.out.step B);replace H:=hid (Aa H.out B);clear B;go_wp2_with fail;refine(AV D N cc xs p zs hz.out _ Y.out (by omega)).mono ?_;rintro e w5 ⟨rfl,B⟩;replace Y:=hid (Y.out.step B);replace I1:=hid (I1.out.step B);replace I2:=hid (I2.out.step B);replace H:=hid (Aa H.out B);clear B;go_wp2_with fail;refine(An A1 L c1 ys p zs us 0 N hu.out hul.out _ I1.out (by omega)).mono ?_;rintro e w6 ⟨A3,c3,rfl,I3,M3,hc3,B⟩;replace Y:=hid (Y.out.step B);replace I1:=hid (I1.out.step B)
 replace I2:=hid (I2.out.step B);replace I3:=hid I3;replace H:=hid (Aa H.out B);clear B;go_wp2;go_ret;exact⟨rfl,H.out⟩
theorem CW(a:Option Addr)(len cap:Nat)(zs:List Int)(a2:Option Addr)(len2 cap2:Nat)(zs2:List Int)(w:World)(h:IsRow .u8 w a len cap zs)(h2:IsRow .u8 w a2 len2 cap2 zs2) :
 Calls Try.prog 11 #[.slice a len cap,.slice a2 len2 cap2] w fun e w'=>e=.returned (.bool true)/\Below w.heap.size w w':=by
 have hm:=h.bytes.1;have hm2:=h.bytes.2.1;unfold maxLen at hm2;have hn:=h2.bytes.1;have hn2:=h2.bytes.2.1;unfold maxLen at hn2;clear h2;by_cases g:1048576<len
 . have g1:(1048576:Int)<(len:Int):=by omega
   go_enter Try.func11,Try.ntmps11;go_wp2;go_ret;exact⟨rfl,Below.refl _ _⟩
 have g1:(len:Int)<=1048576:=by omega
 by_cases k:1048576<len2
 . have k1:(1048576:Int)<(len2:Int):=by omega
   go_enter Try.func11,Try.ntmps11;go_wp2;go_ret;exact⟨rfl,Below.refl _ _⟩
 have k1:(len2:Int)<=1048576:=by omega
 clear k hn hn2;clear g hm hm2;go_enter Try.func11,Try.ntmps11;go_wp2_with fail;refine(Dc a len cap zs w h).mono ?_;rintro e w1 ⟨D,N,cc,xs,rfl,⟨hN,hNc⟩,Y,B⟩;have H:=hid B;clear B h;have hxl:=hid Y.1;replace Y:=hid Y;obtain⟨r,hr⟩:∃ r,Au xs=r:=⟨_,rfl⟩;by_cases h0:r<0
 . have g0:decide (r<0)=true:=decide_eq_true h0;replace hr:=hid hr;go_wp2_with fail;refine(C4 D N cc xs r hr.out _ Y.out (by omega)).mono ?_;rintro e w2 ⟨rfl,B⟩;replace Y:=hid (Y.out.step B);replace H:=hid (Aa H.out B);clear B;go_wp2_with fail;refine(C5 D N cc xs r hr.out _ Y.out (by omega)).mono ?_;rintro e w3 ⟨rfl,B⟩;replace Y:=hid (Y.out.step B);replace H:=hid (Aa H.out B);clear B;go_wp2;go_ret;exact⟨rfl,H.out⟩
 have g0:decide (r<0)=false:=decide_eq_false h0;have hv:bdv xs=true:=blim_ok (by omega);have hb:=Aw.1 hv;have hN4:=hb.len;have hr60:r<=60:=by
  rw[Au,hv,if_neg (by simp)] at hr;split at hr
  . omega
  . have:=hb.ok _ (List.getElem_mem (show xs.length-1<xs.length by omega));simp only[AR,Bool.and_eq_true,decide_eq_true_eq] at this;rw[gd (show xs.length-1<xs.length by omega)] at hr;omega
 have fl:=hid (fun(P:Nat) (hP:∀ j:Nat,j<P->Aj xs (j:Int)<xs.length)=>Dm (p:=P) hN4 hP);have epos:=hid (fun(pl:Int)=>@Cc xs hb pl);have one:=hid (fun(P:Nat) (hP:P<=xs.length) (hn:∀ q∈xs,q.p≠(P:Int))=>DY (pl:=P) hb (by omega) ⟨by omega,by omega⟩ hn);have two:=hid (fun(P:Nat) (hP:P<=xs.length) (hn:∀ q∈xs,q.p≠(P:Int)) (s:Int) (hne:Au xs≠60) (hs:Au xs<s) (h60:s<=60)=>DZ (pl:=P) hb ⟨by omega,by omega⟩ hn hne (by omega) hs h60);rw[hxl.out] at hN4;rw[hr] at one two;replace hr:=hid hr;clear hv hb;go_wp2_with fail;refine(C4 D N cc xs r hr.out _ Y.out (by omega)).mono ?_
 rintro e w2 ⟨rfl,B⟩;replace Y:=hid (Y.out.step B);replace H:=hid (Aa H.out B);clear B;go_wp2_with fail;refine(C5 D N cc xs r hr.out _ Y.out (by omega)).mono ?_;rintro e w3 ⟨rfl,B⟩;replace Y:=hid (Y.out.step B);replace H:=hid (Aa H.out B);clear B;go_wp2
 go_loopw [8] (fun i W=>∃ P:Nat,i=.int .i64 P/\(∀ j:Nat,j<P->Aj xs (j:Int)<xs.length)/\Below w.heap.size w W/\Ents W D N xs) (fun i _=>10-(RowKit.intOf i).toNat)
 case atStart=>exact⟨0,rfl,fun j hj=>absurd hj (by omega),H.out,Y.out⟩
 case round =>
  clear H Y;obtain⟨P,rfl,hP,H,Y⟩:=hrel;have hP4:=fl.out P hP;rw[hxl.out] at hP4;replace H:=hid H;replace Y:=hid Y;have q1:IntKind.i64.wrap ((P:Int)+1)=(P:Int)+1:=IntWalk.i64_in _ (by omega);obtain⟨z,hz⟩:∃ z,A7 xs (P:Int)=z:=⟨_,rfl⟩;by_cases hin:Aj xs (P:Int)<xs.length
  . have hz0:0<=z:=hz▸(epos.out P).2 hin;have gz:decide (0<=z)=true:=decide_eq_true hz0;have hP':=hid (show ∀ j:Nat,j<P+1->Aj xs (j:Int)<xs.length from fun j hj=>by
     rcases Nat.lt_or_ge j P with h1 | h1
     . exact hP j h1
     . have:j=P:=by omega
       subst this; exact hin)
    replace hz:=hid hz;clear hP hin;go_wp2_with fail;refine(AV D N cc xs P z hz.out _ Y.out (by omega)).mono ?_;rintro e w4 ⟨rfl,B⟩;replace H:=hid (Aa H.out B);replace Y:=hid (Y.out.step B);clear B;go_wp2
    go_roundw
    case rel=>exact⟨P+1,by go_num,hP'.out,H.out,Y.out⟩
    case measure=>simp[RowKit.intOf]; omega
  . have hz0:¬ 0<=z:=fun c=>hin ((epos.out P).1 (hz▸c));have gz:decide (0<=z)=false:=decide_eq_false hz0;have hn:∀ q∈xs,q.p≠(P:Int):=fun q hq=>by
     obtain⟨k,hk,rfl⟩:=List.getElem_of_mem hq;rw[<- gd hk];exact Br (by have:=CG xs (P:Int); omega)
    have b1:=one.out P (by rw[hxl.out]; exact hP4) hn;have b2:=two.out P (by rw[hxl.out]; exact hP4) hn;obtain⟨us,hus⟩:∃ us,AK xs ⟨(P:Int),r⟩=us:=⟨_,rfl⟩;rw[hus] at b1;obtain⟨L,hL⟩:∃ L,us.length=L:=⟨_,rfl⟩;have hmn:=CQ;have m0:Int.tmod (len2:Int) 9=((len2 % 9:Nat):Int):=by rw[Int.tmod_eq_emod_of_nonneg (by omega)]; omega
    obtain⟨d,hd⟩:∃ d,len2 % 9=d:=⟨_,rfl⟩;rw[hd] at m0;have hd9:d<9:=by omega
    have m1:(len2:Int) % 9=(d:Int):=by omega
    have m2:IntKind.i64.wrap (d:Int)=(d:Int):=IntWalk.i64_in _ (by omega);have m3:IntKind.i64.wrap (r+1)=r+1:=IntWalk.i64_in _ (by omega);have m4:IntKind.i64.wrap (r+1+(d:Int))=r+1+(d:Int):=IntWalk.i64_in _ (by omega);obtain⟨s2,hs2⟩:∃ s2,min (r+1+(d:Int)) 60=s2:=⟨_,rfl⟩;obtain⟨vs,cd,hvs⟩:∃ vs cd,Am xs ⟨(P:Int),s2⟩=(vs,cd):=⟨_,_,rfl⟩;obtain⟨L2,hL2⟩:∃ L2,vs.length=L2:=⟨_,rfl⟩;replace hus:=hid hus;replace hL:=hid hL;replace hL2:=hid hL2;replace b1:=hid b1;replace hz:=hid hz;have hd:=hid hd;have h60:r≠60->cd=2:=fun hne=>by
     have t:=b2 s2 hne (by omega) (by omega);rw[t] at hvs;exact(Prod.mk.inj hvs).2.symm
    replace hvs:=hid hvs;clear hP hn b2 hz0 hin;go_wp2_with fail;refine(AV D N cc xs P z hz.out _ Y.out (by omega)).mono ?_;rintro e w4 ⟨rfl,B⟩;replace H:=hid (Aa H.out B);replace Y:=hid (Y.out.step B);clear B;go_wp2_with fail;refine(An D N cc xs P r us 0 L b1.out hL.out _ Y.out (by omega)).mono ?_;rintro e w5 ⟨A1,c1,rfl,I1,M1,hc1,B⟩;replace H:=hid (Aa H.out B);replace Y:=hid (Y.out.step B);clear B I1 M1;go_wp2_with fail;refine(An D N cc xs P s2 vs cd L2 hvs.out hL2.out _ Y.out (by omega)).mono ?_;rintro e w6 ⟨A2,c2,rfl,I2,M2,hc2,B⟩;replace H:=hid (Aa H.out B);clear B I2 M2;by_cases h6:r=60
    . subst h6;go_wp2;go_ret;exact⟨rfl,H.out⟩
    . obtain rfl:=h60 h6;have h6b:(r==60)=false:=beq_eq_false_iff_ne.2 h6;go_wp2;go_ret;exact⟨rfl,H.out⟩
end Go.Proofs.Ytgghhedkephohaa
