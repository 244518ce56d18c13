import Derived.Test.YtgghhedkephohaaZLawBdB
set_option linter.all false
set_option maxRecDepth 100000
set_option maxHeartbeats 8000000
open Go.Lib
namespace Go.Proofs.Ytgghhedkephohaa
open Go.RowKit
open M
theorem BC(a:Option Addr)(len cap:Nat)(zs:List Int)(w:World)(h:IsRow .u8 w a len cap zs) :
 Calls Try.prog 9 #[.slice a len cap] w fun e w'=>e=.returned (.bool true)/\Below w.heap.size w w':=by
 have hm:=h.bytes.1;have hm2:=h.bytes.2.1;unfold maxLen at hm2;by_cases g:1048576<len
 . have g1:(1048576:Int)<(len:Int):=by omega
   go_enter Try.func9,Try.ntmps9;go_wp2;go_ret;exact⟨rfl,Below.refl _ _⟩
 have g1:(len:Int)<=1048576:=by omega
 clear g hm hm2;go_enter Try.func9,Try.ntmps9;go_wp2_with fail;refine(CE a len cap zs w h).mono ?_;rintro e w1 ⟨D,N,cc,xs,p,rfl,⟨hN,hNc⟩,hp,Y,B⟩;have H:=hid B;clear B h;have hxl:=hid Y.1;replace Y:=hid Y;obtain⟨ys,b,hq⟩:∃ ys b,brem xs p=(ys,b):=⟨_,_,rfl⟩;obtain⟨L,hL⟩:∃ L,ys.length=L:=⟨_,rfl⟩;have hyx:ys.length<=xs.length:=brem_len hq;rw[hL,hxl.out] at hyx;cases hv:bdv xs
 . replace hv:=hid hv;replace hq:=hid hq;replace hL:=hid hL;go_wp2_with fail;refine(BH D N cc xs p ys _ L hq.out hL.out _ Y.out (by omega)).mono ?_;rintro e w2 ⟨A1,c1,rfl,I1,M1,hc1,B⟩;replace Y:=hid (Y.out.step B);replace I1:=hid I1;replace H:=hid (Aa H.out B);clear B;go_wp2_with fail;refine(BI D N cc xs p ys _ L hq.out hL.out _ Y.out (by omega)).mono ?_;rintro e w3 ⟨A2,c2,rfl,I2,M2,hc2,B⟩;replace Y:=hid (Y.out.step B);replace I1:=hid (I1.out.step B);replace I2:=hid I2;replace H:=hid (Aa H.out B);clear B;go_wp2_with fail;refine(Ab A1 A2 L c1 c2 ys _ I1.out I2.out (by omega)).mono ?_;rintro e w4 ⟨rfl,B⟩
   replace Y:=hid (Y.out.step B);replace I1:=hid (I1.out.step B);replace I2:=hid (I2.out.step B);replace H:=hid (Aa H.out B);clear B;go_wp2_with fail;refine(Dz D N cc xs false hv.out _ Y.out (by omega)).mono ?_;rintro e w5 ⟨rfl,B⟩;replace Y:=hid (Y.out.step B);replace I1:=hid (I1.out.step B);replace I2:=hid (I2.out.step B);replace H:=hid (Aa H.out B);clear B;go_wp2_with fail;refine(Ab A1 A2 L c1 c2 ys _ I1.out I2.out (by omega)).mono ?_;rintro e w6 ⟨rfl,B⟩;replace Y:=hid (Y.out.step B);replace I1:=hid (I1.out.step B);replace I2:=hid (I2.out.step B);replace H:=hid (Aa H.out B);clear B;go_wp2;go_ret;exact⟨rfl,H.out⟩
 have hq2:=hq;rw[brem,hv,if_neg (by simp)] at hq2;obtain⟨hy,hbb⟩:=Prod.mk.inj hq2;have hvy:bdv ys=true:=hy▸Aw.2 ((Aw.1 hv).wo p);have hdd:decide ((L:Int)<(N:Int))=b:=by rw[<- hbb]; refine decide_eq_decide.2 ?_; rw[<- Ck,hy,hL,hxl.out]; omega
 have hdd2:decide (L<N)=b:=by rw[<- hdd]; exact decide_eq_decide.2 (by omega)
 replace hy:=hid hy;replace hv:=hid hv;replace hq:=hid hq;replace hL:=hid hL;replace hvy:=hid hvy;clear hq2 hbb;go_wp2_with fail;refine(BH D N cc xs p ys _ L hq.out hL.out _ Y.out (by omega)).mono ?_;rintro e w2 ⟨A1,c1,rfl,I1,M1,hc1,B⟩;replace Y:=hid (Y.out.step B);replace I1:=hid I1;replace H:=hid (Aa H.out B);clear B;go_wp2_with fail;refine(BI D N cc xs p ys _ L hq.out hL.out _ Y.out (by omega)).mono ?_;rintro e w3 ⟨A2,c2,rfl,I2,M2,hc2,B⟩;replace Y:=hid (Y.out.step B);replace I1:=hid (I1.out.step B);replace I2:=hid I2;replace H:=hid (Aa H.out B);clear B;go_wp2_with fail
 refine(Ab A1 A2 L c1 c2 ys _ I1.out I2.out (by omega)).mono ?_;rintro e w4 ⟨rfl,B⟩;replace Y:=hid (Y.out.step B);replace I1:=hid (I1.out.step B);replace I2:=hid (I2.out.step B);replace H:=hid (Aa H.out B);clear B;go_wp2_with fail;refine(Dz D N cc xs true hv.out _ Y.out (by omega)).mono ?_;rintro e w5 ⟨rfl,B⟩;replace Y:=hid (Y.out.step B);replace I1:=hid (I1.out.step B);replace I2:=hid (I2.out.step B);replace H:=hid (Aa H.out B);clear B;go_wp2
 go_loopw [9,10] (fun ov iv W=>∃ k:Nat,k<=N/\iv=.int .i64 k/\W.ownsRow w5.heap.size 25 2 ov (As (xs.take k) p).length (AM (As (xs.take k) p))/\Below w5.heap.size w5 W) (fun _ i _=>N-(RowKit.intOf i).toNat)
 case atStart=>exact⟨0,Nat.zero_le _,rfl,Ah w5 _ _ rfl (Nat.le_refl _),Ad (Ac w5) _⟩
 case round =>
  obtain⟨k,hk,rfl,O,Bq⟩:=hrel;have S9:=hid (Y.out.step Bq);replace Bq:=hid Bq;by_cases hlt:k<N
  . have g0:decide ((k:Int)<(N:Int))=true:=decide_eq_true (by omega);have g1:decide (k<N)=true:=decide_eq_true hlt;obtain⟨b,off,eA,_,hc⟩:=S9.out.2 (by omega);subst eA;obtain⟨c0,c1⟩:=hc k hlt;have hkl:k<xs.length:=by have:=S9.out.1; omega
    have hwl:(As (xs.take k) p).length<=k:=Nat.le_trans (List.length_filter_le _ _) (List.length_take_le k _);have en:=wo_next hkl (pl:=p);clear hc;generalize xs.getD k ez=q at *;obtain⟨zp,zs⟩:=q;dsimp only at c0 c1 en;by_cases hpp:zp=p
    . rw[if_pos hpp] at en;rw[<- en] at O;replace en:=hid en;replace O:=hid O;have hpn:(zp != p)=false:=by simp[hpp]
      clear hpp;go_wp2
      go_roundw
      case rel=>exact⟨k+1,by omega,by go_num,O.out,Bq.out⟩
      case measure=>simp[RowKit.intOf]; omega
    . rw[if_neg hpp] at en;have hln:=hid (show(As (xs.take (k+1)) p).length=(As (xs.take k) p).length+1 by rw[en]; simp);replace en:=hid en;have hpn:(zp != p)=true:=bne_iff_ne.2 hpp;replace hpp:=hid hpp;obtain⟨A8,c8,e8,_,_⟩:=Ents.of_own O;subst e8;replace O:=hid O;go_wp2_with (at_builtin; refine Al _ rfl (.tmp 67) (.tmp 72) rfl w5.heap.size (.slice A8 _ c8) _ _ rfl ((O.out).alloc _) _ 1 1 [⟨zp,zs⟩] rfl (Ents.one _ _ zp zs _ (by simp)) (by omega) (by have:=Bq.out.size; simp; omega) ?_);intro v' w9 O9 G9 _;rw[<- en.out] at O9;have B9:=hid ((Ad (Bq.out) _).grown G9 (by have:=Bq.out.size; simp; omega) (fun g e=>(O.out.lt g e).1))
      replace O9:=hid O9;clear G9 O Bq;go_wp2
      go_roundw
      case rel=>exact⟨k+1,by omega,by go_num,by rw[hln.out]; exact O9.out,B9.out⟩
      case measure=>simp[RowKit.intOf]; omega
  . obtain rfl:k=N:=by omega
    have g0:decide ((k:Int)<(k:Int))=false:=decide_eq_false (by omega);have et:xs.take k=xs:=List.take_of_length_le (by have:=S9.out.1; omega);rw[et] at O;replace et:=hid et;rw[hy.out,hL.out] at O;obtain⟨A9,c9,e9,I9,_⟩:=Ents.of_own O;subst e9;have I9:=hid I9;replace I1:=hid (I1.out.step Bq.out);replace H:=hid (Aa H.out Bq.out);clear O Bq;go_wp2_with fail;refine(Ab A1 A9 L c1 c9 ys _ I1.out I9.out (by omega)).mono ?_;rintro e w21 ⟨rfl,B⟩;replace I1:=hid (I1.out.step B);replace I9:=hid (I9.out.step B);replace H:=hid (Aa H.out B);clear B;go_wp2_with fail;refine(E2 A1 L c1 ys true hvy.out _ I1.out (by omega)).mono ?_
    rintro e w22 ⟨rfl,B⟩;replace I1:=hid (I1.out.step B);replace I9:=hid (I9.out.step B);replace H:=hid (Aa H.out B);clear B;cases b
    all_goals
     go_wp2;go_ret;exact⟨rfl,H.out⟩
end Go.Proofs.Ytgghhedkephohaa
