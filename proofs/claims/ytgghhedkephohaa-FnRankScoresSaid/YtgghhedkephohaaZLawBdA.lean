import Derived.Test.YtgghhedkephohaaZBdR
set_option linter.all false
set_option maxRecDepth 100000
set_option maxHeartbeats 8000000
open Go.Lib
namespace Go.Proofs.Ytgghhedkephohaa
open Go.RowKit
open M
theorem Dh(a:Option Addr)(len cap:Nat)(zs:List Int)(w:World)(h:IsRow .u8 w a len cap zs) :
 Calls Try.prog 7 #[.slice a len cap] w fun e w'=>e=.returned (.bool true)/\Below w.heap.size w w':=by
 have hm:=h.bytes.1;have hm2:=h.bytes.2.1;unfold maxLen at hm2;by_cases g:1048576<len
 . have g1:(1048576:Int)<(len:Int):=by omega
   go_enter Try.func7,Try.ntmps7;go_wp2;go_ret;exact⟨rfl,Below.refl _ _⟩
 have g1:(len:Int)<=1048576:=by omega
 clear g hm hm2;go_enter Try.func7,Try.ntmps7;go_wp2_with fail;refine(Bz a len cap zs w h).mono ?_;rintro e w1 ⟨D,N,cc,xs,p,rfl,⟨hN,hNc⟩,hp,Y,B⟩;have H:=hid B;clear B h;have hxl:=hid Y.1;replace Y:=hid Y;cases hv:bdv xs
 . have hr:=hid (show brank xs p=-1 by rw[brank,hv,if_pos rfl]);go_wp2_with fail;refine(AD D N cc xs p (-1) hr.out _ Y.out (by omega)).mono ?_;rintro e w2 ⟨rfl,B⟩;replace Y:=hid (Y.out.step B);replace H:=hid (Aa H.out B);clear B;go_wp2_with fail;refine(AJ D N cc xs p (-1) hr.out _ Y.out (by omega)).mono ?_;rintro e w3 ⟨rfl,B⟩;replace Y:=hid (Y.out.step B);replace H:=hid (Aa H.out B);clear B;go_wp2;go_ret;exact⟨rfl,H.out⟩
 by_cases hin:Aj xs p<xs.length
 rotate_left
 . have hr:=hid (show brank xs p=0 by rw[brank,hv,if_neg (by simp),AG,if_neg hin]; rfl);have hs:=hid (show A7 xs p=-1 from Cj hin);go_wp2_with fail;refine(AD D N cc xs p 0 hr.out _ Y.out (by omega)).mono ?_;rintro e w2 ⟨rfl,B⟩;replace Y:=hid (Y.out.step B);replace H:=hid (Aa H.out B);clear B;go_wp2_with fail;refine(AJ D N cc xs p 0 hr.out _ Y.out (by omega)).mono ?_;rintro e w3 ⟨rfl,B⟩;replace Y:=hid (Y.out.step B);replace H:=hid (Aa H.out B);clear B;go_wp2_with fail;refine(AV D N cc xs p (-1) hs.out _ Y.out (by omega)).mono ?_;rintro e w4 ⟨rfl,B⟩;replace Y:=hid (Y.out.step B);replace H:=hid (Aa H.out B);clear B
   go_wp2;go_ret;exact⟨rfl,H.out⟩
 obtain⟨K,hK⟩:∃ K,Aj xs p=K:=⟨_,rfl⟩;have hr:=hid (show brank xs p=((K+1:Nat):Int) by rw[brank,hv,if_neg (by simp),AG,if_pos hin,hK]; omega);have hat:=Bv hin;rw[hK] at hat hin;rw[hxl.out] at hin;obtain⟨K1,hK1⟩:∃ K1,K+1=K1:=⟨_,rfl⟩;rw[hK1] at hr;have q1:IntKind.i64.wrap ((K1:Int)-1)=(K:Int):=by rw[IntWalk.i64_in _ (by omega)]; omega
 have q2:(K1:Int)-1=(K:Int):=by omega
 have q3:IntKind.i64.wrap (K:Int)=(K:Int):=IntWalk.i64_in _ (by omega);have q4:decide ((K1:Int)<=(N:Int))=true:=decide_eq_true (by omega);have q5:decide (K1<=N)=true:=decide_eq_true (by omega);have q6:((K1:Int)==0)=false:=beq_eq_false_iff_ne.2 (by omega);have q7:(K1==0)=false:=beq_eq_false_iff_ne.2 (by omega);have q8:decide ((K1:Int)<0)=false:=decide_eq_false (by omega);have q9:¬ (K1:Int)<0:=by omega
 have cx:=hid (show ∀ W:World,Ents W D N xs->∃ b off,D=some ⟨b,off,none⟩/\W.cell? ⟨b,off+K*2,none⟩=some (.int .i64 p) from fun W Z=>by
  obtain⟨b,off,e,_,hc⟩:=Z.2 (by omega);exact⟨b,off,e,hat▸(hc K hin).c0⟩)
 have hpb:(p==p)=true:=by simp
 clear hat hv hK hK1;go_wp2_with fail;refine(AD D N cc xs p (K1:Int) hr.out _ Y.out (by omega)).mono ?_;rintro e w2 ⟨rfl,B⟩;replace Y:=hid (Y.out.step B);replace H:=hid (Aa H.out B);clear B;go_wp2_with fail;refine(AJ D N cc xs p (K1:Int) hr.out _ Y.out (by omega)).mono ?_;rintro e w3 ⟨rfl,B⟩;replace Y:=hid (Y.out.step B);replace H:=hid (Aa H.out B);clear B;obtain⟨b,off,rfl,ck⟩:=cx.out _ Y.out;go_wp2;go_ret;exact⟨rfl,H.out⟩
theorem BP(a:Option Addr)(len cap:Nat)(zs:List Int)(w:World)(h:IsRow .u8 w a len cap zs) :
 Calls Try.prog 8 #[.slice a len cap] w fun e w'=>e=.returned (.bool true)/\Below w.heap.size w w':=by
 have hm:=h.bytes.1;have hm2:=h.bytes.2.1;unfold maxLen at hm2;by_cases g:1048576<len
 . have g1:(1048576:Int)<(len:Int):=by omega
   go_enter Try.func8,Try.ntmps8;go_wp2;go_ret;exact⟨rfl,Below.refl _ _⟩
 have g1:(len:Int)<=1048576:=by omega
 clear g hm hm2;go_enter Try.func8,Try.ntmps8;go_wp2_with fail;refine(Bz a len cap zs w h).mono ?_;rintro e w1 ⟨D,N,cc,xs,p,rfl,⟨hN,hNc⟩,hp,Y,B⟩;have H:=hid B;clear B h;have hxl:=hid Y.1;replace Y:=hid Y;cases hv:bdv xs
 . have hr:=hid (show brank xs p=-1 by rw[brank,hv,if_pos rfl]);go_wp2_with fail;refine(AD D N cc xs p (-1) hr.out _ Y.out (by omega)).mono ?_;rintro e w2 ⟨rfl,B⟩;replace Y:=hid (Y.out.step B);replace H:=hid (Aa H.out B);clear B;go_wp2_with fail;refine(AJ D N cc xs p (-1) hr.out _ Y.out (by omega)).mono ?_;rintro e w3 ⟨rfl,B⟩;replace Y:=hid (Y.out.step B);replace H:=hid (Aa H.out B);clear B;go_wp2;go_ret;exact⟨rfl,H.out⟩
 by_cases hin:Aj xs p<xs.length
 rotate_left
 . have hr:=hid (show brank xs p=0 by rw[brank,hv,if_neg (by simp),AG,if_neg hin]; rfl);go_wp2_with fail;refine(AD D N cc xs p 0 hr.out _ Y.out (by omega)).mono ?_;rintro e w2 ⟨rfl,B⟩;replace Y:=hid (Y.out.step B);replace H:=hid (Aa H.out B);clear B;go_wp2_with fail;refine(AJ D N cc xs p 0 hr.out _ Y.out (by omega)).mono ?_;rintro e w3 ⟨rfl,B⟩;replace Y:=hid (Y.out.step B);replace H:=hid (Aa H.out B);clear B;go_wp2;go_ret;exact⟨rfl,H.out⟩
 obtain⟨K,hK⟩:∃ K,Aj xs p=K:=⟨_,rfl⟩;have hr:=hid (show brank xs p=((K+1:Nat):Int) by rw[brank,hv,if_neg (by simp),AG,if_pos hin,hK]; omega);rw[hK] at hin;have hsc:=hid (fun(j:Nat) (hj:j<K)=>Cz (Aw.1 hv) hj hin);rw[hxl.out] at hin;obtain⟨K1,hK1⟩:∃ K1,K+1=K1:=⟨_,rfl⟩;rw[hK1] at hr;have q1:IntKind.i64.wrap ((K1:Int)-1)=(K:Int):=by rw[IntWalk.i64_in _ (by omega)]; omega
 have q2:(K1:Int)-1=(K:Int):=by omega
 have q3:IntKind.i64.wrap (K:Int)=(K:Int):=IntWalk.i64_in _ (by omega);have q6:decide ((K1:Int)<=0)=false:=decide_eq_false (by omega);have q7:¬ (K1:Int)<=0:=by omega
 have q8:¬ K1=0:=by omega
 clear hv hK hK1;go_wp2_with fail;refine(AD D N cc xs p (K1:Int) hr.out _ Y.out (by omega)).mono ?_;rintro e w2 ⟨rfl,B⟩;replace Y:=hid (Y.out.step B);replace H:=hid (Aa H.out B);clear B;go_wp2_with fail;refine(AJ D N cc xs p (K1:Int) hr.out _ Y.out (by omega)).mono ?_;rintro e w3 ⟨rfl,B⟩;replace Y:=hid (Y.out.step B);replace H:=hid (Aa H.out B);clear B;go_wp2
 go_loopw [7] (fun i W=>∃ k m:Nat,k<=K/\i=.int .i64 k/\w3.drewN m=W) (fun i _=>K-(RowKit.intOf i).toNat)
 case atStart=>exact⟨0,0,Nat.zero_le _,rfl,rfl⟩
 case round =>
  obtain⟨k,m,hk,rfl,hW⟩:=hrel;have Y1:=Y.out.step (hW▸Ai (Ac w3) m:Below w3.heap.size w3 wr);have H1:=hid (Aa H.out (hW▸Ai (Ac w3) m:Below w3.heap.size w3 wr));replace hW:=hid hW;by_cases hlt:k<K
  . have g0:decide ((k:Int)<(K:Int))=true:=decide_eq_true (by omega);have g1:decide (k<K)=true:=decide_eq_true hlt;obtain⟨b,off,rfl,_,hc⟩:=Y1.2 (by omega);have a1:=(hc k (by omega)).c1;have b1:=(hc K hin).c1;have hs:=hsc.out k hlt;have hkN:k<N:=by omega
    generalize (xs.getD k ez).s=zk at *;generalize (xs.getD K ez).s=zK at *;have gs:decide (zK<zk)=false:=decide_eq_false (by omega);clear hc Y1 hs;go_wp2_with fail
    go_quiet (fail)
    go_wp2
    go_roundw
    case rel=>exact⟨k+1,m+_,by omega,by go_num,by rw[<- hW.out]; exact Ao w3 m _⟩
    case measure=>simp[RowKit.intOf]; omega
  . obtain rfl:k=K:=by omega
    have g0:decide ((k:Int)<(k:Int))=false:=decide_eq_false (by omega);clear Y1;go_wp2;go_ret;exact⟨rfl,H1.out⟩
end Go.Proofs.Ytgghhedkephohaa
