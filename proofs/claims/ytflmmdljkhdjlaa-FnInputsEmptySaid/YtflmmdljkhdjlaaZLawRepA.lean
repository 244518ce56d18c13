import Derived.Test.YtflmmdljkhdjlaaZRepSame
set_option linter.all false
set_option maxRecDepth 100000
set_option maxHeartbeats 8000000
open Go.Lib
namespace Go.Proofs.Ytflmmdljkhdjlaa
open Go.RowKit
open M
theorem Fe(a:Option Addr)(len cap:Nat)(zs:List Int)(w:World)(h:IsRow .u8 w a len cap zs) :
 Calls Try.prog 3 #[.slice a len cap] w fun e w'=>e=.returned (.bool true)/\Below w.heap.size w w':=by
 have hm:=h.bytes.1;have hm2:=h.bytes.2.1;unfold maxLen at hm2;by_cases g:1048576<len
 . have g1:(1048576:Int)<(len:Int):=by omega
   go_enter Try.func3,Try.ntmps3;go_wp2;go_ret;exact⟨rfl,Below.refl _ _⟩
 have g1:(len:Int)<=1048576:=by omega
 clear g hm hm2;go_enter Try.func3,Try.ntmps3;go_wp2_with fail;refine(Cz a len cap zs w h).mono ?_;rintro e w1 ⟨D,N,cc,xs,rfl,⟨hN,hNc⟩,Y,B⟩;have H:=hid B;clear B h;have hxl:=Y.1;have hlen:=BZ xs;obtain⟨ps,hps⟩:∃ ps,AQ xs=ps:=⟨_,rfl⟩;rw[hps] at hlen;obtain⟨L,hL⟩:∃ L,ps.length=L:=⟨_,rfl⟩;have V:=hid (fun W (Z:Inputs W D N xs)=>Bu D N cc xs ps L hps hL W Z (by omega));have S:=hid (fun W (Z:Inputs W D N xs)=>CI D N cc xs ps L hps hL W Z (by omega));replace Y:=hid Y;have hL60:L<=1048576:=by omega
 by_cases h0:L=0
 . subst h0;go_wp2_with fail;refine(V.out _ Y.out).mono ?_;rintro e w2 ⟨A1,c1,rfl,I1,M1,hc1,B⟩;replace Y:=hid (Y.out.step B);replace I1:=hid I1;replace H:=hid (Aa H.out B);clear B;go_wp2_with fail;refine(S.out _ Y.out).mono ?_;rintro e w3 ⟨A2,c2,rfl,I2,M2,hc2,B⟩;replace Y:=hid (Y.out.step B);replace I1:=hid (I1.out.step B);replace I2:=hid I2;replace H:=hid (Aa H.out B);clear B;go_wp2_with fail;refine((Ay A1 A2 0 c1 c2 ps _ I1.out I2.out hL60)).mono ?_;rintro e w4 ⟨rfl,B⟩;replace Y:=hid (Y.out.step B);replace I1:=hid (I1.out.step B);replace I2:=hid (I2.out.step B);replace H:=hid (Aa H.out B);clear B;go_wp2_with fail
   refine((Ay A1 A2 0 c1 c2 ps _ I1.out I2.out hL60)).mono ?_;rintro e w5 ⟨rfl,B⟩;replace Y:=hid (Y.out.step B);replace I1:=hid (I1.out.step B);replace I2:=hid (I2.out.step B);replace H:=hid (Aa H.out B);clear B;go_wp2;go_ret;exact⟨rfl,H.out⟩
 have ok:Ce xs=true:=by
  cases ok:Ce xs
  . rw[AQ,ok] at hps; subst hps; simp at hL; omega
  . rfl
 have hri:Az ps=some xs:=by rw[<- hps,AQ,ok]; exact Fu ok
 have T:=hid (fun W A c (Z:Parts W A L ps)=>Cl A L c ps xs N hri hxl W Z (by omega));have h0b:((L:Int)==0)=false:=by simpa using h0
 have h0c:(L==0)=false:=by simpa using h0
 clear hri ok hps h0 hL hlen hxl;go_wp2_with fail;refine(V.out _ Y.out).mono ?_;rintro e w2 ⟨A1,c1,rfl,I1,M1,hc1,B⟩;replace Y:=hid (Y.out.step B);replace I1:=hid I1;replace H:=hid (Aa H.out B);clear B;go_wp2_with fail;refine(S.out _ Y.out).mono ?_;rintro e w3 ⟨A2,c2,rfl,I2,M2,hc2,B⟩;replace Y:=hid (Y.out.step B);replace I1:=hid (I1.out.step B);replace I2:=hid I2;replace H:=hid (Aa H.out B);clear B;go_wp2_with fail;refine((Ay A1 A2 L c1 c2 ps _ I1.out I2.out hL60)).mono ?_;rintro e w4 ⟨rfl,B⟩;replace Y:=hid (Y.out.step B);replace I1:=hid (I1.out.step B);replace I2:=hid (I2.out.step B);replace H:=hid (Aa H.out B);clear B
 go_wp2_with fail;refine(T.out _ _ _ I1.out).mono ?_;rintro e w5 ⟨A3,c3,rfl,I3,M3,hc3,B⟩;replace Y:=hid (Y.out.step B);replace I1:=hid (I1.out.step B);replace I2:=hid (I2.out.step B);replace I3:=hid I3;replace H:=hid (Aa H.out B);clear B;go_wp2_with fail;refine(Au A3 D N c3 cc xs _ I3.out Y.out (by omega)).mono ?_;rintro e w6 ⟨rfl,B⟩;replace Y:=hid (Y.out.step B);replace I1:=hid (I1.out.step B);replace I2:=hid (I2.out.step B);replace I3:=hid (I3.out.step B);replace H:=hid (Aa H.out B);clear B;go_wp2;go_ret;exact⟨rfl,H.out⟩
theorem Dd(a:Option Addr)(len cap:Nat)(zs:List Int)(w:World)(h:IsRow .u8 w a len cap zs) :
 Calls Try.prog 4 #[.slice a len cap] w fun e w'=>e=.returned (.bool true)/\Below w.heap.size w w':=by
 have hm:=h.bytes.1;have hm2:=h.bytes.2.1;unfold maxLen at hm2;by_cases g:1048576<len
 . have g1:(1048576:Int)<(len:Int):=by omega
   go_enter Try.func4,Try.ntmps4;go_wp2;go_ret;exact⟨rfl,Below.refl _ _⟩
 have g1:(len:Int)<=1048576:=by omega
 clear g hm hm2;go_enter Try.func4,Try.ntmps4;go_wp2_with fail;refine(B0 a len cap zs w h).mono ?_;rintro e w1 ⟨D,N,cc,ps,rfl,⟨hN,hNc⟩,Y,B⟩;have H:=hid B;clear B h;have hpl:=Y.1;replace Y:=hid Y;cases hri:Az ps
 . have V:=hid (fun W (Z:Parts W D N ps)=>Bq D N cc ps hri W Z (by omega));have S:=hid (fun W (Z:Parts W D N ps)=>Er D N cc ps hri W Z (by omega));go_wp2_with fail;refine(V.out _ Y.out).mono ?_;rintro e w2 ⟨A1,c1,rfl,I1,M1,hc1,B⟩;replace Y:=hid (Y.out.step B);replace I1:=hid I1;replace H:=hid (Aa H.out B);clear B;go_wp2_with fail;refine(S.out _ Y.out).mono ?_;rintro e w3 ⟨A2,c2,rfl,I2,M2,hc2,B⟩;replace Y:=hid (Y.out.step B);replace I1:=hid (I1.out.step B);replace I2:=hid I2;replace H:=hid (Aa H.out B);clear B;go_wp2_with fail;refine(Au A1 A2 0 c1 c2 _ _ I1.out I2.out (by omega)).mono ?_;rintro e w4 ⟨rfl,B⟩
   replace Y:=hid (Y.out.step B);replace I1:=hid (I1.out.step B);replace I2:=hid (I2.out.step B);replace H:=hid (Aa H.out B);clear B;go_wp2_with fail;refine(Au A1 A2 0 c1 c2 _ _ I1.out I2.out (by omega)).mono ?_;rintro e w5 ⟨rfl,B⟩;replace Y:=hid (Y.out.step B);replace I1:=hid (I1.out.step B);replace I2:=hid (I2.out.step B);replace H:=hid (Aa H.out B);clear B;go_wp2;go_ret;exact⟨rfl,H.out⟩
 rename_i xs;obtain⟨ok,hpp,hfi⟩:=BF hri;have hx60:=(AP.1 ok).2;obtain⟨M,hM⟩:∃ M,xs.length=M:=⟨_,rfl⟩;rw[hM] at hx60;have V:=hid (fun W (Z:Parts W D N ps)=>Cl D N cc ps xs M hri hM W Z (by omega));have S:=hid (fun W (Z:Parts W D N ps)=>Ep D N cc ps xs M hri hM W Z (by omega));have hrp:AQ xs=ps:=by rw[AQ,ok]; exact hpp
 have T:=hid (fun W A c (Z:Inputs W A M xs)=>Bu A M c xs ps N hrp hpl W Z (by omega));have hd:decide ((M:Int)<=60)=true:=decide_eq_true (by omega);clear hrp hpp hfi ok hri;go_wp2_with fail;refine(V.out _ Y.out).mono ?_;rintro e w2 ⟨A1,c1,rfl,I1,M1,hc1,B⟩;replace Y:=hid (Y.out.step B);replace I1:=hid I1;replace H:=hid (Aa H.out B);clear B;go_wp2_with fail;refine(S.out _ Y.out).mono ?_;rintro e w3 ⟨A2,c2,rfl,I2,M2,hc2,B⟩;replace Y:=hid (Y.out.step B);replace I1:=hid (I1.out.step B);replace I2:=hid I2;replace H:=hid (Aa H.out B);clear B;go_wp2_with fail;refine(Au A1 A2 M c1 c2 _ _ I1.out I2.out (by omega)).mono ?_
 rintro e w4 ⟨rfl,B⟩;replace Y:=hid (Y.out.step B);replace I1:=hid (I1.out.step B);replace I2:=hid (I2.out.step B);replace H:=hid (Aa H.out B);clear B;go_wp2_with fail;refine(T.out _ _ _ I1.out).mono ?_;rintro e w5 ⟨A3,c3,rfl,I3,M3,hc3,B⟩;replace Y:=hid (Y.out.step B);replace I1:=hid (I1.out.step B);replace I2:=hid (I2.out.step B);replace I3:=hid I3;replace H:=hid (Aa H.out B);clear B;go_wp2_with fail;refine(Ay A3 D N c3 cc ps _ I3.out Y.out (by omega)).mono ?_;rintro e w6 ⟨rfl,B⟩;replace Y:=hid (Y.out.step B);replace I1:=hid (I1.out.step B);replace I2:=hid (I2.out.step B);replace I3:=hid (I3.out.step B)
 replace H:=hid (Aa H.out B);clear B;go_wp2;go_ret;exact⟨rfl,H.out⟩
theorem CE(a:Option Addr)(len cap:Nat)(zs:List Int)(w:World)(h:IsRow .u8 w a len cap zs) :
 Calls Try.prog 10 #[.slice a len cap] w fun e w'=>e=.returned (.bool true)/\Below w.heap.size w w':=by
 have hm:=h.bytes.1;have hm2:=h.bytes.2.1;unfold maxLen at hm2;by_cases g:1048576<len
 . have g1:(1048576:Int)<(len:Int):=by omega
   go_enter Try.func10,Try.ntmps10;go_wp2;go_ret;exact⟨rfl,Below.refl _ _⟩
 have g1:(len:Int)<=1048576:=by omega
 clear g hm hm2;go_enter Try.func10,Try.ntmps10;go_wp2_with fail;refine(B0 a len cap zs w h).mono ?_;rintro e w1 ⟨D,N,cc,ps,rfl,⟨hN,hNc⟩,Y,B⟩;have H:=hid B;clear B h;have hpl:=Y.1;replace Y:=hid Y;cases hri:Az ps
 . have V:=hid (fun W (Z:Parts W D N ps)=>Bq D N cc ps hri W Z (by omega));have S:=hid (fun W (Z:Parts W D N ps)=>Er D N cc ps hri W Z (by omega));go_wp2_with fail;refine(V.out _ Y.out).mono ?_;rintro e w2 ⟨A1,c1,rfl,I1,M1,hc1,B⟩;replace Y:=hid (Y.out.step B);replace I1:=hid I1;replace H:=hid (Aa H.out B);clear B;go_wp2_with fail;refine(S.out _ Y.out).mono ?_;rintro e w3 ⟨A2,c2,rfl,I2,M2,hc2,B⟩;replace Y:=hid (Y.out.step B);replace I1:=hid (I1.out.step B);replace I2:=hid I2;replace H:=hid (Aa H.out B);clear B;go_wp2_with fail;refine(Au A1 A2 0 c1 c2 _ _ I1.out I2.out (by omega)).mono ?_;rintro e w4 ⟨rfl,B⟩
   replace Y:=hid (Y.out.step B);replace I1:=hid (I1.out.step B);replace I2:=hid (I2.out.step B);replace H:=hid (Aa H.out B);clear B;go_wp2_with fail;refine(Au A1 A2 0 c1 c2 _ _ I1.out I2.out (by omega)).mono ?_;rintro e w5 ⟨rfl,B⟩;replace Y:=hid (Y.out.step B);replace I1:=hid (I1.out.step B);replace I2:=hid (I2.out.step B);replace H:=hid (Aa H.out B);clear B;go_wp2;go_ret;exact⟨rfl,H.out⟩
 rename_i xs;obtain⟨ok,hpp,hfi⟩:=BF hri;have hx60:=(AP.1 ok).2;obtain⟨M,hM⟩:∃ M,xs.length=M:=⟨_,rfl⟩;rw[hM] at hx60;have V:=hid (fun W (Z:Parts W D N ps)=>Cl D N cc ps xs M hri hM W Z (by omega));have S:=hid (fun W (Z:Parts W D N ps)=>Ep D N cc ps xs M hri hM W Z (by omega));have T:=hid (fun W A c (Z:Parts W A 0 [])=>Cl A 0 c [] [] 0 rfl rfl W Z (by omega));have U:=hid (fun W A c (Z:Inputs W A 0 [])=>Bu A 0 c [] [] 0 rfl rfl W Z (by omega));clear hpp hfi ok hri;go_wp2_with fail;refine(V.out _ Y.out).mono ?_;rintro e w2 ⟨A1,c1,rfl,I1,M1,hc1,B⟩;replace Y:=hid (Y.out.step B);replace I1:=hid I1
 replace H:=hid (Aa H.out B);clear B;go_wp2_with fail;refine(S.out _ Y.out).mono ?_;rintro e w3 ⟨A2,c2,rfl,I2,M2,hc2,B⟩;replace Y:=hid (Y.out.step B);replace I1:=hid (I1.out.step B);replace I2:=hid I2;replace H:=hid (Aa H.out B);clear B;go_wp2_with fail;refine(Au A1 A2 M c1 c2 _ _ I1.out I2.out (by omega)).mono ?_;rintro e w4 ⟨rfl,B⟩;replace Y:=hid (Y.out.step B);replace I1:=hid (I1.out.step B);replace I2:=hid (I2.out.step B);replace H:=hid (Aa H.out B);clear B;go_wp2_with fail;refine(T.out _ _ _ (Parts.nil _ _)).mono ?_;rintro e w5 ⟨A3,c3,rfl,I3,M3,hc3,B⟩;replace H:=hid (Aa (Ab H.out _) B);replace I3:=hid I3
 clear B;go_wp2_with fail;refine(U.out _ _ _ I3.out).mono ?_;rintro e w6 ⟨A4,c4,rfl,I4,M4,hc4,B⟩;replace I3:=hid (I3.out.step B);replace H:=hid (Aa H.out B);clear B;go_wp2;go_ret;exact⟨rfl,H.out⟩
end Go.Proofs.Ytflmmdljkhdjlaa
