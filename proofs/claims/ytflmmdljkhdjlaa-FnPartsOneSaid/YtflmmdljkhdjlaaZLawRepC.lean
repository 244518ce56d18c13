import Derived.Test.YtflmmdljkhdjlaaZRepSame
import Derived.Test.YtflmmdljkhdjlaaZDrawRepA
set_option linter.all false
set_option maxRecDepth 100000
set_option maxHeartbeats 8000000
open Go.Lib
namespace Go.Proofs.Ytflmmdljkhdjlaa
open Go.RowKit
open M
theorem M.rp_rep{q:In}{m:Nat}(h:Bp q.s q.p q.z=true)(hm:m+1<=60):AQ (List.replicate (m+1) q)=[⟨FD q,((m+1:Nat):Int)⟩]:=by
 have ok:Ce (List.replicate (m+1) q)=true:=AP.2 ⟨by simp only[List.all_eq_true,List.mem_replicate]; rintro x ⟨_,rfl⟩; exact h,by simp; omega⟩;have e:An (List.replicate (m+1) q)=List.replicate (m+1) (FD q)++[]:=by simp[An]
 rw[AQ,ok,e];simp only[if_true];rw[Fs (FD q) [] (by simp) m];simp[Bj]
theorem Du(a:Option Addr)(len cap:Nat)(zs:List Int)(a2:Option Addr)(len2 cap2:Nat)(zs2:List Int)(w:World)(h:IsRow .u8 w a len cap zs)(h2:IsRow .u8 w a2 len2 cap2 zs2) :
 Calls Try.prog 6 #[.slice a len cap,.slice a2 len2 cap2] w fun e w'=>e=.returned (.bool true)/\Below w.heap.size w w':=by
 have hm:=h.bytes.1;have hm2:=h.bytes.2.1;unfold maxLen at hm2;have hn:=h2.bytes.1;have hn2:=h2.bytes.2.1;unfold maxLen at hn2;clear h2;by_cases g:1048576<len
 . have g1:(1048576:Int)<(len:Int):=by omega
   go_enter Try.func6,Try.ntmps6;go_wp2;go_ret;exact⟨rfl,Below.refl _ _⟩
 have g1:(len:Int)<=1048576:=by omega
 by_cases k:1048576<len2
 . have k1:(1048576:Int)<(len2:Int):=by omega
   go_enter Try.func6,Try.ntmps6;go_wp2;go_ret;exact⟨rfl,Below.refl _ _⟩
 have k1:(len2:Int)<=1048576:=by omega
 clear k hn hn2;clear g hm hm2;go_enter Try.func6,Try.ntmps6;go_wp2_with fail;refine(Cz a len cap zs w h).mono ?_;rintro e w1 ⟨D,N,cc,xs,rfl,⟨hN,hNc⟩,Y,B⟩;have H:=hid B;clear B h;have hxl:=Y.1;have hlen:=BZ xs;obtain⟨ps,hps⟩:∃ ps,AQ xs=ps:=⟨_,rfl⟩;rw[hps] at hlen;obtain⟨L,hL⟩:∃ L,ps.length=L:=⟨_,rfl⟩;have V:=hid (fun W (Z:Inputs W D N xs)=>Bu D N cc xs ps L hps hL W Z (by omega));have S:=hid (fun W (Z:Inputs W D N xs)=>CI D N cc xs ps L hps hL W Z (by omega));replace Y:=hid Y;have hL60:L<=1048576:=by omega
 by_cases h0:L=0
 . subst h0;go_wp2_with fail;refine(V.out _ Y.out).mono ?_;rintro e w2 ⟨A1,c1,rfl,I1,M1,hc1,B⟩;replace Y:=hid (Y.out.step B);replace I1:=hid I1;replace H:=hid (Aa H.out B);clear B;go_wp2_with fail;refine(S.out _ Y.out).mono ?_;rintro e w3 ⟨A2,c2,rfl,I2,M2,hc2,B⟩;replace Y:=hid (Y.out.step B);replace I1:=hid (I1.out.step B);replace I2:=hid I2;replace H:=hid (Aa H.out B);clear B;go_wp2_with fail;refine((Ay A1 A2 0 c1 c2 ps _ I1.out I2.out hL60)).mono ?_;rintro e w4 ⟨rfl,B⟩;replace Y:=hid (Y.out.step B);replace I1:=hid (I1.out.step B);replace I2:=hid (I2.out.step B);replace H:=hid (Aa H.out B);clear B;go_wp2_with fail
   refine((Ay A1 A2 0 c1 c2 ps _ I1.out I2.out hL60)).mono ?_;rintro e w5 ⟨rfl,B⟩;replace Y:=hid (Y.out.step B);replace I1:=hid (I1.out.step B);replace I2:=hid (I2.out.step B);replace H:=hid (Aa H.out B);clear B;go_wp2;go_ret;exact⟨rfl,H.out⟩
 have ok:Ce xs=true:=by
  cases ok:Ce xs
  . rw[AQ,ok] at hps; subst hps; simp at hL; omega
  . rfl
 have hN0:0<N:=by
  rcases Nat.eq_zero_or_pos N with h | h
  . subst h; have:xs=[]:=List.eq_nil_of_length_eq_zero hxl; subst this; subst hps; simp[AQ,Ce,An,Bj] at hL; omega
  . exact h
 have hv:=valid_at (xs:=xs) (k:=0) (by omega) ok;have C0:=fun W=>Cq (xs.getD 0 iz).s (xs.getD 0 iz).p (xs.getD 0 iz).z W;rw[DX hv] at C0;have hrr:=fun m h=>rp_rep (q:=xs.getD 0 iz) (m:=m) hv h;have hcell:∀ W,Inputs W D N xs->∃ b off,D=some ⟨b,off,none⟩/\b<W.heap.size/\InAt W b off (xs.getD 0 iz):=fun W Z=>by
  obtain⟨b,off,e,hb,hc⟩:=Z.2 hN0;have:=hc 0 hN0;rw[Nat.zero_mul,Nat.add_zero] at this;exact⟨b,off,e,hb,this⟩
 have h0b:((L:Int)==0)=false:=by simpa using h0
 have h0c:(L==0)=false:=by simpa using h0
 obtain⟨m,hm⟩:∃ m:Nat,(len2:Int) % 60=(m:Int):=⟨len2 % 60,by omega⟩;have hm60:m+1<=60:=by omega
 have hw1:IntKind.i64.wrap (1+(m:Int))=((m+1:Nat):Int):=by rw[IntWalk.i64_in _ (by omega)]; omega
 generalize xs.getD 0 iz=q at *;obtain⟨qs,qp,qz⟩:=q;have U:=hid (fun W A c (Z:Inputs W A (m+1) (List.replicate (m+1) ⟨qs,qp,qz⟩))=>Bu A (m+1) c (List.replicate (m+1) ⟨qs,qp,qz⟩) [⟨FC qs qp qz,((m+1:Nat):Int)⟩] 1 (hrr m hm60) rfl W Z (by omega));simp only at C0;generalize FC qs qp qz=cd at *;replace C0:=hid C0;replace hcell:=hid hcell;clear ok hps h0 hL hlen hrr hv;go_wp2_with fail;refine(V.out _ Y.out).mono ?_;rintro e w2 ⟨A1,c1,rfl,I1,M1,hc1,B⟩;replace Y:=hid (Y.out.step B);replace I1:=hid I1;replace H:=hid (Aa H.out B);clear B;go_wp2_with fail;refine(S.out _ Y.out).mono ?_;rintro e w3 ⟨A2,c2,rfl,I2,M2,hc2,B⟩
 replace Y:=hid (Y.out.step B);replace I1:=hid (I1.out.step B);replace I2:=hid I2;replace H:=hid (Aa H.out B);clear B;go_wp2_with fail;refine((Ay A1 A2 L c1 c2 ps _ I1.out I2.out hL60)).mono ?_;rintro e w4 ⟨rfl,B⟩;replace Y:=hid (Y.out.step B);replace I1:=hid (I1.out.step B);replace I2:=hid (I2.out.step B);replace H:=hid (Aa H.out B);clear B;have HO:(w4.alloc (.cells #[] 36)).ownsRow w4.heap.size 36 3 (.slice (some ⟨w4.heap.size,0,none⟩) 0 0) 0 (Ba (List.replicate 0 ⟨qs,qp,qz⟩)):=AJ w4 _ _ rfl (Nat.le_refl _);have HB:=Ab (Ac w4) (.cells #[] 36);replace HO:=hid HO;replace HB:=hid HB;go_upto_region 9 with fail
 clear hm hw1;go_wp2
 go_loopw [9,10] (fun ov iv W=>∃ k:Nat,k<=m+1/\iv=.int .i64 k/\W.ownsRow w4.heap.size 36 3 ov k (Ba (List.replicate k ⟨qs,qp,qz⟩))/\Below w4.heap.size w4 W) (fun _ i _=>m+1-(intOf i).toNat)
 case atStart=>exact⟨0,Nat.zero_le _,rfl,HO.out,HB.out⟩
 case round =>
  clear HO HB;obtain⟨k,hk,rfl,O,B4⟩:=hrel;obtain⟨b,off,rfl,hb,hx⟩:=hcell.out _ (Y.out.step B4);obtain⟨x0,x1,x2⟩:=hx;simp only at x0 x1 x2;obtain⟨Ao,co,hvo,JO,MO⟩:=Inputs.of_own O;subst hvo;replace O:=hid O;replace B4:=hid B4;by_cases hlt:k<m+1
  . have hz:=B4.out.size;have hkb:k+1<=10000000:=by omega
    clear JO MO;go_wp2_with (at_builtin; refine Ds _ rfl (.tmp 47) (.tmp 51) rfl w4.heap.size (Value.slice Ao k co) k (List.replicate k ⟨qs,qp,qz⟩) rfl (O.out.alloc _) _ 1 1 [⟨qs,qp,qz⟩] rfl (Inputs.one _ _ qs qp qz _ rfl) hkb (by simp; omega) ?_);intro v' w9 O9 G9 _;have B9:=(Ab B4.out _).grown G9 (by simp; omega) (fun g' e=>(O.out.lt g' e).1);have O9:=hid (show w9.ownsRow w4.heap.size 36 3 v' (k+1) (Ba (List.replicate (k+1) ⟨qs,qp,qz⟩)) from by rw[List.replicate_succ']; exact O9);replace B9:=hid B9;clear G9 O B4 x0 x1 x2;go_wp2
    go_roundw
    case rel=>exact⟨k+1,by omega,by go_num,O9.out,B9.out⟩
    case measure=>simp[intOf]; omega
  obtain rfl:k=m+1:=by omega
  replace I1:=hid (I1.out.step B4.out);replace H:=hid (Aa H.out B4.out);replace JO:=hid JO;clear O B4 MO I2 Y V S;go_wp2_with fail;refine wp_region_held_drew (S:=fun w'=>(w'.cell? ⟨b,off,none⟩=some (.int .i64 qs)/\w'.cell? ⟨b,off+1,none⟩=some (.int .i64 qp)/\w'.cell? ⟨b,off+2,none⟩=some (.bool qz))/\b<w'.heap.size) (by kernel_rfl) ⟨⟨x0,x1,x2⟩,hb⟩ (fun hHeld=>?_);have hx:InAt wr.drew b off ⟨qs,qp,qz⟩:=⟨x0,x1,x2⟩;have hb1:b<wr.drew.heap.size:=hb;clear x0 x1 x2;refine tl 0 ?_ ?_ hHeld ?_;rotate_left
  . intro w hSw
    try dsimp only at hSw
    go_simp
    all_goals with_reducible rfl
  try simp only[Act.put,sx]
  refine tl 2 ?_ ?_ hHeld ?_;rotate_left
  . intro w hSw
    try dsimp only at hSw
    go_simp
    all_goals with_reducible rfl
  try simp only[Act.put,sx]
  refine tl 3 ?_ ?_ hHeld ?_;rotate_left
  . intro w hSw
    try dsimp only at hSw
    go_simp
    all_goals with_reducible rfl
  try simp only[Act.put,sx]
  refine tl 4 ?_ ?_ hHeld ?_;rotate_left
  . intro w hSw;obtain⟨⟨x0,x1,x2⟩,_⟩:=hSw;go_simp
    all_goals with_reducible rfl
  try simp only[Act.put,sx]
  refine tl 6 ?_ ?_ hHeld ?_;rotate_left
  . intro w hSw
    try dsimp only at hSw
    go_simp
    all_goals with_reducible rfl
  try simp only[Act.put,sx]
  refine wpAnyH_ready (rs:=[1]) (by kernel_rfl) (by simp) ?_;apply AllReadyH.cons rfl ?_ AllReadyH.nil;intro K hK;go_simp
  go_at_call 17
  refine(U.out _ _ _ (JO.out.drew)).mono ?_;rintro e w6 ⟨A3,c3,rfl,I3,M3,hc3,B6⟩;have hx6:=hx.of (B6.block b hb1);have hb6:=Nat.lt_of_lt_of_le hb1 B6.size;replace I3:=hid I3;have H6:=hid (Aa (AD H.out) B6);clear B6 hHeld;go_wp2_with fail;refine hK.out _ _ ⟨⟨hx6.c0,hx6.c1,hx6.c2⟩,hb6⟩ (fun hHeld=>?_);clear hK K
  try simp only[Act.put,sx]
  refine wpAnyH_ready (rs:=[5]) (by kernel_rfl) (by simp) ?_;apply AllReadyH.cons rfl ?_ AllReadyH.nil;intro K hK;go_simp
  go_at_call 24
  refine(C0.out _).mono ?_;rintro e w7 ⟨rfl,B7⟩;have hx7:=hx6.of (B7.block b hb6);have hb7:=Nat.lt_of_lt_of_le hb6 B7.size;have I37:=hid (I3.out.step B7);have H7:=hid (Aa H6.out B7);clear B7 hHeld;go_wp2_with fail;refine hK.out _ _ ⟨⟨hx7.c0,hx7.c1,hx7.c2⟩,hb7⟩ (fun hHeld=>?_);clear hK K
  try simp only[Act.put,sx]
  refine tl 7 ?_ ?_ hHeld ?_;rotate_left
  . intro w hSw
    try dsimp only at hSw
    go_simp
    all_goals with_reducible rfl
  try simp only[Act.put,sx]
  refine wpAnyH_ready (rs:=[8]) (by kernel_rfl) (by simp) ?_;apply AllReadyH.cons rfl ?_ AllReadyH.nil;intro K hK;go_simp;have hx8:∀ ob,InAt (w7.alloc ob) b off ⟨qs,qp,qz⟩:=fun ob=>hx7.of ((Ab (Ac w7) ob).block b hb7);have hb8:∀ ob,b<(w7.alloc ob).heap.size:=fun ob=>by simp; omega
  refine hK.out _ _ ⟨⟨(hx8 _).c0,(hx8 _).c1,(hx8 _).c2⟩,hb8 _⟩ (fun hHeld=>?_);clear hK K
  try simp only[Act.put,sx]
  refine wpAnyH_ready (rs:=[9]) (by kernel_rfl) (by simp) ?_;apply AllReadyH.cons rfl ?_ AllReadyH.nil;intro K hK;go_simp
  go_at_call 19
  refine(Ay A3 _ 1 c3 1 _ _ (I37.out.alloc _) (Parts.one w7 _ cd _ _ rfl) (by omega)).mono ?_;rintro e w8 ⟨rfl,B8⟩;have hx9:=(hx8 _).of (B8.block b (hb8 _));have hb9:=Nat.lt_of_lt_of_le (hb8 _) B8.size;have H8:=hid (Aa (Ab H7.out _) B8);clear B8 hHeld;go_wp2_with fail;refine hK.out _ _ ⟨⟨hx9.c0,hx9.c1,hx9.c2⟩,hb9⟩ (fun hHeld=>?_);clear hK K
  try simp only[Act.put,sx]
  refine tl 10 ?_ ?_ hHeld ?_;rotate_left
  . intro w hSw
    try dsimp only at hSw
    go_simp
    all_goals with_reducible rfl
  try simp only[Act.put,sx]
  refine wpAnyH_done (by kernel_rfl) ?_ _;go_wp2;go_ret;exact⟨rfl,H8.out⟩
end Go.Proofs.Ytflmmdljkhdjlaa
