import Derived.Test.YtflmmdljkhdjlaaZRepSame
import Derived.Test.YtflmmdljkhdjlaaZDrawRepE
set_option linter.all false
set_option maxRecDepth 100000
set_option maxHeartbeats 8000000
open Go.Lib
namespace Go.Proofs.Ytflmmdljkhdjlaa
open Go.RowKit
open M
theorem Ints.drop{w:World}{b off:Nat}{n:Nat}{xs:List Int}(h:Ints w (some ⟨b,off,none⟩) n xs)(j:Nat):Ints w (some ⟨b,off+j,none⟩) (n-j) (xs.drop j) :=
 ⟨by rw[List.length_drop,h.1],fun hn=>by
  obtain⟨b',off',e,hb,hc⟩:=h.2 (by omega);cases e
  refine⟨b,off+j,rfl,hb,fun k hk=>?_⟩;have t:=hc (j+k) (by omega);have e2:(xs.drop j).getD k 0=xs.getD (j+k) 0:=by simp[List.getD_eq_getElem?_getD]
  rw[e2,show off+j+k=off+(j+k) by omega];exact t⟩
theorem M.repL_at{l p s:Int}{xs:List In}{hs:List Int}{t:Int}{k:Nat}(h:k<xs.length):(repL ⟨l,p,s,xs,hs,t⟩).getD (4+k) 0=FD (xs.getD k iz):=by
 have e:repL ⟨l,p,s,xs,hs,t⟩=l::p::s::(xs.length:Int)::(An xs++hs):=by simp[repL]
 rw[e,show 4+k=k+1+1+1+1 by omega];simp only[List.getD_cons_succ];rw[List.getD_eq_getElem?_getD,List.getElem?_append_left (by simp[An]; omega),List.getD_eq_getElem?_getD,List.getElem?_eq_getElem h];simp[An,h]
theorem FO(a:Option Addr)(len cap:Nat)(zs:List Int)(w:World)(h:IsRow .u8 w a len cap zs) :
 Calls Try.prog 7 #[.slice a len cap] w fun e w'=>e=.returned (.bool true)/\Below w.heap.size w w':=by
 have hm:=h.bytes.1;have hm2:=h.bytes.2.1;unfold maxLen at hm2;by_cases g:1048576<len
 . have g1:(1048576:Int)<(len:Int):=by omega
   go_enter Try.func7,Try.ntmps7;go_wp2;go_ret;exact⟨rfl,Below.refl _ _⟩
 have g1:(len:Int)<=1048576:=by omega
 clear g hm hm2;go_enter Try.func7,Try.ntmps7;go_wp2_with fail;refine(DU a len cap zs w h).mono ?_;rintro e w1 ⟨l,p,s,A,n,c,HH,m,d,t,xs,hs,rfl,⟨hn,hm⟩,Y,Z,MA,MH,B⟩;have H:=hid (Ab B (.cells #[.int .i64 l,.int .i64 p,.int .i64 s,.slice A n c,.slice HH m d,.int .i64 t] 41));have hxl:=Y.1;have hhl:=Z.1;replace Y:=hid (Y.alloc (.cells #[.int .i64 l,.int .i64 p,.int .i64 s,.slice A n c,.slice HH m d,.int .i64 t] 41));replace Z:=hid (Z.step (Ab (Ac w1) (.cells #[.int .i64 l,.int .i64 p,.int .i64 s,.slice A n c,.slice HH m d,.int .i64 t] 41)))
 have D:CellsAt (w1.alloc (.cells #[.int .i64 l,.int .i64 p,.int .i64 s,.slice A n c,.slice HH m d,.int .i64 t] 41)) w1.heap.size (Be l p s A n c HH m d t):=CellsAt.new _ _ _ _ rfl;clear B h MA MH;obtain⟨ns,hns⟩:∃ ns,rlist ⟨l,p,s,xs,hs,t⟩=ns:=⟨_,rfl⟩;obtain⟨L,hL⟩:∃ L,ns.length=L:=⟨_,rfl⟩;have hL2:L<=1048576:=by rw[<- hL,<- hns]; unfold rlist repL; split<;>simp[An,hxl,hhl]<;>omega
 have V:=hid (fun W (Q:Inputs W A n xs) (X:Ints W HH m hs)=>CH l p s A n c HH m d t xs hs ns L hns hL W Q X (by omega) (by omega));have S:=hid (fun W (Q:Inputs W A n xs) (X:Ints W HH m hs)=>Es l p s A n c HH m d t xs hs ns L hns hL W Q X (by omega) (by omega));by_cases h0:L=0
 . subst h0;have Dc0:=D.cell 0 _ rfl;have Dc1:=D.cell 1 _ rfl;have Dc2:=D.cell 2 _ rfl;have Dc3:=D.cell 3 _ rfl;have Dc4:=D.cell 4 _ rfl;have Dc5:=D.cell 5 _ rfl;have Dl:=D.lt;go_wp2_with fail;refine(V.out _ Y.out Z.out).mono ?_;rintro e w2 ⟨A1,c1,rfl,I1,M1,hc1,B⟩;clear Dc0 Dc1 Dc2 Dc3 Dc4 Dc5 Dl;replace D:=D.step B;replace Y:=hid (Y.out.step B);replace Z:=hid (Z.out.step B);replace I1:=hid I1;replace H:=hid (Aa H.out B);clear B;have Dc0:=D.cell 0 _ rfl;have Dc1:=D.cell 1 _ rfl;have Dc2:=D.cell 2 _ rfl;have Dc3:=D.cell 3 _ rfl;have Dc4:=D.cell 4 _ rfl;have Dc5:=D.cell 5 _ rfl;have Dl:=D.lt;go_wp2_with fail
   refine(S.out _ Y.out Z.out).mono ?_;rintro e w3 ⟨A2,c2,rfl,I2,M2,hc2,B⟩;clear Dc0 Dc1 Dc2 Dc3 Dc4 Dc5 Dl;replace D:=D.step B;replace Y:=hid (Y.out.step B);replace Z:=hid (Z.out.step B);replace I1:=hid (I1.out.step B);replace I2:=hid I2;replace H:=hid (Aa H.out B);clear B;have Dc0:=D.cell 0 _ rfl;have Dc1:=D.cell 1 _ rfl;have Dc2:=D.cell 2 _ rfl;have Dc3:=D.cell 3 _ rfl;have Dc4:=D.cell 4 _ rfl;have Dc5:=D.cell 5 _ rfl;have Dl:=D.lt;go_wp2_with fail;refine(AA A1 A2 0 c1 c2 ns _ I1.out I2.out (by omega)).mono ?_;rintro e w4 ⟨rfl,B⟩;clear Dc0 Dc1 Dc2 Dc3 Dc4 Dc5 Dl;replace D:=D.step B;replace Y:=hid (Y.out.step B)
   replace Z:=hid (Z.out.step B);replace I1:=hid (I1.out.step B);replace I2:=hid (I2.out.step B);replace H:=hid (Aa H.out B);clear B;have Dc0:=D.cell 0 _ rfl;have Dc1:=D.cell 1 _ rfl;have Dc2:=D.cell 2 _ rfl;have Dc3:=D.cell 3 _ rfl;have Dc4:=D.cell 4 _ rfl;have Dc5:=D.cell 5 _ rfl;have Dl:=D.lt;go_wp2_with fail;refine(AA A1 A2 0 c1 c2 ns _ I1.out I2.out (by omega)).mono ?_;rintro e w5 ⟨rfl,B⟩;clear Dc0 Dc1 Dc2 Dc3 Dc4 Dc5 Dl;replace D:=D.step B;replace Y:=hid (Y.out.step B);replace Z:=hid (Z.out.step B);replace I1:=hid (I1.out.step B);replace I2:=hid (I2.out.step B);replace H:=hid (Aa H.out B);clear B;have Dc0:=D.cell 0 _ rfl
   have Dc1:=D.cell 1 _ rfl;have Dc2:=D.cell 2 _ rfl;have Dc3:=D.cell 3 _ rfl;have Dc4:=D.cell 4 _ rfl;have Dc5:=D.cell 5 _ rfl;have Dl:=D.lt;go_wp2;go_ret;exact⟨rfl,H.out⟩
 have ok:BJ ⟨l,p,s,xs,hs,t⟩=true:=by
  cases ok:BJ ⟨l,p,s,xs,hs,t⟩
  . rw[rlist,ok] at hns; subst hns; simp at hL; omega
  . rfl
 have h0b:((L:Int)==0)=false:=by simpa using h0
 have h0c:(L==0)=false:=by simpa using h0
 have hnr:ns=repL ⟨l,p,s,xs,hs,t⟩:=by rw[<- hns,rlist,ok]; rfl
 have hLe:L=4+n+m:=by rw[<- hL,hnr]; simp[repL,An,hxl,hhl]; omega
 have hx:=(Cc ok).2.2.2.2.1;simp only at hx;have hat:=fun k (h:k<n)=>repL_at (l:=l) (p:=p) (s:=s) (xs:=xs) (hs:=hs) (t:=t) (k:=k) (by omega);rw[<- hnr] at hat;have hva:=fun k (h:k<n)=>valid_at (xs:=xs) (k:=k) (by omega) hx;have ht4:ns.take 4=[l,p,s,(n:Int)]:=by rw[hnr]; simp[repL,hxl]
 have hdr:ns.drop (4+n)=hs:=by rw[hnr]; simp only[repL]; exact List.drop_left' (by simp[An,hxl]; omega)
 replace hat:=hid hat;replace hva:=hid hva;replace ht4:=hid ht4;replace hdr:=hid hdr;replace hLe:=hid hLe;clear ok hns hnr h0 hx;have Dc0:=D.cell 0 _ rfl;have Dc1:=D.cell 1 _ rfl;have Dc2:=D.cell 2 _ rfl;have Dc3:=D.cell 3 _ rfl;have Dc4:=D.cell 4 _ rfl;have Dc5:=D.cell 5 _ rfl;have Dl:=D.lt;go_wp2_with fail;refine(V.out _ Y.out Z.out).mono ?_;rintro e w2 ⟨A1,c1,rfl,I1,M1,hc1,B⟩;clear Dc0 Dc1 Dc2 Dc3 Dc4 Dc5 Dl;replace D:=D.step B;replace Y:=hid (Y.out.step B);replace Z:=hid (Z.out.step B);replace I1:=hid I1;replace H:=hid (Aa H.out B);clear B;have Dc0:=D.cell 0 _ rfl;have Dc1:=D.cell 1 _ rfl;have Dc2:=D.cell 2 _ rfl
 have Dc3:=D.cell 3 _ rfl;have Dc4:=D.cell 4 _ rfl;have Dc5:=D.cell 5 _ rfl;have Dl:=D.lt;go_wp2_with fail;refine(S.out _ Y.out Z.out).mono ?_;rintro e w3 ⟨A2,c2,rfl,I2,M2,hc2,B⟩;clear Dc0 Dc1 Dc2 Dc3 Dc4 Dc5 Dl;replace D:=D.step B;replace Y:=hid (Y.out.step B);replace Z:=hid (Z.out.step B);replace I1:=hid (I1.out.step B);replace I2:=hid I2;replace H:=hid (Aa H.out B);clear B;have Dc0:=D.cell 0 _ rfl;have Dc1:=D.cell 1 _ rfl;have Dc2:=D.cell 2 _ rfl;have Dc3:=D.cell 3 _ rfl;have Dc4:=D.cell 4 _ rfl;have Dc5:=D.cell 5 _ rfl;have Dl:=D.lt;go_wp2_with fail;refine(AA A1 A2 L c1 c2 ns _ I1.out I2.out (by omega)).mono ?_
 rintro e w4 ⟨rfl,B⟩;clear Dc0 Dc1 Dc2 Dc3 Dc4 Dc5 Dl;replace D:=D.step B;replace Y:=hid (Y.out.step B);replace Z:=hid (Z.out.step B);replace I1:=hid (I1.out.step B);replace I2:=hid (I2.out.step B);replace H:=hid (Aa H.out B);clear B;have hwl:=hid (show w1.heap.size<w4.heap.size from D.lt);obtain⟨b1,off1,hA1,hb1,hc1x⟩:=I1.out.2 (by have:=hLe.out; omega);subst hA1;clear hc1x I2 V S;have Dc0:=D.cell 0 _ rfl;have Dc1:=D.cell 1 _ rfl;have Dc2:=D.cell 2 _ rfl;have Dc3:=D.cell 3 _ rfl;have Dc4:=D.cell 4 _ rfl;have Dc5:=D.cell 5 _ rfl;have Dl:=D.lt;go_wp2;clear Dc0 Dc1 Dc2 Dc3 Dc4 Dc5 Dl
 go_loopw [7] (fun iv W=>∃ k:Nat,k<=n/\iv=.int .i64 k/\Below w4.heap.size w4 W) (fun i _=>n-(intOf i).toNat)
 case atStart=>exact⟨0,Nat.zero_le _,rfl,Ac _⟩
 case round =>
  obtain⟨k,hk,rfl,BK⟩:=hrel;replace D:=D.step BK;have I1r:=I1.out.step BK;have Zr:=Z.out.step BK;have Yr:=Y.out.step BK;have Hr:=hid (Aa H.out BK);replace BK:=hid BK;by_cases hlt:k<n
  . obtain⟨b,off,rfl,hb,hc⟩:=Yr.2 (by omega);obtain⟨x0,x1,x2⟩:=hc k hlt;obtain⟨b9,off9,e9,hb9,hc9⟩:=I1r.2 (by have:=hLe.out; omega);cases e9
    have y0:=hc9 (4+k) (by have:=hLe.out; omega);rw[hat.out k hlt] at y0;have hv:=hva.out k hlt;rw[show FD (xs.getD k iz)=FC (xs.getD k iz).s (xs.getD k iz).p (xs.getD k iz).z from rfl] at y0;clear hc hc9;generalize xs.getD k iz=q at *;obtain⟨qs,qp,qz⟩:=q;simp only at x0 x1 x2 y0 hv;have C0:=fun W=>Cq qs qp qz W;rw[DX hv] at C0;generalize FC qs qp qz=cd at *;replace C0:=hid C0;have hw4:IntKind.i64.wrap (4+(k:Int))=((4+k:Nat):Int):=by rw[IntWalk.i64_in _ (by omega)]; omega
    have j0:(0:Int)<=4+(k:Int):=by omega
    have j1:4+(k:Int)<(L:Int):=by have:=hLe.out; omega
    have j2:(4+(k:Int)).toNat=4+k:=by omega
    have j3:(k:Int)<(n:Int):=by omega
    have j4:(0:Int)<=(k:Int):=by omega
    have hdl:=D.lt;replace D:=hid D;clear hv I1r Zr Yr;go_wp2_with fail;have dc3:=D.out.cell 3 _ rfl;refine wp_region_held_drew (S:=fun w'=>(w'.cell? ⟨b1,off1+(4+k),none⟩=some (.int .i64 cd)/\w'.cell? ⟨b,off+k*3,none⟩=some (.int .i64 qs)/\w'.cell? ⟨b,off+k*3+1,none⟩=some (.int .i64 qp)/\w'.cell? ⟨b,off+k*3+2,none⟩=some (.bool qz))/\w'.cell? ⟨w1.heap.size,3,none⟩=some (.slice (some ⟨b,off,none⟩) n c)) (by kernel_rfl) ⟨⟨y0,x0,x1,x2⟩,dc3⟩ (fun hHeld=>?_);refine tl 0 ?_ ?_ hHeld ?_;rotate_left
    . intro w hSw
      try dsimp only at hSw
      go_simp
      all_goals with_reducible rfl
    try simp only[Act.put,sx]
    refine tl 1 ?_ ?_ hHeld ?_;rotate_left
    . intro w hSw
      try dsimp only at hSw
      go_simp
      all_goals with_reducible rfl
    try simp only[Act.put,sx]
    refine tl 2 ?_ ?_ hHeld ?_;rotate_left
    . intro w hSw
      try dsimp only at hSw
      go_simp
      all_goals with_reducible rfl
    try simp only[Act.put,sx]
    refine tl 3 ?_ ?_ hHeld ?_;rotate_left
    . intro w hSw
      try dsimp only at hSw
      go_simp
      all_goals with_reducible rfl
    try simp only[Act.put,sx]
    refine tl 4 ?_ ?_ hHeld ?_;rotate_left
    . intro w hSw;have z0:=hSw.1.1;go_simp
      all_goals with_reducible rfl
    try simp only[Act.put,sx]
    refine tl 5 ?_ ?_ hHeld ?_;rotate_left
    . intro w hSw
      try dsimp only at hSw
      go_simp
      all_goals with_reducible rfl
    try simp only[Act.put,sx]
    refine tl 6 ?_ ?_ hHeld ?_;rotate_left
    . intro w hSw;have z0:=hSw.2;go_simp
      all_goals with_reducible rfl
    try simp only[Act.put,sx]
    refine tl 7 ?_ ?_ hHeld ?_;rotate_left
    . intro w hSw
      try dsimp only at hSw
      go_simp
      all_goals with_reducible rfl
    try simp only[Act.put,sx]
    refine tl 8 ?_ ?_ hHeld ?_;rotate_left
    . intro w hSw
      try dsimp only at hSw
      go_simp
      all_goals with_reducible rfl
    try simp only[Act.put,sx]
    refine tl 9 ?_ ?_ hHeld ?_;rotate_left
    . intro w hSw;obtain⟨⟨_,z0,z1,z2⟩,_⟩:=hSw;go_simp
      all_goals with_reducible rfl
    try simp only[Act.put,sx]
    refine wpAnyH_ready (rs:=[10]) (by kernel_rfl) (by simp) ?_;apply AllReadyH.cons rfl ?_ AllReadyH.nil;intro K hK;go_simp
    go_at_call 24
    refine(C0.out _).mono ?_;rintro e w6 ⟨rfl,B6⟩;have K6:Below wr.heap.size wr w6:=(Ac wr).drew.trans B6;have e1:=K6.block b1 hb9;have e2:=K6.block b hb;have e3:=K6.block _ hdl;replace y0:=(World.cell?_of_block (a:=⟨b1,off1+(4+k),none⟩) e1).trans y0;replace x0:=(World.cell?_of_block (a:=⟨b,off+k*3,none⟩) e2).trans x0;replace x1:=(World.cell?_of_block (a:=⟨b,off+k*3+1,none⟩) e2).trans x1;replace x2:=(World.cell?_of_block (a:=⟨b,off+k*3+2,none⟩) e2).trans x2;replace dc3:=(World.cell?_of_block (a:=⟨w1.heap.size,3,none⟩) e3).trans dc3;have BK6:=hid (Aa BK.out K6);clear K6 B6 e1 e2 e3 hHeld;go_wp2_with fail
    refine hK.out _ _ ⟨⟨y0,x0,x1,x2⟩,dc3⟩ (fun hHeld=>?_);clear hK K
    try simp only[Act.put,sx]
    refine tl 11 ?_ ?_ hHeld ?_;rotate_left
    . intro w hSw
      try dsimp only at hSw
      go_simp
      all_goals with_reducible rfl
    try simp only[Act.put,sx]
    refine wpAnyH_done (by kernel_rfl) ?_ _;clear j0 j1 j2 j3 j4 hw4;go_wp2
    go_roundw
    case rel=>exact⟨k+1,by omega,by go_num,BK6.out⟩
    case measure=>simp[intOf]; omega
  obtain rfl:k=n:=by omega
  replace I1r:=hid I1r;replace Zr:=hid Zr;have P4:=hid (show Ints wr (some ⟨b1,off1,none⟩) 4 [l,p,s,(k:Int)] by have t:=Ints.first I1r.out (j:=4) (by have:=hLe.out; omega); rw[ht4.out] at t; exact t);have PD:=hid (show Ints wr (some ⟨b1,off1+(4+k),none⟩) m hs by have t:=Ints.drop I1r.out (4+k); rw[hdr.out,show L-(4+k)=m by have:=hLe.out; omega] at t; exact t);have hLm:L-(4+k)=m:=by have:=hLe.out; omega
  have hw4:IntKind.i64.wrap (4+(k:Int))=((4+k:Nat):Int):=by rw[IntWalk.i64_in _ (by omega)]; omega
  have j0:(0:Int)<=4+(k:Int):=by omega
  have j1:4+(k:Int)<=(L:Int):=by have:=hLe.out; omega
  have j2:(4+(k:Int)).toNat=4+k:=by omega
  have j5:(4:Int)<=(c1:Int):=by have:=hLe.out; omega
  have j6:4<=c1:=by have:=hLe.out; omega
  have j7:(4:Int)<=4+(k:Int):=by omega
  have hdl:=D.lt;replace D:=hid D;clear Yr;by_cases hcc:c1=4+k
  . have PZ:=hid (show Ints wr (some ⟨b1,off1,none⟩) m hs from⟨PD.out.1,fun h=>absurd h (by have:=hLe.out; omega)⟩);go_wp2_with fail;have dc1:=D.out.cell 1 _ rfl;have dc0:=D.out.cell 0 _ rfl;have dc2:=D.out.cell 2 _ rfl;have dc4:=D.out.cell 4 _ rfl;refine wp_region_held_drew (S:=fun w'=>w'.cell? ⟨w1.heap.size,0,none⟩=some (.int .i64 l)/\w'.cell? ⟨w1.heap.size,1,none⟩=some (.int .i64 p)/\w'.cell? ⟨w1.heap.size,2,none⟩=some (.int .i64 s)/\w'.cell? ⟨w1.heap.size,4,none⟩=some (.slice HH m d)) (by kernel_rfl) ⟨dc0,dc1,dc2,dc4⟩ (fun hHeld=>?_);refine tl 0 ?_ ?_ hHeld ?_;rotate_left
    . intro w hSw
      try dsimp only at hSw
      go_simp
      all_goals with_reducible rfl
    try simp only[Act.put,sx]
    refine tl 1 ?_ ?_ hHeld ?_;rotate_left
    . intro w hSw
      try dsimp only at hSw
      go_simp
      all_goals with_reducible rfl
    try simp only[Act.put,sx]
    refine tl 2 ?_ ?_ hHeld ?_;rotate_left
    . intro w hSw
      try dsimp only at hSw
      go_simp
      all_goals with_reducible rfl
    try simp only[Act.put,sx]
    refine tl 3 ?_ ?_ hHeld ?_;rotate_left
    . intro w hSw;have z0:=hSw.1;go_simp
      all_goals with_reducible rfl
    try simp only[Act.put,sx]
    refine tl 4 ?_ ?_ hHeld ?_;rotate_left
    . intro w hSw
      try dsimp only at hSw
      go_simp
      all_goals with_reducible rfl
    try simp only[Act.put,sx]
    refine tl 5 ?_ ?_ hHeld ?_;rotate_left
    . intro w hSw;have z0:=hSw.2.1;go_simp
      all_goals with_reducible rfl
    try simp only[Act.put,sx]
    refine tl 6 ?_ ?_ hHeld ?_;rotate_left
    . intro w hSw
      try dsimp only at hSw
      go_simp
      all_goals with_reducible rfl
    try simp only[Act.put,sx]
    refine tl 7 ?_ ?_ hHeld ?_;rotate_left
    . intro w hSw;have z0:=hSw.2.2.1;go_simp
      all_goals with_reducible rfl
    try simp only[Act.put,sx]
    refine tl 8 ?_ ?_ hHeld ?_;rotate_left
    . intro w hSw
      try dsimp only at hSw
      go_simp
      all_goals with_reducible rfl
    try simp only[Act.put,sx]
    refine wpAnyH_ready (rs:=[9]) (by kernel_rfl) (by simp) ?_;apply AllReadyH.cons rfl ?_ AllReadyH.nil;intro K hK;go_simp;have KA:Below wr.heap.size wr (wr.alloc (.cells #[.int .i64 l,.int .i64 p,.int .i64 s,.int .i64 (k:Int)] 3)).drew:=(Ab (Ac wr) _).drew;replace dc0:=(World.cell?_of_block (a:=⟨w1.heap.size,0,none⟩) (KA.block _ hdl)).trans dc0;replace dc1:=(World.cell?_of_block (a:=⟨w1.heap.size,1,none⟩) (KA.block _ hdl)).trans dc1;replace dc2:=(World.cell?_of_block (a:=⟨w1.heap.size,2,none⟩) (KA.block _ hdl)).trans dc2;replace dc4:=(World.cell?_of_block (a:=⟨w1.heap.size,4,none⟩) (KA.block _ hdl)).trans dc4
    have hdl2:=Nat.lt_of_lt_of_le hdl KA.size;have P4a:=hid (P4.out.step KA);have PZa:=hid (PZ.out.step KA);have Zra:=hid (Zr.out.step KA);have HA:=hid (Aa Hr.out KA);have LA:=hid (Ints.four wr _ l p s (k:Int) 3 rfl).drew;clear KA;generalize (wr.alloc (.cells #[.int .i64 l,.int .i64 p,.int .i64 s,.int .i64 (k:Int)] 3)).drew=wa at *;refine hK.out _ _ ⟨dc0,dc1,dc2,dc4⟩ (fun hHeld=>?_);clear hK K
    try simp only[Act.put,sx]
    refine wpAnyH_ready (rs:=[10]) (by kernel_rfl) (by simp) ?_;apply AllReadyH.cons rfl ?_ AllReadyH.nil;intro K hK;go_simp
    go_at_call 28
    refine(AA _ _ 4 _ _ [l,p,s,(k:Int)] _ P4a.out LA.out (by omega)).mono ?_;rintro e w6 ⟨rfl,B6⟩;replace dc0:=(World.cell?_of_block (a:=⟨w1.heap.size,0,none⟩) (B6.block _ hdl2)).trans dc0;replace dc1:=(World.cell?_of_block (a:=⟨w1.heap.size,1,none⟩) (B6.block _ hdl2)).trans dc1;replace dc2:=(World.cell?_of_block (a:=⟨w1.heap.size,2,none⟩) (B6.block _ hdl2)).trans dc2;replace dc4:=(World.cell?_of_block (a:=⟨w1.heap.size,4,none⟩) (B6.block _ hdl2)).trans dc4;have PZb:=hid (PZa.out.step B6);have Zrb:=hid (Zra.out.step B6);have HB:=hid (Aa HA.out B6);have hdl3:=Nat.lt_of_lt_of_le hdl2 B6.size;clear B6 hHeld;go_wp2_with fail
    refine hK.out _ _ ⟨dc0,dc1,dc2,dc4⟩ (fun hHeld=>?_);clear hK K
    try simp only[Act.put,sx]
    refine tl 11 ?_ ?_ hHeld ?_;rotate_left
    . intro w hSw
      try dsimp only at hSw
      go_simp
      all_goals with_reducible rfl
    try simp only[Act.put,sx]
    refine tl 12 ?_ ?_ hHeld ?_;rotate_left
    . intro w hSw
      try dsimp only at hSw
      go_simp
      all_goals with_reducible rfl
    try simp only[Act.put,sx]
    refine tl 13 ?_ ?_ hHeld ?_;rotate_left
    . intro w hSw
      try dsimp only at hSw
      go_simp
      all_goals with_reducible rfl
    try simp only[Act.put,sx]
    refine tl 14 ?_ ?_ hHeld ?_;rotate_left
    . intro w hSw
      try dsimp only at hSw
      go_simp
      all_goals with_reducible rfl
    try simp only[Act.put,sx]
    refine tl 15 ?_ ?_ hHeld ?_;rotate_left
    . intro w hSw
      try dsimp only at hSw
      go_simp
      all_goals with_reducible rfl
    try simp only[Act.put,sx]
    refine tl 16 ?_ ?_ hHeld ?_;rotate_left
    . intro w hSw
      try dsimp only at hSw
      go_simp
      all_goals with_reducible rfl
    try simp only[Act.put,sx]
    refine tl 17 ?_ ?_ hHeld ?_;rotate_left
    . intro w hSw;have z0:=hSw.2.2.2;go_simp
      all_goals with_reducible rfl
    try simp only[Act.put,sx]
    refine wpAnyH_ready (rs:=[18]) (by kernel_rfl) (by simp) ?_;apply AllReadyH.cons rfl ?_ AllReadyH.nil;intro K hK;go_simp
    go_at_call 28
    refine(AA _ _ m _ _ hs _ PZb.out Zrb.out (by omega)).mono ?_;rintro e w7 ⟨rfl,B7⟩;replace dc0:=(World.cell?_of_block (a:=⟨w1.heap.size,0,none⟩) (B7.block _ hdl3)).trans dc0;replace dc1:=(World.cell?_of_block (a:=⟨w1.heap.size,1,none⟩) (B7.block _ hdl3)).trans dc1;replace dc2:=(World.cell?_of_block (a:=⟨w1.heap.size,2,none⟩) (B7.block _ hdl3)).trans dc2;replace dc4:=(World.cell?_of_block (a:=⟨w1.heap.size,4,none⟩) (B7.block _ hdl3)).trans dc4;have HC:=hid (Aa HB.out B7);clear B7 hHeld;go_wp2_with fail;refine hK.out _ _ ⟨dc0,dc1,dc2,dc4⟩ (fun hHeld=>?_);clear hK K
    try simp only[Act.put,sx]
    refine tl 19 ?_ ?_ hHeld ?_;rotate_left
    . intro w hSw
      try dsimp only at hSw
      go_simp
      all_goals with_reducible rfl
    try simp only[Act.put,sx]
    refine tl 20 ?_ ?_ hHeld ?_;rotate_left
    . intro w hSw
      try dsimp only at hSw
      go_simp
      all_goals with_reducible rfl
    try simp only[Act.put,sx]
    refine wpAnyH_done (by kernel_rfl) ?_ _;go_wp2;go_ret;exact⟨rfl,HC.out⟩
  have PZ:=PD;go_wp2_with fail;have dc1:=D.out.cell 1 _ rfl;have dc0:=D.out.cell 0 _ rfl;have dc2:=D.out.cell 2 _ rfl;have dc4:=D.out.cell 4 _ rfl;refine wp_region_held_drew (S:=fun w'=>w'.cell? ⟨w1.heap.size,0,none⟩=some (.int .i64 l)/\w'.cell? ⟨w1.heap.size,1,none⟩=some (.int .i64 p)/\w'.cell? ⟨w1.heap.size,2,none⟩=some (.int .i64 s)/\w'.cell? ⟨w1.heap.size,4,none⟩=some (.slice HH m d)) (by kernel_rfl) ⟨dc0,dc1,dc2,dc4⟩ (fun hHeld=>?_);refine tl 0 ?_ ?_ hHeld ?_;rotate_left
  . intro w hSw
    try dsimp only at hSw
    go_simp
    all_goals with_reducible rfl
  try simp only[Act.put,sx]
  refine tl 1 ?_ ?_ hHeld ?_;rotate_left
  . intro w hSw
    try dsimp only at hSw
    go_simp
    all_goals with_reducible rfl
  try simp only[Act.put,sx]
  refine tl 2 ?_ ?_ hHeld ?_;rotate_left
  . intro w hSw
    try dsimp only at hSw
    go_simp
    all_goals with_reducible rfl
  try simp only[Act.put,sx]
  refine tl 3 ?_ ?_ hHeld ?_;rotate_left
  . intro w hSw;have z0:=hSw.1;go_simp
    all_goals with_reducible rfl
  try simp only[Act.put,sx]
  refine tl 4 ?_ ?_ hHeld ?_;rotate_left
  . intro w hSw
    try dsimp only at hSw
    go_simp
    all_goals with_reducible rfl
  try simp only[Act.put,sx]
  refine tl 5 ?_ ?_ hHeld ?_;rotate_left
  . intro w hSw;have z0:=hSw.2.1;go_simp
    all_goals with_reducible rfl
  try simp only[Act.put,sx]
  refine tl 6 ?_ ?_ hHeld ?_;rotate_left
  . intro w hSw
    try dsimp only at hSw
    go_simp
    all_goals with_reducible rfl
  try simp only[Act.put,sx]
  refine tl 7 ?_ ?_ hHeld ?_;rotate_left
  . intro w hSw;have z0:=hSw.2.2.1;go_simp
    all_goals with_reducible rfl
  try simp only[Act.put,sx]
  refine tl 8 ?_ ?_ hHeld ?_;rotate_left
  . intro w hSw
    try dsimp only at hSw
    go_simp
    all_goals with_reducible rfl
  try simp only[Act.put,sx]
  refine wpAnyH_ready (rs:=[9]) (by kernel_rfl) (by simp) ?_;apply AllReadyH.cons rfl ?_ AllReadyH.nil;intro K hK;go_simp;have KA:Below wr.heap.size wr (wr.alloc (.cells #[.int .i64 l,.int .i64 p,.int .i64 s,.int .i64 (k:Int)] 3)).drew:=(Ab (Ac wr) _).drew;replace dc0:=(World.cell?_of_block (a:=⟨w1.heap.size,0,none⟩) (KA.block _ hdl)).trans dc0;replace dc1:=(World.cell?_of_block (a:=⟨w1.heap.size,1,none⟩) (KA.block _ hdl)).trans dc1;replace dc2:=(World.cell?_of_block (a:=⟨w1.heap.size,2,none⟩) (KA.block _ hdl)).trans dc2;replace dc4:=(World.cell?_of_block (a:=⟨w1.heap.size,4,none⟩) (KA.block _ hdl)).trans dc4
  have hdl2:=Nat.lt_of_lt_of_le hdl KA.size;have P4a:=hid (P4.out.step KA);have PZa:=hid (PZ.out.step KA);have Zra:=hid (Zr.out.step KA);have HA:=hid (Aa Hr.out KA);have LA:=hid (Ints.four wr _ l p s (k:Int) 3 rfl).drew;clear KA;generalize (wr.alloc (.cells #[.int .i64 l,.int .i64 p,.int .i64 s,.int .i64 (k:Int)] 3)).drew=wa at *;refine hK.out _ _ ⟨dc0,dc1,dc2,dc4⟩ (fun hHeld=>?_);clear hK K
  try simp only[Act.put,sx]
  refine wpAnyH_ready (rs:=[10]) (by kernel_rfl) (by simp) ?_;apply AllReadyH.cons rfl ?_ AllReadyH.nil;intro K hK;go_simp
  go_at_call 28
  refine(AA _ _ 4 _ _ [l,p,s,(k:Int)] _ P4a.out LA.out (by omega)).mono ?_;rintro e w6 ⟨rfl,B6⟩;replace dc0:=(World.cell?_of_block (a:=⟨w1.heap.size,0,none⟩) (B6.block _ hdl2)).trans dc0;replace dc1:=(World.cell?_of_block (a:=⟨w1.heap.size,1,none⟩) (B6.block _ hdl2)).trans dc1;replace dc2:=(World.cell?_of_block (a:=⟨w1.heap.size,2,none⟩) (B6.block _ hdl2)).trans dc2;replace dc4:=(World.cell?_of_block (a:=⟨w1.heap.size,4,none⟩) (B6.block _ hdl2)).trans dc4;have PZb:=hid (PZa.out.step B6);have Zrb:=hid (Zra.out.step B6);have HB:=hid (Aa HA.out B6);have hdl3:=Nat.lt_of_lt_of_le hdl2 B6.size;clear B6 hHeld;go_wp2_with fail
  refine hK.out _ _ ⟨dc0,dc1,dc2,dc4⟩ (fun hHeld=>?_);clear hK K
  try simp only[Act.put,sx]
  refine tl 11 ?_ ?_ hHeld ?_;rotate_left
  . intro w hSw
    try dsimp only at hSw
    go_simp
    all_goals with_reducible rfl
  try simp only[Act.put,sx]
  refine tl 12 ?_ ?_ hHeld ?_;rotate_left
  . intro w hSw
    try dsimp only at hSw
    go_simp
    all_goals with_reducible rfl
  try simp only[Act.put,sx]
  refine tl 13 ?_ ?_ hHeld ?_;rotate_left
  . intro w hSw
    try dsimp only at hSw
    go_simp
    all_goals with_reducible rfl
  try simp only[Act.put,sx]
  refine tl 14 ?_ ?_ hHeld ?_;rotate_left
  . intro w hSw
    try dsimp only at hSw
    go_simp
    all_goals with_reducible rfl
  try simp only[Act.put,sx]
  refine tl 15 ?_ ?_ hHeld ?_;rotate_left
  . intro w hSw
    try dsimp only at hSw
    go_simp
    all_goals with_reducible rfl
  try simp only[Act.put,sx]
  refine tl 16 ?_ ?_ hHeld ?_;rotate_left
  . intro w hSw
    try dsimp only at hSw
    go_simp
    all_goals with_reducible rfl
  try simp only[Act.put,sx]
  refine tl 17 ?_ ?_ hHeld ?_;rotate_left
  . intro w hSw;have z0:=hSw.2.2.2;go_simp
    all_goals with_reducible rfl
  try simp only[Act.put,sx]
  refine wpAnyH_ready (rs:=[18]) (by kernel_rfl) (by simp) ?_;apply AllReadyH.cons rfl ?_ AllReadyH.nil;intro K hK;go_simp
  go_at_call 28
  refine(AA _ _ m _ _ hs _ PZb.out Zrb.out (by omega)).mono ?_;rintro e w7 ⟨rfl,B7⟩;replace dc0:=(World.cell?_of_block (a:=⟨w1.heap.size,0,none⟩) (B7.block _ hdl3)).trans dc0;replace dc1:=(World.cell?_of_block (a:=⟨w1.heap.size,1,none⟩) (B7.block _ hdl3)).trans dc1;replace dc2:=(World.cell?_of_block (a:=⟨w1.heap.size,2,none⟩) (B7.block _ hdl3)).trans dc2;replace dc4:=(World.cell?_of_block (a:=⟨w1.heap.size,4,none⟩) (B7.block _ hdl3)).trans dc4;have HC:=hid (Aa HB.out B7);clear B7 hHeld;go_wp2_with fail;refine hK.out _ _ ⟨dc0,dc1,dc2,dc4⟩ (fun hHeld=>?_);clear hK K
  try simp only[Act.put,sx]
  refine tl 19 ?_ ?_ hHeld ?_;rotate_left
  . intro w hSw
    try dsimp only at hSw
    go_simp
    all_goals with_reducible rfl
  try simp only[Act.put,sx]
  refine tl 20 ?_ ?_ hHeld ?_;rotate_left
  . intro w hSw
    try dsimp only at hSw
    go_simp
    all_goals with_reducible rfl
  try simp only[Act.put,sx]
  refine wpAnyH_done (by kernel_rfl) ?_ _;go_wp2;go_ret;exact⟨rfl,HC.out⟩
end Go.Proofs.Ytflmmdljkhdjlaa
