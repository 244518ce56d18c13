import Derived.Test.YtgbiagonfbnooaaDoorZTxG
import Derived.Test.YtgbiagonfbnooaaDoorZDrawRepE
set_option linter.all false
set_option maxRecDepth 100000
set_option maxHeartbeats 8000000
open Go.Lib
namespace Go.Proofs.YtgbiagonfbnooaaDoor
open Go.RowKit
open M
theorem Is(tt:Tx)(k:Nat)(h:k<(str tt).size):(tt.take (k+1)).count 10=(tt.take k).count 10+(if (str tt)[k]=10 then 1 else 0):=by
 rw[show tt.take (k+1)=tt.take k++[(str tt)[k]] from G6 (str tt) k h,List.count_append,List.count_singleton];by_cases e:(str tt)[k]=10<;>simp[e]
theorem Cp(a:Option Addr)(len cap:Nat)(zs:List Int)(w:World)(h:IsRow .u8 w a len cap zs)(T:Tabs w) :
 Calls Tryd.prog 3 #[.slice a len cap] w fun e w'=>e=.returned (.bool true)/\Below w.heap.size w w':=by
 have T:=hid T;have hm:=h.bytes.1;have hm2:=h.bytes.2.1;unfold maxLen at hm2;by_cases g:1048576<len
 . have g1:(1048576:Int)<(len:Int):=by omega
   go_enter Tryd.func3,Tryd.ntmps3;go_wp2;go_ret;exact⟨rfl,Below.refl _ _⟩
 have g1:(len:Int)<=1048576:=by omega
 clear g hm hm2;go_enter Tryd.func3,Tryd.ntmps3;go_wp2_with fail;refine(G8 a len cap zs w h).mono ?_;rintro e w1 ⟨l,p,s,A,n,c,HH,m,d,t,xs,hs,rfl,⟨hn,hm⟩,Y,Z,MA,MH,B⟩;have H:=hid (Ab B (.cells #[.int .i64 l,.int .i64 p,.int .i64 s,.slice A n c,.slice HH m d,.int .i64 t] 26));have hxl:=Y.1;have hhl:=Z.1;replace Y:=hid (Y.alloc (.cells #[.int .i64 l,.int .i64 p,.int .i64 s,.slice A n c,.slice HH m d,.int .i64 t] 26));replace Z:=hid (Z.step (Ab (Ac w1) (.cells #[.int .i64 l,.int .i64 p,.int .i64 s,.slice A n c,.slice HH m d,.int .i64 t] 26)))
 have D:CellsAt (w1.alloc (.cells #[.int .i64 l,.int .i64 p,.int .i64 s,.slice A n c,.slice HH m d,.int .i64 t] 26)) w1.heap.size (AL l p s A n c HH m d t):=CellsAt.new _ _ _ _ rfl;clear B h MA MH;have V:=fun W (TW:Tabs W) (Q:Inputs W A n xs) (X:Ints W HH m hs)=>FU l p s A n c HH m d t xs hs W TW Q X (by omega) (by omega);have S:=fun W (Q:Inputs W A n xs) (X:Ints W HH m hs)=>FD l p s A n c HH m d t xs hs W Q X (by omega) (by omega);cases ok:BC ⟨l,p,s,xs,hs,t⟩
 . rw[show rtxt ⟨l,p,s,xs,hs,t⟩=[] by rw[rtxt,ok]; rfl] at V;rw[show rtext ⟨l,p,s,xs,hs,t⟩=[] by rw[rtext,ok]; rfl] at S;replace V:=hid V;replace S:=hid S;have Dc0:=D.cell 0 _ rfl;have Dc1:=D.cell 1 _ rfl;have Dc2:=D.cell 2 _ rfl;have Dc3:=D.cell 3 _ rfl;have Dc4:=D.cell 4 _ rfl;have Dc5:=D.cell 5 _ rfl;have Dl:=D.lt;go_wp2_with fail;refine(V.out _ (T.out.step H.out) Y.out Z.out).mono ?_;rintro e w2 ⟨rfl,B⟩;clear Dc0 Dc1 Dc2 Dc3 Dc4 Dc5 Dl;replace D:=D.step B;replace Y:=hid (Y.out.step B);replace Z:=hid (Z.out.step B);replace H:=hid (Aa H.out B);clear B;have Dc0:=D.cell 0 _ rfl;have Dc1:=D.cell 1 _ rfl;have Dc2:=D.cell 2 _ rfl
   have Dc3:=D.cell 3 _ rfl;have Dc4:=D.cell 4 _ rfl;have Dc5:=D.cell 5 _ rfl;have Dl:=D.lt;go_wp2_with fail;refine(S.out _ Y.out Z.out).mono ?_;rintro e w3 ⟨rfl,B⟩;clear Dc0 Dc1 Dc2 Dc3 Dc4 Dc5 Dl;replace D:=D.step B;replace Y:=hid (Y.out.step B);replace Z:=hid (Z.out.step B);replace H:=hid (Aa H.out B);clear B;have Dc0:=D.cell 0 _ rfl;have Dc1:=D.cell 1 _ rfl;have Dc2:=D.cell 2 _ rfl;have Dc3:=D.cell 3 _ rfl;have Dc4:=D.cell 4 _ rfl;have Dc5:=D.cell 5 _ rfl;have Dl:=D.lt;go_wp2;go_ret;exact⟨rfl,H.out⟩
 rw[show rtxt ⟨l,p,s,xs,hs,t⟩=Db ⟨l,p,s,xs,hs,t⟩ by rw[rtxt,ok]; rfl] at V;rw[show rtext ⟨l,p,s,xs,hs,t⟩=Db ⟨l,p,s,xs,hs,t⟩ by rw[rtext,ok]; rfl] at S;obtain⟨hc4,u,hu⟩:=Jk (Km ok);have h7:=FO ⟨l,p,s,xs,hs,t⟩;have hlen:=Ko ok;have hpos:=Kq ⟨l,p,s,xs,hs,t⟩;clear ok;generalize Db ⟨l,p,s,xs,hs,t⟩=tt at *;obtain⟨M,hM⟩:∃ M,tt.length=M:=⟨_,rfl⟩;have hne:(tt==[])=false:=by rw[beq_eq_false_iff_ne]; rintro rfl; simp at hpos
 have hMs:(str tt).size=M:=by rw[<- KT,HR,hM]
 rw[hM] at hlen hpos;replace hc4:=hid hc4;replace hu:=hid hu;replace h7:=hid h7;replace V:=hid V;replace S:=hid S;have Dc0:=D.cell 0 _ rfl;have Dc1:=D.cell 1 _ rfl;have Dc2:=D.cell 2 _ rfl;have Dc3:=D.cell 3 _ rfl;have Dc4:=D.cell 4 _ rfl;have Dc5:=D.cell 5 _ rfl;have Dl:=D.lt;go_wp2_with fail;refine(V.out _ (T.out.step H.out) Y.out Z.out).mono ?_;rintro e w2 ⟨rfl,B⟩;clear Dc0 Dc1 Dc2 Dc3 Dc4 Dc5 Dl;replace D:=D.step B;replace Y:=hid (Y.out.step B);replace Z:=hid (Z.out.step B);replace H:=hid (Aa H.out B);clear B;have Dc0:=D.cell 0 _ rfl;have Dc1:=D.cell 1 _ rfl;have Dc2:=D.cell 2 _ rfl;have Dc3:=D.cell 3 _ rfl;have Dc4:=D.cell 4 _ rfl
 have Dc5:=D.cell 5 _ rfl;have Dl:=D.lt;go_wp2_with fail;refine(S.out _ Y.out Z.out).mono ?_;rintro e w3 ⟨rfl,B⟩;clear Dc0 Dc1 Dc2 Dc3 Dc4 Dc5 Dl;replace D:=D.step B;replace Y:=hid (Y.out.step B);replace Z:=hid (Z.out.step B);replace H:=hid (Aa H.out B);clear B;clear V S D Y Z T;go_wp2
 go_loopw [6,7] (fun nv iv W=>∃ k:Nat,k<=M/\iv=.int .i64 k/\nv=.int .i64 (((tt.take k).count 10:Nat):Int)/\Below w.heap.size w W) (fun _ i _=>M-(RowKit.intOf i).toNat)
 case atStart=>exact⟨0,Nat.zero_le _,rfl,rfl,H.out⟩
 case round =>
  clear H;obtain⟨k,hk,rfl,rfl,B⟩:=hrel;replace B:=hid B;by_cases hlt:k<M
  . have hlt2:k<(str tt).size:=by omega
    have en:=Is tt k hlt2;have hcb:(tt.take k).count 10<=2000:=Nat.le_trans (List.count_le_length) (by rw[List.length_take]; omega);obtain⟨q0,hq0⟩:∃ q0,(tt.take k).count 10=q0:=⟨_,rfl⟩;rw[hq0] at hcb en;rw[hq0];have hw1:IntKind.i64.wrap ((q0:Int)+1)=(q0:Int)+1:=IntWalk.i64_in _ (by omega);by_cases hb:(str tt)[k]=10
    . have q:(((str tt)[k].toNat:Int)==10)=true:=by rw[hb]; rfl
      have q2:((str tt)[k].toNat==10)=true:=by rw[hb]; rfl
      rw[if_pos hb] at en;replace en:=hid en;clear hb hq0;go_wp2
      go_roundw
      case rel=>exact⟨k+1,by omega,by go_num,by rw[en.out]; first | rfl | (go_num; done) | simp,B.out⟩
      case measure=>simp[RowKit.intOf]; omega
    . have q:(((str tt)[k].toNat:Int)==10)=false:=by rw[beq_eq_false_iff_ne]; intro x; exact hb (UInt8.toNat_inj.1 (by have e:(10:UInt8).toNat=10:=rfl; omega))
      have q2:((str tt)[k].toNat==10)=false:=by rw[beq_eq_false_iff_ne]; intro x; exact hb (UInt8.toNat_inj.1 (by have e:(10:UInt8).toNat=10:=rfl; omega))
      rw[if_neg hb] at en;replace en:=hid en;clear hb hq0;go_wp2
      go_roundw
      case rel=>exact⟨k+1,by omega,by go_num,by rw[en.out]; first | rfl | (go_num; done) | simp,B.out⟩
      case measure=>simp[RowKit.intOf]; omega
  . obtain rfl:k=M:=by omega
    have ht:tt.take k=tt:=List.take_of_length_le (by omega);rw[ht,hc4.out];have hu2:=hu.out;have hul:u.length+1=k:=by rw[<- hM,hu2]; simp
    obtain⟨j,hj⟩:∃ j,u.length=j:=⟨_,rfl⟩;obtain rfl:k=j+1:=by omega
    have ei:((j+1:Nat):Int)-1=(j:Int):=by omega
    have hjs:j<(str tt).size:=by omega
    have hel:(str tt)[j]=10:=by
     show tt[j]=10
     simp only[hu2,<- hj];simp
    have ex:(str tt).extract 0 7=str [114,101,112,108,97,121,32]:=by rw[F5,HR,List.drop_zero,h7.out]; rfl
    have j7:(7:Int)<=((j+1:Nat):Int):=by omega
    clear ht hu2 hul hj;go_wp2;go_ret;exact⟨rfl,B.out⟩
end Go.Proofs.YtgbiagonfbnooaaDoor
