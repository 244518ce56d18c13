import Derived.Test.YtgbiagonfbnooaaDoorZLawRepX
import Derived.Test.YtgbiagonfbnooaaDoorZTxG
import Derived.Test.YtgbiagonfbnooaaDoorZRepH
set_option linter.all false
set_option maxRecDepth 100000
set_option maxHeartbeats 8000000
open Go.Lib
namespace Go.Proofs.YtgbiagonfbnooaaDoor
open Go.RowKit
open M
theorem Br(l p s:Int)(A:Option Addr)(n c:Nat)(G:Option Addr)(m d:Nat)(t:Int)(xs:List In)(hs:List Int)(w:World)(Y:Inputs w A n xs)(Z:Ints w G m hs)(hn0:n<=9223372036854775807)(hm0:m<=9223372036854775807)(TB:Tabs w) :
 Calls Tryd.prog 4 #[Ci l p s A n c G m d t] w fun e w'=>e=.returned (.bool true)/\Below w.heap.size w w':=by
 replace TB:=hid TB;have C0:=fun W=>E7 l p s A n c G m d t W hn0 hm0;have D:CellsAt (w.alloc (.cells #[.int .i64 l,.int .i64 p,.int .i64 s,.slice A n c,.slice G m d,.int .i64 t] 32)) w.heap.size (AL l p s A n c G m d t):=CellsAt.new w _ _ _ rfl;have H:=hid (Ab (Ac w) (.cells #[.int .i64 l,.int .i64 p,.int .i64 s,.slice A n c,.slice G m d,.int .i64 t] 32));replace Y:=hid (Y.step H.out);replace Z:=hid (Z.step H.out);by_cases hbig:(1048576:Int)<n\/(1048576:Int)-n<m
 . have E:=hid (JW hbig);rw[E.out] at C0;replace C0:=hid C0;have Dc0:=D.cell 0 _ rfl;have Dc1:=D.cell 1 _ rfl;have Dc2:=D.cell 2 _ rfl;have Dc3:=D.cell 3 _ rfl;have Dc4:=D.cell 4 _ rfl;have Dc5:=D.cell 5 _ rfl;go_enter Tryd.func4,Tryd.ntmps4;go_wp2_with fail;refine(C0.out _).mono ?_;rintro e w1 ⟨rfl,B⟩;replace H:=hid (Aa H.out B);go_wp2;go_ret;exact⟨rfl,H.out⟩
 have hn:n<=1048576:=by omega
 have hm:m<=1048576:=by omega
 have E:=hid (show D6 n m=1048576-n-m by unfold D6; rw[if_neg (by omega),if_neg (by omega)]);rw[E.out] at C0;have hz0:decide ((1048576:Int)-(n:Int)-(m:Int)<0)=false:=decide_eq_false (by omega);replace C0:=hid C0;have T:=fun W (Q:Inputs W A n xs) (X:Ints W G m hs)=>E5 l p s A n c G m d t xs hs W Q X hn hm;replace T:=hid T;obtain⟨tt,htt⟩:∃ tt,rtxt ⟨l,p,s,xs,hs,t⟩=tt:=⟨_,rfl⟩;have htt2:rtext ⟨l,p,s,xs,hs,t⟩=tt:=htt;have V:=fun W A c G d (TW:Tabs W) (Q:Inputs W A n xs) (X:Ints W G m hs)=>FU l p s A n c G m d t xs hs W TW Q X (by omega) (by omega)
 have S:=fun W A c G d (Q:Inputs W A n xs) (X:Ints W G m hs)=>FD l p s A n c G m d t xs hs W Q X (by omega) (by omega);rw[htt] at V;rw[htt2] at S;clear htt htt2;replace V:=hid V;replace S:=hid S;have nz:((str tt).toList != (str tt).toList)=false:=by simp
 have Dc0:=D.cell 0 _ rfl;have Dc1:=D.cell 1 _ rfl;have Dc2:=D.cell 2 _ rfl;have Dc3:=D.cell 3 _ rfl;have Dc4:=D.cell 4 _ rfl;have Dc5:=D.cell 5 _ rfl;have Dl:=D.lt;go_enter Tryd.func4,Tryd.ntmps4;go_wp2_with fail;refine(C0.out _).mono ?_;rintro e w1 ⟨rfl,B⟩;clear Dc0 Dc1 Dc2 Dc3 Dc4 Dc5 Dl;replace D:=D.step B;replace Y:=hid (Y.out.step B);replace Z:=hid (Z.out.step B);replace H:=hid (Aa H.out B);clear B;have Dc0:=D.cell 0 _ rfl;have Dc1:=D.cell 1 _ rfl;have Dc2:=D.cell 2 _ rfl;have Dc3:=D.cell 3 _ rfl;have Dc4:=D.cell 4 _ rfl;have Dc5:=D.cell 5 _ rfl;have Dl:=D.lt;go_wp2_with fail;refine(T.out _ Y.out Z.out).mono ?_
 rintro e w2 ⟨u1,D1,e1,rfl,⟨X1,_⟩,⟨J1,_⟩,_,B⟩;clear Dc0 Dc1 Dc2 Dc3 Dc4 Dc5 Dl;replace D:=D.step B;replace Y:=hid (Y.out.step B);replace Z:=hid (Z.out.step B);replace X1:=hid X1;replace J1:=hid J1;replace H:=hid (Aa H.out B);have sz2:=B.size;clear B;have Dc0:=D.cell 0 _ rfl;have Dc1:=D.cell 1 _ rfl;have Dc2:=D.cell 2 _ rfl;have Dc3:=D.cell 3 _ rfl;have Dc4:=D.cell 4 _ rfl;have Dc5:=D.cell 5 _ rfl;have Dl:=D.lt;go_wp2_with fail;refine(S.out _ _ _ _ _ X1.out J1.out).mono ?_;rintro e w3 ⟨rfl,B⟩;clear Dc0 Dc1 Dc2 Dc3 Dc4 Dc5 Dl;replace D:=D.step B;replace Y:=hid (Y.out.step B);replace Z:=hid (Z.out.step B);replace X1:=hid (X1.out.step B)
 replace J1:=hid (J1.out.step B);replace H:=hid (Aa H.out B);have sz3:=B.size;clear B;clear X1 J1;have Dc0:=D.cell 0 _ rfl;have Dc1:=D.cell 1 _ rfl;have Dc2:=D.cell 2 _ rfl;have Dc3:=D.cell 3 _ rfl;have Dc4:=D.cell 4 _ rfl;have Dc5:=D.cell 5 _ rfl;have Dl:=D.lt;go_wp2_with fail;refine(T.out _ Y.out Z.out).mono ?_;rintro e w4 ⟨u2,D2,e2,rfl,⟨X,XM⟩,⟨XI,XN⟩,hne,B⟩;clear Dc0 Dc1 Dc2 Dc3 Dc4 Dc5 Dl;replace D:=D.step B;replace Y:=hid (Y.out.step B);replace Z:=hid (Z.out.step B);replace X:=hid X;replace XI:=hid XI;replace H:=hid (Aa H.out B);have sz4:=B.size;clear B;clear XM XN hne
 have X0:CellsAt (w4.alloc (.cells #[.int .i64 l,.int .i64 p,.int .i64 s,.slice (some ⟨u2,0,none⟩) n n,.slice D2 m e2,.int .i64 t] 26)) w4.heap.size (AL l p s (some ⟨u2,0,none⟩) n n D2 m e2 t):=CellsAt.new _ _ _ _ rfl;replace D:=D.alloc (.cells #[.int .i64 l,.int .i64 p,.int .i64 s,.slice (some ⟨u2,0,none⟩) n n,.slice D2 m e2,.int .i64 t] 26);replace Y:=hid (Y.out.alloc (.cells #[.int .i64 l,.int .i64 p,.int .i64 s,.slice (some ⟨u2,0,none⟩) n n,.slice D2 m e2,.int .i64 t] 26));replace Z:=hid (Z.out.alloc (.cells #[.int .i64 l,.int .i64 p,.int .i64 s,.slice (some ⟨u2,0,none⟩) n n,.slice D2 m e2,.int .i64 t] 26))
 replace X:=hid (X.out.alloc (.cells #[.int .i64 l,.int .i64 p,.int .i64 s,.slice (some ⟨u2,0,none⟩) n n,.slice D2 m e2,.int .i64 t] 26));replace XI:=hid (XI.out.alloc (.cells #[.int .i64 l,.int .i64 p,.int .i64 s,.slice (some ⟨u2,0,none⟩) n n,.slice D2 m e2,.int .i64 t] 26));replace H:=hid (Ab H.out (.cells #[.int .i64 l,.int .i64 p,.int .i64 s,.slice (some ⟨u2,0,none⟩) n n,.slice D2 m e2,.int .i64 t] 26));obtain⟨xb,hxb⟩:∃ xb,w4.heap.size=xb:=⟨_,rfl⟩;have Dc0:=D.cell 0 _ rfl;have Dc1:=D.cell 1 _ rfl;have Dc2:=D.cell 2 _ rfl;have Dc3:=D.cell 3 _ rfl;have Dc4:=D.cell 4 _ rfl;have Dc5:=D.cell 5 _ rfl;have Dl:=D.lt
 have X0c0:=X0.cell 0 _ rfl;have X0c1:=X0.cell 1 _ rfl;have X0c2:=X0.cell 2 _ rfl;have X0c3:=X0.cell 3 _ rfl;have X0c4:=X0.cell 4 _ rfl;have X0c5:=X0.cell 5 _ rfl;have X0l:=X0.lt;go_wp2_with fail;refine(V.out _ _ _ _ _ (TB.out.step H.out) X.out XI.out).mono ?_;rintro e w5 ⟨rfl,B⟩;clear Dc0 Dc1 Dc2 Dc3 Dc4 Dc5 Dl;clear X0c0 X0c1 X0c2 X0c3 X0c4 X0c5 X0l;rw[hxb] at X0;replace D:=D.step B;replace X0:=X0.step B;replace Y:=hid (Y.out.step B);replace Z:=hid (Z.out.step B);replace X:=hid (X.out.step B);replace XI:=hid (XI.out.step B);replace H:=hid (Aa H.out B);clear B;go_wp2_with fail
 refine wp_region_held_drew (S:=fun w'=>CellsAt w' w.heap.size (AL l p s A n c G m d t)/\CellsAt w' xb (AL l p s (some ⟨u2,0,none⟩) n n D2 m e2 t)) (by kernel_rfl) ⟨D.drew,X0.drew⟩ (fun hHeld=>?_);replace D:=D.drew;replace X0:=X0.drew;refine wpAnyH_take (i:=0) (oi:=_) (v:=.agg (AL l p s (some ⟨u2,0,none⟩) n n D2 m e2 t).toArray) rfl (by kernel_rfl) (by kernel_rfl) (by kernel_rfl) (fun _ _ _ h=>h) (yieldsIf_load_mid (by rfl) 26 (.tmp 5) rfl xb 0 rfl (AL l p s (some ⟨u2,0,none⟩) n n D2 m e2 t) _ (fun W hS=>hS.2.range) Tryd.underlying26 rfl Ai) hHeld ?_
 try simp only[Act.put,sx]
 refine wpAnyH_take (i:=1) (oi:=_) (v:=.agg (AL l p s A n c G m d t).toArray) rfl (by kernel_rfl) (by kernel_rfl) (by kernel_rfl) (fun _ _ _ h=>h) (yieldsIf_load_mid (by rfl) 32 (.tmp 1) rfl w.heap.size 0 rfl (AL l p s A n c G m d t) _ (fun W hS=>hS.1.range) Tryd.underlying32 rfl FR) hHeld ?_
 try simp only[Act.put,sx]
 replace Y:=hid (Y.out.drew);replace Z:=hid (Ints.drew Z.out);replace X:=hid X.out.drew;replace XI:=hid (Ints.drew XI.out);refine wpAnyH_ready (rs:=[2]) (by kernel_rfl) (by simp) ?_;apply AllReadyH.cons rfl ?_ AllReadyH.nil;intro K hK;go_simp
 go_at_call 10
 refine(T.out _ Y.out Z.out).mono ?_;rintro e w7 ⟨u7,D7,e7,rfl,⟨X7,_⟩,⟨J7,_⟩,_,B⟩;replace D:=D.step B;replace X0:=X0.step B;replace X:=hid (X.out.step B);replace XI:=hid (XI.out.step B);replace X7:=hid X7;replace J7:=hid J7;have B7:=B;clear B hHeld;go_wp2_with fail;refine hK.out _ _ ⟨D,X0⟩ (fun hHeld=>?_);clear hK K
 try simp only[Act.put,sx]
 refine wpAnyH_ready (rs:=[3]) (by kernel_rfl) (by simp) ?_;apply AllReadyH.cons rfl ?_ AllReadyH.nil;intro K hK;go_simp
 go_at_call 11
 refine(Ek l p s _ n n _ m e2 t _ n _ e7 xs hs _ X.out XI.out X7.out J7.out hn hm).mono ?_;rintro e w8 ⟨rfl,B⟩;replace D:=D.step B;replace X0:=X0.step B;replace X:=hid (X.out.step B);replace XI:=hid (XI.out.step B);have B78:=hid (Aa B7 B);clear B B7 X7 J7 hHeld;go_wp2_with fail;refine hK.out _ _ ⟨D,X0⟩ (fun hHeld=>?_);clear hK K
 try simp only[Act.put,sx]
 refine tl 4 ?_ ?_ hHeld ?_;rotate_left
 . intro w hSw
   try dsimp only at hSw
   go_simp
   all_goals with_reducible rfl
 try simp only[Act.put,sx]
 refine wpAnyH_done (by kernel_rfl) ?_ _;replace H:=hid (Aa H.out.drew B78.out);have Dc0:=D.cell 0 _ rfl;have Dc1:=D.cell 1 _ rfl;have Dc2:=D.cell 2 _ rfl;have Dc3:=D.cell 3 _ rfl;have Dc4:=D.cell 4 _ rfl;have Dc5:=D.cell 5 _ rfl;have Dl:=D.lt;have X0c0:=X0.cell 0 _ rfl;have X0c1:=X0.cell 1 _ rfl;have X0c2:=X0.cell 2 _ rfl;have X0c3:=X0.cell 3 _ rfl;have X0c4:=X0.cell 4 _ rfl;have X0c5:=X0.cell 5 _ rfl;have X0l:=X0.lt;go_wp2;go_ret;exact⟨rfl,H.out⟩
end Go.Proofs.YtgbiagonfbnooaaDoor
