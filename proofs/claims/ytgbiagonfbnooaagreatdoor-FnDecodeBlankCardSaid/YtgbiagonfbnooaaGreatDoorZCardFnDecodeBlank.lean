/-
  Proved: for every input the law FnDecodeBlank returns true, each argument reads afterwards as it read before, and so does the package-level table of words that it reads; the table, and the library's tables, begin as the program's text lays them (the card ties it to that text). No other conditions.
-/
import Derived.Test.YtgbiagonfbnooaaGreatDoorCards
import Derived.Test.YtgbiagonfbnooaaGreatDoorTie
import Derived.Test.YtgbiagonfbnooaaGreatDoorZWords
import Derived.Lay
import Derived.ProofKit
import Derived.ShutString
import Derived.ChangeOld
import Derived.Lib.SmallJoins
import Derived.Deep.DeepHandedRow
import Derived.Test.YtgbiagonfbnooaaGreatDoorZDrawRepL
set_option linter.all false
set_option maxRecDepth 100000
set_option maxHeartbeats 8000000
namespace Go.Proofs.YtgbiagonfbnooaaGreatDoor
open Go.Lib
open Go.RowKit
namespace M
theorem HD{a:UInt8}:∀(u t:Tx),cut a (u++a::t)=cut a u++cut a t
 | [],t=>by simp[cut]
 | b::u,t=>by
  have ih:=HD (a:=a) u t;have ne:=Bw a u;by_cases h:b=a
  . rw[List.cons_append,cut,if_pos h,cut,if_pos h,ih]; rfl
  . rw[List.cons_append,cut,if_neg h,cut,if_neg h,ih,ne]; rfl
theorem Ge{u t:Tx}{r:Rep}(h:Nh (u++10::t)=some r):Nh (u++32::10::t)=none:=by
 have e1:cut 10 (u++10::t)=cut 10 u++cut 10 t:=HD u t;have e2:cut 10 (u++32::10::t)=((cut 10 u).dropLast++[(cut 10 u).getLastD []++[32]])++cut 10 t:=by
  rw[show u++32::10::t=(u++[32])++10::t by simp,HD,Gq,if_neg (by decide)]
 have hl:(cut 10 (u++10::t)).length=5:=by rw[FQ,(Oh h).1]
 unfold Nh;rw[e2];rw[e1] at hl;have ne:=Na 10 u;have nt:=Na 10 t;have es:=(List.dropLast_concat_getLast ne);generalize (cut 10 u).dropLast=A at es ⊢;rw[List.getLastD_eq_getLast?,List.getLast?_eq_some_getLast ne,Option.getD_some];generalize (cut 10 u).getLast ne=z at es ⊢;rw[<- es,List.append_assoc] at hl;generalize cut 10 t=C at *;rw[List.append_assoc];have key:∀(s:Tx) (w:Tx),BF (s++[32]) w=none:=Nb
 match A,C,hl,nt with
 | [],[b,c,d,e],_,_=>simp only[List.nil_append,List.cons_append,ND,Mt,key]; split<;>rfl
 | [a],[c,d,e],_,_=>simp only[List.nil_append,List.cons_append,ND,Mt,key]; split<;>(first | rfl | (split<;>first | rfl | simp_all))
 | [a,b],[d,e],_,_=>simp only[List.nil_append,List.cons_append,ND,Mt,key]; split<;>(first | rfl | (split<;>first | rfl | simp_all))
 | _::_::_::_::_,[],_,n=>exact absurd rfl n
 | _::_::_::_::_,_::_,h,_=>simp at h; omega
 | [a,b,c],[e],_,_=>simp only[List.nil_append,List.cons_append,ND,Mt,key]; split<;>(first | rfl | (split<;>first | rfl | simp_all))
end M
open M
theorem FR(a:Option Addr)(len cap:Nat)(zs:List Int)(a2:Option Addr)(len2 cap2:Nat)(zs2:List Int)(w:World)(h:IsRow .u8 w a len cap zs)(h2:IsRow .u8 w a2 len2 cap2 zs2)(T:TabsD w) :
 Calls Tryz.prog 6 #[.slice a len cap,.slice a2 len2 cap2] w fun e w'=>e=.returned (.bool true)/\Below w.heap.size w w':=by
 have T:=hid T;have hm:=h.bytes.1;have hm2:=h.bytes.2.1;have hm3:=h2.bytes.1;have hm4:=h2.bytes.2.1;unfold maxLen at hm2 hm4;by_cases g:1048576<len
 . have g1:(1048576:Int)<(len:Int):=by omega
   go_enter Tryz.func6,Tryz.ntmps6;go_wp2;go_ret;exact⟨rfl,Below.refl _ _⟩
 by_cases g2:1048576<len2
 . have g1:(len:Int)<=1048576:=by omega
   have g3:(1048576:Int)<(len2:Int):=by omega
   go_enter Tryz.func6,Tryz.ntmps6;go_wp2;go_ret;exact⟨rfl,Below.refl _ _⟩
 have g1:(len:Int)<=1048576:=by omega
 have g3:(len2:Int)<=1048576:=by omega
 have g4:(0:Int)<=(len2:Int):=by omega
 go_enter Tryz.func6,Tryz.ntmps6;go_wp2_with fail;refine(Ow a len cap zs w h).mono ?_;rintro e w1 ⟨s0,rfl,hs0,B⟩;obtain⟨t,rfl⟩:∃ t,s0=str t:=⟨tx s0,(Nn s0).symm⟩;have H:=hid B;clear B h h2 hm hm2 g;have C:=fun W (TW:TabsD W)=>KX (str t) W TW (by omega);have S:=fun W=>OH (str t) W (by omega);rw[Cz] at C S;cases ho:Nh t with
 | none =>
  rw[ho] at C S;have hb:rz.xs.length<=60/\rz.hs.length<=100:=by decide
  obtain⟨r0,hz⟩:∃ r0,rz=r0:=⟨_,rfl⟩;rw[hz] at hb;obtain⟨l,p,s,xs,hs,q⟩:=r0;have hr:(none:Option Rep).getD rz=⟨l,p,s,xs,hs,q⟩:=hz;obtain⟨hb1,hb2⟩:=hb;dsimp only at hb1 hb2;clear hz;replace C:=hid C;replace S:=hid S;go_wp2_with fail;refine(C.out _ (T.out.step H.out)).mono ?_;intro e w2 hD;obtain⟨A,n,c,HH,m,d,rfl,Y,Z,B⟩:=dec_of hD hr rfl;clear hD;simp only[Option.isSome_none,Option.isSome_some];obtain rfl:xs.length=n:=Y.1;obtain rfl:hs.length=m:=Z.1;generalize hxn:xs.length=n at *;generalize hhm:hs.length=m at *
  have D:CellsAt (w2.alloc (.cells #[.int .i64 l,.int .i64 p,.int .i64 s,.slice A n c,.slice HH m d,.int .i64 q] 26)) w2.heap.size (AR l p s A n c HH m d q):=CellsAt.new _ _ _ _ rfl;have BA:=Ab (Ac w2) (.cells #[.int .i64 l,.int .i64 p,.int .i64 s,.slice A n c,.slice HH m d,.int .i64 q] 26);replace Y:=hid (Y.step BA);replace Z:=hid (Z.step BA);replace H:=hid (Aa (Aa H.out B) BA);clear B BA;replace D:=hid D;go_wp2_with fail;refine(S.out _).mono ?_;intro e w3 hD;obtain⟨A2,n2,c2,H2,m2,d2,rfl,Y2,Z2,B⟩:=dec_of hD hr rfl;clear hD;simp only[Option.isSome_none,Option.isSome_some];obtain rfl:n=n2:=hxn.symm.trans Y2.1
  obtain rfl:m=m2:=hhm.symm.trans Z2.1;have BA:=Ab (Ac w3) (.cells #[.int .i64 l,.int .i64 p,.int .i64 s,.slice A2 n c2,.slice H2 m d2,.int .i64 q] 26);replace B:=Aa B BA;replace D:=hid (D.out.step B);replace Y:=hid (Y.out.step B);replace Z:=hid (Z.out.step B);replace H:=hid (Aa H.out B);replace Y2:=hid (Y2.step BA);replace Z2:=hid (Z2.step BA);have D2:CellsAt (w3.alloc (.cells #[.int .i64 l,.int .i64 p,.int .i64 s,.slice A2 n c2,.slice H2 m d2,.int .i64 q] 26)) w3.heap.size (AR l p s A2 n c2 H2 m d2 q):=CellsAt.new _ _ _ _ rfl;clear B BA S
  have X:=hid (fun W (q1:Inputs W A n xs) (q2:Ints W HH m hs) (q3:Inputs W A2 n xs) (q4:Ints W H2 m hs)=>D5 l p s A n c HH m d q A2 n c2 H2 m d2 xs hs W q1 q2 q3 q4 (by omega) (by omega));replace D:=D.out;have c0:=D.cell 0 _ rfl;have c1:=D.cell 1 _ rfl;have c2:=D.cell 2 _ rfl;have c3:=D.cell 3 _ rfl;have c4:=D.cell 4 _ rfl;have c5:=D.cell 5 _ rfl;have cl:=D.lt;have k0:=D2.cell 0 _ rfl;have k1:=D2.cell 1 _ rfl;have k2:=D2.cell 2 _ rfl;have k3:=D2.cell 3 _ rfl;have k4:=D2.cell 4 _ rfl;have k5:=D2.cell 5 _ rfl;have kl:=D2.lt;replace D:=hid D;replace D2:=hid D2;go_wp2_with fail;refine(X.out _ Y.out Z.out Y2.out Z2.out).mono ?_
  rintro e w4 ⟨rfl,B⟩;clear c0 c1 c2 c3 c4 c5 cl k0 k1 k2 k3 k4 k5 kl;replace D:=D.out.step B;replace D2:=D2.out.step B;replace Y:=hid (Y.out.step B);replace Z:=hid (Z.out.step B);replace Y2:=hid (Y2.out.step B);replace Z2:=hid (Z2.out.step B);replace H:=hid (Aa H.out B);clear B;have c0:=D.cell 0 _ rfl;have c1:=D.cell 1 _ rfl;have c2:=D.cell 2 _ rfl;have c3:=D.cell 3 _ rfl;have c4:=D.cell 4 _ rfl;have c5:=D.cell 5 _ rfl;have cl:=D.lt;have k0:=D2.cell 0 _ rfl;have k1:=D2.cell 1 _ rfl;have k2:=D2.cell 2 _ rfl;have k3:=D2.cell 3 _ rfl;have k4:=D2.cell 4 _ rfl;have k5:=D2.cell 5 _ rfl;have kl:=D2.lt;go_wp2_with fail
  refine(X.out _ Y.out Z.out Y2.out Z2.out).mono ?_;rintro e w5 ⟨rfl,B⟩;clear c0 c1 c2 c3 c4 c5 cl k0 k1 k2 k3 k4 k5 kl;replace H:=Aa H.out B;go_wp2;go_ret;exact⟨rfl,H⟩
 | some r =>
  obtain⟨hok,ht⟩:=OA ho;rw[ho] at C S;have hb1:r.xs.length<=60:=(AO.1 (DC hok).2.2.2.2.1).2;have hb2:r.hs.length<=100:=by have:=(DC hok).2.2.2.2.2.1; omega
  obtain⟨l,p,s,xs,hs,q⟩:=r;dsimp only at hb1 hb2;have hr:(some (⟨l,p,s,xs,hs,q⟩:Rep)).getD rz=⟨l,p,s,xs,hs,q⟩:=rfl;replace C:=hid C;replace S:=hid S;go_wp2_with fail;refine(C.out _ (T.out.step H.out)).mono ?_;intro e w2 hD;obtain⟨A,n,c,HH,m,d,rfl,Y,Z,B⟩:=dec_of hD hr rfl;clear hD;simp only[Option.isSome_none,Option.isSome_some];obtain rfl:xs.length=n:=Y.1;obtain rfl:hs.length=m:=Z.1;generalize hxn:xs.length=n at *;generalize hhm:hs.length=m at *
  have D:CellsAt (w2.alloc (.cells #[.int .i64 l,.int .i64 p,.int .i64 s,.slice A n c,.slice HH m d,.int .i64 q] 26)) w2.heap.size (AR l p s A n c HH m d q):=CellsAt.new _ _ _ _ rfl;have BA:=Ab (Ac w2) (.cells #[.int .i64 l,.int .i64 p,.int .i64 s,.slice A n c,.slice HH m d,.int .i64 q] 26);replace Y:=hid (Y.step BA);replace Z:=hid (Z.step BA);replace H:=hid (Aa (Aa H.out B) BA);clear B BA;replace D:=hid D;go_wp2_with fail;refine(S.out _).mono ?_;intro e w3 hD;obtain⟨A2,n2,c2,H2,m2,d2,rfl,Y2,Z2,B⟩:=dec_of hD hr rfl;clear hD;simp only[Option.isSome_none,Option.isSome_some];obtain rfl:n=n2:=hxn.symm.trans Y2.1
  obtain rfl:m=m2:=hhm.symm.trans Z2.1;have BA:=Ab (Ac w3) (.cells #[.int .i64 l,.int .i64 p,.int .i64 s,.slice A2 n c2,.slice H2 m d2,.int .i64 q] 26);replace B:=Aa B BA;replace D:=hid (D.out.step B);replace Y:=hid (Y.out.step B);replace Z:=hid (Z.out.step B);replace H:=hid (Aa H.out B);replace Y2:=hid (Y2.step BA);replace Z2:=hid (Z2.step BA);have D2:CellsAt (w3.alloc (.cells #[.int .i64 l,.int .i64 p,.int .i64 s,.slice A2 n c2,.slice H2 m d2,.int .i64 q] 26)) w3.heap.size (AR l p s A2 n c2 H2 m d2 q):=CellsAt.new _ _ _ _ rfl;clear B BA S
  have X:=hid (fun W (q1:Inputs W A n xs) (q2:Ints W HH m hs) (q3:Inputs W A2 n xs) (q4:Ints W H2 m hs)=>D5 l p s A n c HH m d q A2 n c2 H2 m d2 xs hs W q1 q2 q3 q4 (by omega) (by omega));replace D:=D.out;have c0:=D.cell 0 _ rfl;have c1:=D.cell 1 _ rfl;have c2:=D.cell 2 _ rfl;have c3:=D.cell 3 _ rfl;have c4:=D.cell 4 _ rfl;have c5:=D.cell 5 _ rfl;have cl:=D.lt;have k0:=D2.cell 0 _ rfl;have k1:=D2.cell 1 _ rfl;have k2:=D2.cell 2 _ rfl;have k3:=D2.cell 3 _ rfl;have k4:=D2.cell 4 _ rfl;have k5:=D2.cell 5 _ rfl;have kl:=D2.lt;replace D:=hid D;replace D2:=hid D2;go_wp2_with fail;refine(X.out _ Y.out Z.out Y2.out Z2.out).mono ?_
  rintro e w4 ⟨rfl,B⟩;clear c0 c1 c2 c3 c4 c5 cl k0 k1 k2 k3 k4 k5 kl;replace D:=D.out.step B;replace Y:=hid (Y.out.step B);replace Z:=hid (Z.out.step B);replace H:=hid (Aa H.out B);clear B D2 Y2 Z2 X;clear D Y Z C;obtain⟨M,hM⟩:∃ M,(str t).size=M:=⟨_,rfl⟩;have hMt:t.length=M:=by rw[<- Oo,hM]
  have hlast:t[M-1]?=some 10:=by
   obtain⟨_,v,hv⟩:=Oh ho;have:v.length+1=M:=by rw[<- hMt,hv]; simp
   rw[hv,List.getElem?_append_right (by omega)];rw[show M-1-v.length=0 by omega]; rfl
  have hM1:0<M:=by
   obtain⟨_,v,hv⟩:=Oh ho;rw[<- hMt,hv]; simp
  rw[hM] at hs0;obtain⟨j,hj,hjM⟩:∃ j:Nat,(len2:Int).tmod (M:Int)=(j:Int)/\j<M:=⟨len2 % M,rfl,Nat.mod_lt _ hM1⟩;have hj2:(len2:Int) % (M:Int)=(j:Int):=by rw[<- hj]; exact(Int.tmod_eq_emod_of_nonneg g4).symm
  have nM:((M:Nat):Int)≠0:=by omega
  have hw1:IntKind.i64.wrap ((M:Int)-1)=(M:Int)-1:=IntWalk.i64_in _ (by omega);replace hlast:=hid hlast;replace ho:=hid ho;replace hMt:=hid hMt;go_wp2
  go_loopw [10] (fun iv W=>∃ k:Nat,k<M/\iv=.int .i64 k/\Below w.heap.size w W) (fun i _=>M-(RowKit.intOf i).toNat)
  case atStart=>exact⟨j,hjM,rfl,H.out⟩
  case round =>
   clear H;obtain⟨k,hk,rfl,B⟩:=hrel;replace B:=hid B;have hlt2:k<(str t).size:=by omega
   have hk1:(k:Int)+1<=3000:=by omega
   by_cases hlt:k<M-1
   . have q0:(k:Int)<(M:Int)-1:=by omega
     by_cases hb:(str t)[k]=10
     . have q:(((str t)[k].toNat:Int) != 10)=false:=by rw[hb]; rfl
       have q2:((str t)[k].toNat != 10)=false:=by rw[hb]; rfl
       have hkt:t[k]?=some 10:=by rw[List.getElem?_eq_getElem (by rw[hMt.out]; exact hk)]; exact congrArg some hb
       replace hkt:=hid hkt;clear hb;have c1:(k:Int)<=(M:Int):=by omega
       have CB:=fun W (TW:TabsD W)=>KX (str (t.take k++32::t.drop k)) W TW (by have:=hMt.out; rw[Oo,List.length_append,List.length_cons,List.length_take,List.length_drop]; omega);rw[Cz] at CB;have hnone:Nh (t.take k++32::t.drop k)=none:=by
        have hd:=hkt.out;have e:t.drop k=10::t.drop (k+1):=by rw[List.drop_eq_getElem_cons (by rw[hMt.out]; exact hk)]; rw[List.getElem?_eq_getElem (by rw[hMt.out]; exact hk)] at hd; rw[Option.some.inj hd]
        have ho2:=ho.out;rw[<- List.take_append_drop k t,e] at ho2;rw[e];exact Ge ho2
       rw[hnone] at CB;have ex1:(str t).extract 0 k=str (t.take k):=by rw[Hs,List.drop_zero,Cz]
       have ex2:(str t).extract k M=str (t.drop k):=by rw[Hs,Cz,List.take_of_length_le (Nat.le_of_eq hMt.out)]
       have ex3:str (t.take k)++⟨#[32]⟩=str (t.take k++[32]):=CO _ [32];have ex4:str (t.take k++[32])++str (t.drop k)=str (t.take k++32::t.drop k):=by rw[CO]; simp
       have nl1:¬ (9223372036854775807<min k (List.length t)+1):=by have:=hMt.out; omega
       have nl2:¬ (9223372036854775807<min k (List.length t)+1+(List.length t-k)):=by have:=hMt.out; omega
       replace CB:=hid CB;clear hnone hkt hlast ho;go_upto_region 11 with fail;refine wp_region_held_drew (S:=fun w'=>True) (by kernel_rfl) trivial (fun hHeld=>?_);refine tl 0 ?_ ?_ hHeld ?_;rotate_left
       . intro w hSw
         try dsimp only at hSw
         go_simp
         all_goals with_reducible rfl
       try simp only[Act.put,sx]
       refine tl 1 ?_ ?_ hHeld ?_;rotate_left
       . intro w hSw
         try dsimp only at hSw
         go_simp
         all_goals with_reducible rfl
       try simp only[Act.put,sx]
       refine tl 2 ?_ ?_ hHeld ?_;rotate_left
       . intro w hSw
         try dsimp only at hSw
         go_simp
         all_goals with_reducible rfl
       try simp only[Act.put,sx]
       refine tl 3 ?_ ?_ hHeld ?_;rotate_left
       . intro w hSw
         try dsimp only at hSw
         go_simp
         all_goals with_reducible rfl
       try simp only[Act.put,sx]
       refine tl 4 ?_ ?_ hHeld ?_;rotate_left
       . intro w hSw
         try dsimp only at hSw
         go_simp
         all_goals with_reducible rfl
       try simp only[Act.put,sx]
       refine tl 5 ?_ ?_ hHeld ?_;rotate_left
       . intro w hSw
         try dsimp only at hSw
         go_simp
         all_goals with_reducible rfl
       try simp only[Act.put,sx]
       refine tl 6 ?_ ?_ hHeld ?_;rotate_left
       . intro w hSw
         try dsimp only at hSw
         go_simp
         all_goals with_reducible rfl
       try simp only[Act.put,sx]
       refine tl 7 ?_ ?_ hHeld ?_;rotate_left
       . intro w hSw
         try dsimp only at hSw
         go_simp
         all_goals with_reducible rfl
       try simp only[Act.put,sx]
       refine wpAnyH_ready (rs:=[8,12]) (by kernel_rfl) (by simp) ?_;refine(AllReadyH.cons (o:=_) rfl (fun K hK=>?_) (AllReadyH.cons (o:=_) rfl (fun K hK=>?_) AllReadyH.nil))
       . skip
         go_simp
         go_at_call 10
         refine(CB.out _ (T.out.step (AY B.out 1))).mono ?_;intro e w5 hD;obtain⟨A5,n5,c5,H5,m5,d5,rfl,_,_,B5⟩:=dec_of hD (show(none:Option Rep).getD rz=⟨0,0,0,[],[],0⟩ from rfl) rfl;clear hD;have hB5:=hid (Aa (AY B.out 1) B5);clear hHeld;go_wp2_with fail;refine hK.out _ _ trivial (fun hHeld=>?_);clear hK K
         try simp only[Act.put,sx]
         refine tl 9 ?_ ?_ hHeld ?_;rotate_left
         . intro w hSw
           try dsimp only at hSw
           go_simp
           all_goals with_reducible rfl
         try simp only[Act.put,sx]
         refine tl 10 ?_ ?_ hHeld ?_;rotate_left
         . intro w hSw
           try dsimp only at hSw
           go_simp
           all_goals with_reducible rfl
         try simp only[Act.put,sx]
         refine tl 11 ?_ ?_ hHeld ?_;rotate_left
         . intro w hSw
           try dsimp only at hSw
           go_simp
           all_goals with_reducible rfl
         try simp only[Act.put,sx]
         refine wpAnyH_ready (rs:=[12]) (by kernel_rfl) (by simp) ?_;apply AllReadyH.cons rfl ?_ AllReadyH.nil;intro K hK;dsimp only[List.getElem_toArray,List.getElem_cons_succ,List.getElem_cons_zero];rw[if_pos (by rfl)];refine AG rfl ?_;intro g8 wn B8 hg8 X8;have hB8:=hid (Aa hB5.out B8);clear hHeld;refine hK.out _ _ trivial (fun hHeld=>?_);clear hK K
         try simp only[Act.put,sx]
         refine wpAnyH_ready (rs:=[13]) (by kernel_rfl) (by simp) ?_;apply AllReadyH.cons rfl ?_ AllReadyH.nil;intro K hK;dsimp only[List.getElem_toArray,List.getElem_cons_succ,List.getElem_cons_zero];rw[if_pos (by rfl)];refine Ao 26 (.tmp 11) (.tmp 82) rfl g8 rfl ((AR 0 0 0 A5 n5 c5 H5 m5 d5 0)) rfl _ X8 (by simp) Ae rfl ?_;intro wZ KZ XZ;have hBZ:=hid (hB8.out.trans (KZ.below hB8.out.size (by have:=hB5.out.size; omega)));clear hHeld;refine hK.out _ _ trivial (fun hHeld=>?_);clear hK K
         try simp only[Act.put,sx]
         refine tl 14 ?_ ?_ hHeld ?_;rotate_left
         . intro w hSw
           try dsimp only at hSw
           go_simp
           all_goals with_reducible rfl
         try simp only[Act.put,sx]
         refine wpAnyH_done (by kernel_rfl) ?_ _;clear hHeld;go_wp2;go_ret;exact⟨rfl,hBZ.out⟩
       . skip
         dsimp only[List.getElem_toArray,List.getElem_cons_succ,List.getElem_cons_zero];rw[if_pos (by rfl)];refine AG rfl ?_;intro g8 wn B8 hg8 X8;have hB8:=hid (Aa (AY B.out 1) B8);clear hHeld;refine hK.out _ _ trivial (fun hHeld=>?_);clear hK K
         try simp only[Act.put,sx]
         refine wpAnyH_ready (rs:=[8]) (by kernel_rfl) (by simp) ?_;apply AllReadyH.cons rfl ?_ AllReadyH.nil;intro K hK;go_simp
         go_at_call 10
         refine(CB.out _ (T.out.step (hB8.out))).mono ?_;intro e w5 hD;obtain⟨A5,n5,c5,H5,m5,d5,rfl,_,_,B5⟩:=dec_of hD (show(none:Option Rep).getD rz=⟨0,0,0,[],[],0⟩ from rfl) rfl;clear hD;have hB5:=hid (Aa hB8.out B5);have X9:=X8.step B5;clear hHeld;go_wp2_with fail;refine hK.out _ _ trivial (fun hHeld=>?_);clear hK K
         try simp only[Act.put,sx]
         refine tl 9 ?_ ?_ hHeld ?_;rotate_left
         . intro w hSw
           try dsimp only at hSw
           go_simp
           all_goals with_reducible rfl
         try simp only[Act.put,sx]
         refine tl 10 ?_ ?_ hHeld ?_;rotate_left
         . intro w hSw
           try dsimp only at hSw
           go_simp
           all_goals with_reducible rfl
         try simp only[Act.put,sx]
         refine tl 11 ?_ ?_ hHeld ?_;rotate_left
         . intro w hSw
           try dsimp only at hSw
           go_simp
           all_goals with_reducible rfl
         try simp only[Act.put,sx]
         refine wpAnyH_ready (rs:=[13]) (by kernel_rfl) (by simp) ?_;apply AllReadyH.cons rfl ?_ AllReadyH.nil;intro K hK;dsimp only[List.getElem_toArray,List.getElem_cons_succ,List.getElem_cons_zero];rw[if_pos (by rfl)];refine Ao 26 (.tmp 11) (.tmp 82) rfl g8 rfl ((AR 0 0 0 A5 n5 c5 H5 m5 d5 0)) rfl _ X9 (by simp) Ae rfl ?_;intro wZ KZ XZ;have hsz:wr.drew.heap.size=wr.heap.size:=rfl;have hBZ:=hid (hB5.out.trans (KZ.below hB5.out.size (by have:=B.out.size; omega)));clear hHeld;refine hK.out _ _ trivial (fun hHeld=>?_);clear hK K
         try simp only[Act.put,sx]
         refine tl 14 ?_ ?_ hHeld ?_;rotate_left
         . intro w hSw
           try dsimp only at hSw
           go_simp
           all_goals with_reducible rfl
         try simp only[Act.put,sx]
         refine wpAnyH_done (by kernel_rfl) ?_ _;clear hHeld;go_wp2;go_ret;exact⟨rfl,hBZ.out⟩
     . have q:(((str t)[k].toNat:Int) != 10)=true:=by rw[bne_iff_ne]; intro x; exact hb (UInt8.toNat_inj.1 (by have e:(10:UInt8).toNat=10:=rfl; omega))
       have q2:((str t)[k].toNat != 10)=true:=by rw[bne_iff_ne]; intro x; exact hb (UInt8.toNat_inj.1 (by have e:(10:UInt8).toNat=10:=rfl; omega))
       clear hb;go_wp2
       go_roundw
       case rel=>exact⟨k+1,by omega,by go_num,B.out⟩
       case measure=>simp[RowKit.intOf]; omega
   . obtain rfl:k=M-1:=by omega
     have q0:¬ (((M-1:Nat):Int)<(M:Int)-1):=by omega
     have hkt:=hlast;generalize hkk:M-1=k at *;replace hkk:=hid hkk;have c1:(k:Int)<=(M:Int):=by omega
     have CB:=fun W (TW:TabsD W)=>KX (str (t.take k++32::t.drop k)) W TW (by have:=hMt.out; rw[Oo,List.length_append,List.length_cons,List.length_take,List.length_drop]; omega);rw[Cz] at CB;have hnone:Nh (t.take k++32::t.drop k)=none:=by
      have hd:=hkt.out;have e:t.drop k=10::t.drop (k+1):=by rw[List.drop_eq_getElem_cons (by rw[hMt.out]; exact hk)]; rw[List.getElem?_eq_getElem (by rw[hMt.out]; exact hk)] at hd; rw[Option.some.inj hd]
      have ho2:=ho.out;rw[<- List.take_append_drop k t,e] at ho2;rw[e];exact Ge ho2
     rw[hnone] at CB;have ex1:(str t).extract 0 k=str (t.take k):=by rw[Hs,List.drop_zero,Cz]
     have ex2:(str t).extract k M=str (t.drop k):=by rw[Hs,Cz,List.take_of_length_le (Nat.le_of_eq hMt.out)]
     have ex3:str (t.take k)++⟨#[32]⟩=str (t.take k++[32]):=CO _ [32];have ex4:str (t.take k++[32])++str (t.drop k)=str (t.take k++32::t.drop k):=by rw[CO]; simp
     have nl1:¬ (9223372036854775807<min k (List.length t)+1):=by have:=hMt.out; omega
     have nl2:¬ (9223372036854775807<min k (List.length t)+1+(List.length t-k)):=by have:=hMt.out; omega
     replace CB:=hid CB;clear hnone hkt hlast ho;go_upto_region 11 with fail;refine wp_region_held_drew (S:=fun w'=>True) (by kernel_rfl) trivial (fun hHeld=>?_);refine tl 0 ?_ ?_ hHeld ?_;rotate_left
     . intro w hSw
       try dsimp only at hSw
       go_simp
       all_goals with_reducible rfl
     try simp only[Act.put,sx]
     refine tl 1 ?_ ?_ hHeld ?_;rotate_left
     . intro w hSw
       try dsimp only at hSw
       go_simp
       all_goals with_reducible rfl
     try simp only[Act.put,sx]
     refine tl 2 ?_ ?_ hHeld ?_;rotate_left
     . intro w hSw
       try dsimp only at hSw
       go_simp
       all_goals with_reducible rfl
     try simp only[Act.put,sx]
     refine tl 3 ?_ ?_ hHeld ?_;rotate_left
     . intro w hSw
       try dsimp only at hSw
       go_simp
       all_goals with_reducible rfl
     try simp only[Act.put,sx]
     refine tl 4 ?_ ?_ hHeld ?_;rotate_left
     . intro w hSw
       try dsimp only at hSw
       go_simp
       all_goals with_reducible rfl
     try simp only[Act.put,sx]
     refine tl 5 ?_ ?_ hHeld ?_;rotate_left
     . intro w hSw
       try dsimp only at hSw
       go_simp
       all_goals with_reducible rfl
     try simp only[Act.put,sx]
     refine tl 6 ?_ ?_ hHeld ?_;rotate_left
     . intro w hSw
       try dsimp only at hSw
       go_simp
       all_goals with_reducible rfl
     try simp only[Act.put,sx]
     refine tl 7 ?_ ?_ hHeld ?_;rotate_left
     . intro w hSw
       try dsimp only at hSw
       go_simp
       all_goals with_reducible rfl
     try simp only[Act.put,sx]
     refine wpAnyH_ready (rs:=[8,12]) (by kernel_rfl) (by simp) ?_;refine(AllReadyH.cons (o:=_) rfl (fun K hK=>?_) (AllReadyH.cons (o:=_) rfl (fun K hK=>?_) AllReadyH.nil))
     . skip
       go_simp
       go_at_call 10
       refine(CB.out _ (T.out.step (AY B.out 1))).mono ?_;intro e w5 hD;obtain⟨A5,n5,c5,H5,m5,d5,rfl,_,_,B5⟩:=dec_of hD (show(none:Option Rep).getD rz=⟨0,0,0,[],[],0⟩ from rfl) rfl;clear hD;have hB5:=hid (Aa (AY B.out 1) B5);clear hHeld;go_wp2_with fail;refine hK.out _ _ trivial (fun hHeld=>?_);clear hK K
       try simp only[Act.put,sx]
       refine tl 9 ?_ ?_ hHeld ?_;rotate_left
       . intro w hSw
         try dsimp only at hSw
         go_simp
         all_goals with_reducible rfl
       try simp only[Act.put,sx]
       refine tl 10 ?_ ?_ hHeld ?_;rotate_left
       . intro w hSw
         try dsimp only at hSw
         go_simp
         all_goals with_reducible rfl
       try simp only[Act.put,sx]
       refine tl 11 ?_ ?_ hHeld ?_;rotate_left
       . intro w hSw
         try dsimp only at hSw
         go_simp
         all_goals with_reducible rfl
       try simp only[Act.put,sx]
       refine wpAnyH_ready (rs:=[12]) (by kernel_rfl) (by simp) ?_;apply AllReadyH.cons rfl ?_ AllReadyH.nil;intro K hK;dsimp only[List.getElem_toArray,List.getElem_cons_succ,List.getElem_cons_zero];rw[if_pos (by rfl)];refine AG rfl ?_;intro g8 wn B8 hg8 X8;have hB8:=hid (Aa hB5.out B8);clear hHeld;refine hK.out _ _ trivial (fun hHeld=>?_);clear hK K
       try simp only[Act.put,sx]
       refine wpAnyH_ready (rs:=[13]) (by kernel_rfl) (by simp) ?_;apply AllReadyH.cons rfl ?_ AllReadyH.nil;intro K hK;dsimp only[List.getElem_toArray,List.getElem_cons_succ,List.getElem_cons_zero];rw[if_pos (by rfl)];refine Ao 26 (.tmp 11) (.tmp 82) rfl g8 rfl ((AR 0 0 0 A5 n5 c5 H5 m5 d5 0)) rfl _ X8 (by simp) Ae rfl ?_;intro wZ KZ XZ;have hBZ:=hid (hB8.out.trans (KZ.below hB8.out.size (by have:=hB5.out.size; omega)));clear hHeld;refine hK.out _ _ trivial (fun hHeld=>?_);clear hK K
       try simp only[Act.put,sx]
       refine tl 14 ?_ ?_ hHeld ?_;rotate_left
       . intro w hSw
         try dsimp only at hSw
         go_simp
         all_goals with_reducible rfl
       try simp only[Act.put,sx]
       refine wpAnyH_done (by kernel_rfl) ?_ _;clear hHeld;go_wp2;go_ret;exact⟨rfl,hBZ.out⟩
     . skip
       dsimp only[List.getElem_toArray,List.getElem_cons_succ,List.getElem_cons_zero];rw[if_pos (by rfl)];refine AG rfl ?_;intro g8 wn B8 hg8 X8;have hB8:=hid (Aa (AY B.out 1) B8);clear hHeld;refine hK.out _ _ trivial (fun hHeld=>?_);clear hK K
       try simp only[Act.put,sx]
       refine wpAnyH_ready (rs:=[8]) (by kernel_rfl) (by simp) ?_;apply AllReadyH.cons rfl ?_ AllReadyH.nil;intro K hK;go_simp
       go_at_call 10
       refine(CB.out _ (T.out.step (hB8.out))).mono ?_;intro e w5 hD;obtain⟨A5,n5,c5,H5,m5,d5,rfl,_,_,B5⟩:=dec_of hD (show(none:Option Rep).getD rz=⟨0,0,0,[],[],0⟩ from rfl) rfl;clear hD;have hB5:=hid (Aa hB8.out B5);have X9:=X8.step B5;clear hHeld;go_wp2_with fail;refine hK.out _ _ trivial (fun hHeld=>?_);clear hK K
       try simp only[Act.put,sx]
       refine tl 9 ?_ ?_ hHeld ?_;rotate_left
       . intro w hSw
         try dsimp only at hSw
         go_simp
         all_goals with_reducible rfl
       try simp only[Act.put,sx]
       refine tl 10 ?_ ?_ hHeld ?_;rotate_left
       . intro w hSw
         try dsimp only at hSw
         go_simp
         all_goals with_reducible rfl
       try simp only[Act.put,sx]
       refine tl 11 ?_ ?_ hHeld ?_;rotate_left
       . intro w hSw
         try dsimp only at hSw
         go_simp
         all_goals with_reducible rfl
       try simp only[Act.put,sx]
       refine wpAnyH_ready (rs:=[13]) (by kernel_rfl) (by simp) ?_;apply AllReadyH.cons rfl ?_ AllReadyH.nil;intro K hK;dsimp only[List.getElem_toArray,List.getElem_cons_succ,List.getElem_cons_zero];rw[if_pos (by rfl)];refine Ao 26 (.tmp 11) (.tmp 82) rfl g8 rfl ((AR 0 0 0 A5 n5 c5 H5 m5 d5 0)) rfl _ X9 (by simp) Ae rfl ?_;intro wZ KZ XZ;have hsz:wr.drew.heap.size=wr.heap.size:=rfl;have hBZ:=hid (hB5.out.trans (KZ.below hB5.out.size (by have:=B.out.size; omega)));clear hHeld;refine hK.out _ _ trivial (fun hHeld=>?_);clear hK K
       try simp only[Act.put,sx]
       refine tl 14 ?_ ?_ hHeld ?_;rotate_left
       . intro w hSw
         try dsimp only at hSw
         go_simp
         all_goals with_reducible rfl
       try simp only[Act.put,sx]
       refine wpAnyH_done (by kernel_rfl) ?_ _;clear hHeld;go_wp2;go_ret;exact⟨rfl,hBZ.out⟩
end Go.Proofs.YtgbiagonfbnooaaGreatDoor
set_option linter.all false
set_option maxRecDepth 100000
set_option maxHeartbeats 8000000
namespace Go.Proofs.YtgbiagonfbnooaaGreatDoor.fnDecodeBlank
open Go.ChangeShapes Go.WideShapes Go.ChangeAt Go.RowKit Go.Joins
theorem contract(H:Type)(enc:TypeId × Value->H)(W:World)(base:Nat)(args:Array Value)(ds gs:List (DataW H))(before:List MemPlace)
 (hval0:∀(j:Nat) t v,Tryz.f6.params[j]?=some t->args[j]?=some v->Value.okWide Tryz.prog W .any base t v)
 (hW:DataW.Whole enc Tryz.prog Tryz.f6.params.toList Rows.fnDecodeBlankSpec.vars false W args.toList ds gs before) (hSh:W.ShapedOpen Tryz.prog) (hL:laidMetH Tryz.prog Rows.fnDecodeBlankRow.laid W) :
 Calls Tryz.prog 6 args W fun e W'=>∃ v,e=.returned v/\Rows.fnDecodeBlankSpec.post enc Tryz.prog Tryz.f6 false true false false W args v W':=by
 have hL2:laidMet Tryz.prog Rows.fnDecodeBlankRow.laid W:=(by rw[MakeChecks.laidMetH_plain _ _ _ (by kernel_rfl)] at hL; exact hL);have hQ:TabsD W:=Ln hL2 hSh (by simp[Rows.fnDecodeBlankRow]) (by simp[Rows.fnDecodeBlankRow]) (by simp[Rows.fnDecodeBlankRow]) (by simp[Rows.fnDecodeBlankRow]);have hval:∀(j:Nat) t v,Tryz.f6.params[j]?=some t->args[j]?=some v->Value.okWide Tryz.prog W .any base t v:=hval0;have hW':=hW;obtain⟨p,q,hA0,hV0,rfl,hfz,hnd⟩:=hW;have hA:DataW.TrodAll enc Tryz.prog W 0 (fun _=>true) true Tryz.f6.params.toList args.toList ds p:=hA0
 have hV:DataW.TrodVars enc Tryz.prog W (fun _=>true) ["loop.example/replayverifier/impl.lineWords"] gs q:=hV0;rw[Tryz.params6] at hA hval;obtain⟨v0,vs0,d0,ds0,p0,q0,hargs,rfl,rfl,h0,r0⟩:=trodAll_cons hA;obtain⟨v1,vs1,d1,ds1,p1,q1,rfl,rfl,rfl,h1,r1⟩:=trodAll_cons r0;obtain⟨rfl,rfl,rfl⟩:=trodAll_nil r1;obtain rfl:args=#[v0,v1]:=by cases args; simp_all
 obtain⟨a0,len0,cap0,rfl⟩:=okWide_slice Tryz.underlying22 (hval 0 22 v0 rfl rfl);have k0:=h0;have lt0:∀ x∈p0,x.block<W.heap.size:=by obtain⟨m,hm⟩:=k0; exact DataW.trod_lt m _ _ _ hm
 obtain⟨z0,w0⟩:∃ zs,IsRow .u8 W a0 len0 cap0 zs:=by
  obtain⟨fuel,hf⟩:=h0;rcases open_ints Tryz.underlying22 Tryz.underlying5 (by kernel_rfl) hf with⟨hcs,_⟩ | ⟨x,l,c,zs,hcs,_,hl,hm,hz,_,hcell,hwz⟩
  . simp[Value.cells] at hcs;obtain⟨rfl,rfl,rfl⟩:=hcs;exact⟨[],.inl ⟨rfl,rfl,rfl,rfl⟩⟩
  . simp[Value.cells] at hcs;obtain⟨rfl,rfl,rfl⟩:=hcs;exact⟨zs,.inr ⟨_,rfl,hl,hm,by simpa using hz,hcell,hwz⟩⟩
 obtain⟨a1,len1,cap1,rfl⟩:=okWide_slice Tryz.underlying22 (hval 1 22 v1 rfl rfl);have k1:=h1;have lt1:∀ x∈p1,x.block<W.heap.size:=by obtain⟨m,hm⟩:=k1; exact DataW.trod_lt m _ _ _ hm
 obtain⟨z1,w1⟩:∃ zs,IsRow .u8 W a1 len1 cap1 zs:=by
  obtain⟨fuel,hf⟩:=h1;rcases open_ints Tryz.underlying22 Tryz.underlying5 (by kernel_rfl) hf with⟨hcs,_⟩ | ⟨x,l,c,zs,hcs,_,hl,hm,hz,_,hcell,hwz⟩
  . simp[Value.cells] at hcs;obtain⟨rfl,rfl,rfl⟩:=hcs;exact⟨[],.inl ⟨rfl,rfl,rfl,rfl⟩⟩
  . simp[Value.cells] at hcs;obtain⟨rfl,rfl,rfl⟩:=hcs;exact⟨zs,.inr ⟨_,rfl,hl,hm,by simpa using hz,hcell,hwz⟩⟩
 clear hA0 hV0 hval0;refine(FR a0 len0 cap0 z0 a1 len1 cap1 z1 W w0 w1 hQ).mono fun e W' ⟨he,bel⟩=>?_;subst he;obtain⟨g,q',rfl,hv'⟩:=Hx hV bel hQ.toTabs;exact⟨_,rfl,_,_,_,[],_,q',hW',trodAll_mk1 (shut_bool Tryz.underlying4 _),(trodAll_cons_mk (Below.trod GU (by kernel_rfl) (of_decide_eq_true (by kernel_rfl)) k0 bel lt0) (trodAll_cons_mk (Below.trod GU (by kernel_rfl) (of_decide_eq_true (by kernel_rfl)) k1 bel lt1) trodAll_mk0)),hv',bel.frame _,fun h=>by cases h⟩
theorem laid_met(os:Os):laidMet Tryz.prog Rows.fnDecodeBlankRow.laid ((World.laidAll Tryz.prog os Rows.fnDecodeBlankRow.laid).forCall (fun _ _=>0) ⟨#[],#[.slice none 0 0,.slice none 0 0],[]⟩).memory :=
 laidMet_laidAll _ (by kernel_rfl) (by kernel_rfl)
theorem reads(os:Os){H:Type}(enc:TypeId × Value->H):∃ places,DataW.whole enc Tryz.prog ((World.laidAll Tryz.prog os Rows.fnDecodeBlankRow.laid).forCall (fun _ _=>0) ⟨#[],#[.slice none 0 0,.slice none 0 0],[]⟩).memory Tryz.f6.params.toList Rows.fnDecodeBlankSpec.vars false (#[.slice none 0 0,.slice none 0 0]:Array Value).toList 8=some ([.nil,.nil],[Np],places) :=
 ⟨MemPlace.row ⟨0,0,none⟩ 4,by kernel_rfl⟩
theorem lifted(os:Os)(started:os.Started)(H:Type)(enc:TypeId × Value->H)(F:Stop.Interp) :
 ReturnsInHanded {} Tryz.checked os 6 .any ((OpenSpec.ofChange Rows.fnDecodeBlankSpec).preRow enc Tryz.prog Tryz.f6 Rows.fnDecodeBlankRow.domain false Rows.fnDecodeBlankRow.laid) (((OpenSpec.ofChange Rows.fnDecodeBlankSpec).at F).post enc Tryz.prog Tryz.f6 false true false false):=by
 obtain⟨places,hx⟩:=reads os enc;refine returnsInHanded_of_row (C:=Tryz.checked) (s:=OpenSpec.ofChange Rows.fnDecodeBlankSpec) NZ started (by kernel_rfl) Tryz.func6
  (witness_row_at (enc:=enc) (C:=Tryz.checked) false (World.laidAll Tryz.prog os Rows.fnDecodeBlankRow.laid) #[.slice none 0 0,.slice none 0 0] (World.laidAll_os _ _ _) (by kernel_rfl) (by kernel_rfl) (by kernel_rfl)
   (OpenSpec.preRow_of_cond 8 hx (by kernel_rfl) (fun k hk=>by cases hk) (by kernel_rfl) (laid_met os))) ?_
 intro W base args ds gs before hval hW _ _ _ hL hSh _;exact contract H enc W base args ds gs before hval hW hSh hL
theorem said:Rows.FnDecodeBlankSaid :=
 OpenClaim.holds_of_cond 6 Tryz.f6 rfl rfl rfl rfl rfl rfl rfl ⟨rfl,rfl,rfl,rfl,rfl⟩ rfl rfl rfl rfl rfl (by kernel_rfl) Tryz.func6 (by kernel_rfl)
  (of_decide_eq_true (by kernel_rfl)) (by unfold Func.isWrapper; first | (rw[if_pos (by decide +kernel)]; kernel_rfl) | (rw[if_neg (by decide +kernel)]; exact⟨rfl,rfl⟩))
  (fun os started H enc _ F=>by rw[OpenClaim.pre_eq_preRow]; exact lifted os started H enc F)
theorem plain(f:FuncId)(fn:Func)(hf:Tryz.pinned.checked.prog.funcNamed "loop.example/replayverifier/laws.FnDecodeBlank" = some f)(hfn:Tryz.pinned.checked.prog.funcs[f]?=some fn) :
 true=Tryz.pinned.checked.prog.looks []/\∀(j:Nat) t,fn.params[j]?=some t->Tryz.pinned.checked.prog.wantsStandIn t=false:=by
 obtain rfl:f=6:=Option.some.inj ((show Tryz.prog.funcNamed "loop.example/replayverifier/laws.FnDecodeBlank" = some 6 by kernel_rfl).symm.trans hf) |>.symm;obtain rfl:fn=Tryz.f6:=(Option.some.inj (Tryz.func6.symm.trans hfn)).symm;refine⟨by kernel_rfl,fun j t ht=>?_⟩;rw[Tryz.params6] at ht;obtain rfl:t=22:=by simpa using Array.mem_of_getElem? ht
 exact(show Tryz.prog.wantsStandIn 22=false by kernel_rfl)
theorem proved:Rows.FnDecodeBlankCardSaid :=
 Claim7.holds_tied_plain_at .later [] _ _ _ _ said (fun _ h=>by cases h) (by kernel_rfl) (fun _ h=>by cases h) fnDecodeBlank_row_tie rfl ⟨rfl,rfl⟩ (by kernel_rfl) rfl plain (by kernel_rfl)
#print axioms proved
end Go.Proofs.YtgbiagonfbnooaaGreatDoor.fnDecodeBlank
