import Derived.Test.YtienbaikhliniaaZHashImpl
set_option linter.all false
set_option maxRecDepth 100000
set_option maxHeartbeats 8000000
open Go.Lib
namespace Go.Proofs.Ytienbaikhliniaa
open Go.RowKit
open M
theorem IsRow.ints{w:World}{a:Option Addr}{len cap:Nat}{zs:List Int}(h:IsRow .i64 w a len cap zs):len<=cap/\cap<=maxLen/\Ints w a len (zs.take len):=by
 rcases h with⟨rfl,rfl,rfl,rfl⟩ | ⟨x,rfl,hl,hm,hz,hcell,hwz⟩
 . exact⟨Nat.le_refl _,Nat.zero_le _,rfl,fun h=>absurd h (by omega)⟩
 . refine⟨hl,hm,by simp; omega,fun h0=>?_⟩;obtain⟨b,off,spot⟩:=x;have hc:=hcell 0 (by omega);have hspot:spot=Option.none:=by simpa[Addr.add] using World.cell?_spot hc
   subst hspot;refine⟨b,off,rfl,?_,fun i hi=>?_⟩
   . have:=A0 hc;simpa[Addr.add] using this
   . have hci:=hcell i (by omega);rw[Addr.add_lit] at hci;rw[hci,List.getD_eq_getElem?_getD,List.getD_eq_getElem?_getD,List.getElem?_take,if_pos hi]
theorem Bf(w:World)(m k:Nat):(w.drewN m).drewN k=w.drewN (m+k):=by simp[World.drewN,Nat.add_assoc]
def Cq(w:World)(n:Nat)(xs:List Int)(e:Ending)(w':World):Prop :=
 ∃ D c,e=.returned (.slice D n c)/\Ints w' D n xs/\Below w.heap.size w w'
def part(xs:List Int)(n k:Nat):List Int:=xs.take k++List.replicate (n-k) 0
theorem Bu(xs:List Int)(n:Nat):part xs n 0=List.replicate n 0:=by simp[part]
theorem BJ{xs:List Int}{n:Nat}(h:xs.length=n):part xs n n=xs:=by simp[part,<- h]
theorem BK{xs:List Int}{n k:Nat}(h:xs.length=n)(hk:k<=n):(part xs n k).length=n:=by simp[part]; omega
theorem Bv{xs:List Int}{n k:Nat}(h:xs.length=n)(hk:k<n):(part xs n k).set k (xs.getD k 0)=part xs n (k+1):=by
 unfold part;rw[Aw (by omega),List.set_append_right _ _ (by simp; omega)];have e:k-(xs.take k).length=0:=by simp; omega
 rw[e,show n-k=(n-(k+1))+1 by omega,List.replicate_succ,List.set_cons_zero,List.append_assoc];rfl
def Ci(w:World)(n:Nat)(xs:List Int)(i:Value)(W:World):Prop :=
 ∃ k:Nat,k<=n/\i=.int .i64 k/\W.ownsRow w.heap.size 3 1 (.slice (some ⟨w.heap.size,0,none⟩) n n) n ((part xs n k).map (Value.int .i64))/\Below w.heap.size w W
theorem Aj(A:Option Addr)(n cap:Nat)(xs:List Int)(w:World)(I:Ints w A n xs)(hn:n<=1048576) :
 Calls Try.prog 13 #[.slice A n cap] w (Cq w n xs):=by
 obtain⟨i0,hi,hz0,hz1,hz2⟩:=info_parts Au;have hl:=hid I.1;have I:=hid I;go_enter Try.func13,Try.ntmps13;go_wp2_with (at_make; refine wpList_make_full _ rfl _ _ 23 rfl w.heap.size 3 i0 (.int .i64 0) 1 Try.underlying23 hi hz0 hz1 .i64 .i64 _ _ n rfl rfl rfl rfl (by rw[hz2]; omega) (by unfold maxLen; omega) (Nat.le_refl _) ?_);intro w0 O0 G0;have O0:w0.ownsRow w.heap.size 3 1 (.slice (some ⟨w.heap.size,0,none⟩) n n) n ((part xs n 0).map (Value.int .i64)):=by
  rw[Bu,List.map_replicate];have t:=O0;rw[toList_madeCells_one] at t;exact t
 have B0:Below w.heap.size w w0:=(Am w).grown G0 (Nat.le_refl _) (fun k e=>by cases e);clear G0;go_wp2
 go_loopw [4] (Ci w n xs) (fun i _=>n-(intOf i).toNat)
 case atStart=>exact⟨0,Nat.zero_le _,rfl,O0,B0⟩
 case round =>
  obtain⟨k,hk,rfl,O,B⟩:=hrel;clear O0 B0;by_cases hlt:k<n
  . obtain⟨b,off,hA,hb,hc⟩:=(I.out.step B).2 (by omega);have ck:=hc k hlt;have f4:=O.frozenAt k;have c4:∃ u,_=some u:=⟨_,(O.cellAt k (by omega)).trans (List.getElem?_eq_getElem (by rw[List.length_map,BK hl.out hk]; exact hlt))⟩;obtain⟨u4,c4⟩:=c4;obtain⟨O5,G5⟩:=O.stored k (.int .i64 (xs.getD k 0));rw[<- List.map_set,Bv hl.out hlt] at O5;have O5:=hid O5;have H:=hid (Ae B w.heap.size k (.int .i64 (xs.getD k 0)) (Nat.le_refl _));clear hc O G5 B;subst hA;generalize xs.getD k 0=z at *;go_wp2
    go_roundw
    case rel=>exact⟨k+1,by omega,by go_num,O5.out,H.out⟩
    case measure=>simp[intOf]; omega
  . obtain rfl:k=n:=by omega
    rw[BJ hl.out] at O;obtain⟨D,c,hv,J⟩:=Ints.of_own O;simp only[Value.slice.injEq,true_and] at hv;obtain⟨rfl,rfl⟩:=hv;have J:=hid J;have B:=hid B;clear O;go_wp2;go_ret;exact⟨_,_,rfl,J.out,B.out⟩
theorem AA(A D:Option Addr)(n c d:Nat)(xs:List Int)(w:World)(I:Ints w A n xs)(J:Ints w D n xs)(hn:n<=1048576) :
 Calls Try.prog 14 #[.slice A n c,.slice D n d] w fun e w'=>e=.returned (.bool true)/\Below w.heap.size w w':=by
 have I:=hid I;have J:=hid J;go_enter Try.func14,Try.ntmps14;go_wp2
 go_loopw [5] (fun i W=>∃ k m:Nat,k<=n/\i=.int .i64 k/\w.drewN m=W) (fun i _=>n-(intOf i).toNat)
 case atStart=>exact⟨0,0,Nat.zero_le _,rfl,rfl⟩
 case round =>
  obtain⟨k,m,hk,rfl,rfl⟩:=hrel;by_cases hlt:k<n
  . obtain⟨b,off,hA,_,hc⟩:=I.out.2 (by omega);obtain⟨b2,off2,hD,_,hc2⟩:=J.out.2 (by omega);have ck:(w.drewN m).cell? ⟨b,off+k,none⟩=some (.int .i64 (xs.getD k 0)):=hc k hlt;have ck2:(w.drewN m).cell? ⟨b2,off2+k,none⟩=some (.int .i64 (xs.getD k 0)):=hc2 k hlt;clear hc hc2;subst hA hD;generalize xs.getD k 0=z at *;obtain⟨W,hW⟩:∃ W,w.drewN m=W:=⟨_,rfl⟩;rw[hW] at ck ck2 ⊢;have hW:=hid hW;go_wp2_with fail
    go_quiet (fail)
    go_wp2
    go_roundw
    case rel=>exact⟨k+1,m+_,by omega,by go_num,by rw[<- hW.out]; exact(Bf w m _).symm⟩
    case measure=>simp[intOf]; omega
  . go_wp2;go_ret;exact⟨rfl,Cl (Am w) m⟩
theorem As(k:Int)(a:Option Addr)(len cap:Nat)(zs:List Int)(w:World)(h:IsRow .i64 w a len cap zs) :
 Calls Try.prog 7 #[.int .i64 k,.slice a len cap] w fun e w'=>e=.returned (.bool true)/\Below w.heap.size w w':=by
 obtain⟨hm,hm2,I⟩:=h.ints;unfold maxLen at hm2;by_cases g:1048576<len
 . have g1:(1048576:Int)<(len:Int):=by omega
   go_enter Try.func7,Try.ntmps7;go_wp2;go_ret;exact⟨rfl,Below.refl _ _⟩
 have g1:(len:Int)<=1048576:=by omega
 generalize zs.take len=xs at I;have I:=hid I;clear h;go_enter Try.func7,Try.ntmps7;go_wp2_with fail;refine(Aj a len cap xs w I.out (by omega)).mono ?_;rintro e w1 ⟨D1,c1,rfl,J1,B1⟩;have I1:=hid (I.out.step B1);have H1:=hid B1;have J1:=hid J1;clear B1 I;go_wp2_with fail;refine(Aq k _ len _ xs _ J1.out (by omega)).mono ?_;rintro e w' ⟨rfl,rfl⟩;clear J1;go_wp2_with fail;refine(Aj a len cap xs _ I1.out (by omega)).mono ?_;rintro e w2 ⟨D2,c2,rfl,J2,B2⟩;have I2:=hid (I1.out.step B2);have H2:=hid (Ad H1.out B2);have J2:=hid J2;clear B2 I1 H1;go_wp2_with fail;refine(Ak k _ len _ xs _ J2.out (by omega)).mono ?_;rintro e w3 ⟨rfl,B3⟩
 have I3:=hid (I2.out.step B3);have J3:=hid (J2.out.step B3);have H3:=hid (Ad H2.out B3);clear B3 I2 H2 J2;go_wp2_with fail;refine(Aj a len cap xs _ I3.out (by omega)).mono ?_;rintro e w4 ⟨D4,c4,rfl,J4,B4⟩;have K4:=hid (J3.out.step B4);have H4:=hid (Ad H3.out B4);have J4:=hid J4;clear B4 I3 H3 J3;go_wp2_with fail;refine(AA _ _ len _ _ xs _ K4.out J4.out (by omega)).mono ?_;rintro e w5 ⟨rfl,B5⟩;have H5:=hid (Ad H4.out B5);clear B5;go_wp2;go_ret;exact⟨rfl,H5.out⟩
theorem Ap(k:Int)(a:Option Addr)(len cap:Nat)(zs:List Int)(t:Int)(w:World)(h:IsRow .i64 w a len cap zs) :
 Calls Try.prog 8 #[.int .i64 k,.slice a len cap,.int .i64 t] w fun e w'=>e=.returned (.bool true)/\Below w.heap.size w w':=by
 obtain⟨hm,hm2,I⟩:=h.ints;unfold maxLen at hm2;by_cases g:1048576<len
 . have g1:(1048576:Int)<(len:Int):=by omega
   go_enter Try.func8,Try.ntmps8;go_wp2;go_ret;exact⟨rfl,Below.refl _ _⟩
 have g1:(len:Int)<=1048576:=by omega
 generalize zs.take len=xs at I;have I:=hid I;clear h;go_enter Try.func8,Try.ntmps8;go_wp2_with fail;refine(Aj a len cap xs w I.out (by omega)).mono ?_;rintro e w1 ⟨D1,c1,rfl,J1,B1⟩;have I1:=hid (I.out.step B1);have H1:=hid B1;have J1:=hid J1;clear B1 I;go_wp2_with fail;refine(AW k _ len _ xs t _ J1.out (by omega)).mono ?_;rintro e w' ⟨rfl,rfl⟩;clear J1;go_wp2_with fail;refine(Aj a len cap xs _ I1.out (by omega)).mono ?_;rintro e w2 ⟨D2,c2,rfl,J2,B2⟩;have I2:=hid (I1.out.step B2);have H2:=hid (Ad H1.out B2);have J2:=hid J2;clear B2 I1 H1;go_wp2_with fail;refine(Ai k _ len _ xs t _ J2.out (by omega)).mono ?_
 rintro e w3 ⟨rfl,B3⟩;have I3:=hid (I2.out.step B3);have J3:=hid (J2.out.step B3);have H3:=hid (Ad H2.out B3);clear B3 I2 H2 J2;go_wp2_with fail;refine(Aj a len cap xs _ I3.out (by omega)).mono ?_;rintro e w4 ⟨D4,c4,rfl,J4,B4⟩;have K4:=hid (J3.out.step B4);have H4:=hid (Ad H3.out B4);have J4:=hid J4;clear B4 I3 H3 J3;go_wp2_with fail;refine(AA _ _ len _ _ xs _ K4.out J4.out (by omega)).mono ?_;rintro e w5 ⟨rfl,B5⟩;have H5:=hid (Ad H4.out B5);clear B5;go_wp2;go_ret;exact⟨rfl,H5.out⟩
end Go.Proofs.Ytienbaikhliniaa
