import Derived.Test.YtflmmdljkhdjlaaZLevLink
import Derived.Test.YtflmmdljkhdjlaaZLeg
set_option linter.all false
set_option maxRecDepth 100000
set_option maxHeartbeats 8000000
open Go.Lib
namespace Go.Proofs.Ytflmmdljkhdjlaa
open Go.RowKit
open M
def Mz(w:World)(n:Nat)(xs:List In)(e:Ending)(w':World):Prop :=
 ∃ u:Nat,e=.returned (.slice (some ⟨u,0,none⟩) n n)/\Inputs w' (some ⟨u,0,none⟩) n xs/\Below w.heap.size w w'
def Mt(w:World)(n:Nat)(xs:List In)(i:Value)(W:World):Prop :=
 ∃ k:Nat,k<=n/\i=.int .i64 k/\W.there w.heap.size 0 (n*3)/\(∀ j,j<k->InAt W w.heap.size (j*3) (xs.getD j iz))/\w.heap.size<W.heap.size/\Below w.heap.size w W
theorem InAt.other{W:World}{g o:Nat}{q:In}(h:InAt W g o q){p:Nat}(hp:p<o\/o+2<p)(v:Value):InAt (W.setCell ⟨g,p,none⟩ v) g o q :=
 ⟨(World.cell?_setCell_other _ _ _ _ (by first | (simp; done) | (simp; omega))).trans h.c0,(World.cell?_setCell_other _ _ _ _ (by first | (simp; done) | (simp; omega))).trans h.c1,(World.cell?_setCell_other _ _ _ _ (by first | (simp; done) | (simp; omega))).trans h.c2⟩
theorem LN{w W:World}{n k:Nat}{xs:List In}{a b:Int}{c:Bool}(hk:k<n)(T:W.there w.heap.size 0 (n*3))(hc:∀ j,j<k->InAt W w.heap.size (j*3) (xs.getD j iz))(hq:xs.getD k iz=⟨a,b,c⟩)(hl:w.heap.size<W.heap.size)(B:Below w.heap.size w W) :
 Mt w n xs (.int .i64 (k+1)) (((W.setCell ⟨w.heap.size,k*3,none⟩ (.int .i64 a)).setCell ⟨w.heap.size,k*3+1,none⟩ (.int .i64 b)).setCell ⟨w.heap.size,k*3+2,none⟩ (.bool c)):=by
 have t0:=(T (k*3) (by omega)).1;rw[Nat.zero_add] at t0;have s1:=Lr T (k*3) (.int .i64 a);have s2:=Lr s1 (k*3+1) (.int .i64 b);refine⟨k+1,by omega,by simp,Lr s2 _ _,fun j hj=>?_,by simpa[World.setCell] using hl,Ar (Ar (Ar B _ _ _ (Nat.le_refl _)) _ _ _ (Nat.le_refl _)) _ _ _ (Nat.le_refl _)⟩;by_cases e:j=k
 . subst e;rw[hq];refine⟨?_,?_,?_⟩
   . rw[World.cell?_setCell_other _ _ _ _ (by simp),World.cell?_setCell_other _ _ _ _ (by simp)];exact World.cell?_setCell_same' _ _ _ t0
   . rw[World.cell?_setCell_other _ _ _ _ (by simp)];exact World.cell?_setCell_same' _ _ _ (by have:=(s1 (j*3+1) (by omega)).1; rwa [Nat.zero_add] at this)
   . exact World.cell?_setCell_same' _ _ _ (by have:=(s2 (j*3+2) (by omega)).1; rwa [Nat.zero_add] at this)
 . exact(((hc j (by omega)).other (by omega) _).other (by omega) _).other (by omega) _
theorem LC(A:Option Addr)(n cap:Nat)(xs:List In)(w:World)(I:Inputs w A n xs)(hn:n<=1048576) :
 Calls Try.prog 33 #[.slice A n cap] w (Mz w n xs):=by
 obtain⟨i0,hi,hz0,hz1,hz2⟩:=info_parts Bs;have hl:=hid I.1;have I:=hid I;go_enter Try.func33,Try.ntmps33;go_wp2_with (at_make; refine wpList_make_full _ rfl _ _ 23 rfl w.heap.size 36 i0 (BH 0 0 false) 3 Try.underlying23 hi hz0 hz1 .i64 .i64 _ _ n rfl rfl rfl rfl (by rw[hz2]; omega) (by unfold maxLen; omega) (Nat.le_refl _) ?_);intro w0 O0 G0;have T0:w0.there w.heap.size 0 (n*3):=fun j hj=>by
  rw[Nat.zero_add];refine⟨?_,O0.frozenAt j⟩;rw[O0.cellAt j hj,List.getElem?_eq_getElem (by rw[O0.1]; exact hj)];rfl
 have L0:w.heap.size<w0.heap.size:=(O0.lt w.heap.size rfl).2;have B0:Below w.heap.size w w0:=(Ac w).grown G0 (Nat.le_refl _) (fun k e=>by cases e);clear G0 O0;go_wp2
 go_loopw [4] (Mt w n xs) (fun i _=>n-(intOf i).toNat)
 case atStart=>exact⟨0,Nat.zero_le _,rfl,T0,fun j hj=>absurd hj (by omega),L0,B0⟩
 case round =>
  obtain⟨k,hk,rfl,T,hc,L,B⟩:=hrel;clear T0 L0 B0;by_cases hlt:k<n
  . obtain⟨b,off,hA,hb,hcell⟩:=(I.out.step B).2 (by omega);obtain⟨c0,c1,c2⟩:=hcell k hlt;obtain⟨⟨za,zb,zc⟩,hq⟩:∃ q,xs.getD k iz=q:=⟨_,rfl⟩;rw[hq] at c0 c1 c2;simp only at c0 c1 c2;have hq:=hid hq;have T:=hid T;have hc:=hid hc;have B:=hid B;subst hA;clear hcell;go_wp2_with fail;refine(LD za zb zc _).mono ?_;rintro e w1 ⟨rfl,B1⟩;have T1:=hid (LB T.out B1 L);have hc1:=hid (fun j hj=>(hc.out j hj).of (B1.block _ L));have L1:=Nat.lt_of_lt_of_le L B1.size;have H1:=hid (Aa B.out B1);clear B1 T hc B L c0 c1 c2;obtain⟨u0,e0⟩:=Lu (T1.out (k*3) (by omega)).1;obtain⟨u1,e1⟩:=Lu (T1.out (k*3+1) (by omega)).1
    obtain⟨u2,e2⟩:=Lu (T1.out (k*3+2) (by omega)).1;have f0:=(T1.out (k*3) (by omega)).2;have f1:=(T1.out (k*3+1) (by omega)).2;have f2:=(T1.out (k*3+2) (by omega)).2;rw[Nat.zero_add] at e0 e1 e2 f0 f1 f2;go_wp2
    go_roundw
    case rel=>exact LN hlt T1.out hc1.out hq.out L1 H1.out
    case measure=>simp[intOf]; omega
  . have J:Inputs _ (some ⟨w.heap.size,0,none⟩) n xs:=⟨hl.out,fun _=>⟨w.heap.size,0,rfl,L,fun j hj=>by rw[Nat.zero_add]; exact hc j (by omega)⟩⟩;have J:=hid J;have B:=hid B;clear hc T;go_wp2;go_ret;exact⟨w.heap.size,rfl,J.out,B.out⟩
theorem Ls(A D:Option Addr)(n c d:Nat)(xs:List In)(w:World)(I:Inputs w A n xs)(J:Inputs w D n xs)(hn:n<=1048576) :
 Calls Try.prog 35 #[.slice A n c,.slice D n d] w fun e w'=>e=.returned (.bool true)/\Below w.heap.size w w':=by
 have I:=hid I;have J:=hid J;go_enter Try.func35,Try.ntmps35;go_wp2
 go_loopw [5] (fun i W=>∃ k:Nat,k<=n/\i=.int .i64 k/\Below w.heap.size w W) (fun i _=>n-(intOf i).toNat)
 case atStart=>exact⟨0,Nat.zero_le _,rfl,Ac w⟩
 case round =>
  obtain⟨k,hk,rfl,B⟩:=hrel;by_cases hlt:k<n
  . obtain⟨b1,o1,rfl,hb1,hc1⟩:=(I.out.step B).2 (by omega);obtain⟨b2,o2,rfl,hb2,hc2⟩:=(J.out.step B).2 (by omega);have Z:=(hc1 k hlt).lie hb1;have Y:=(hc2 k hlt).lie hb2;have Hb:=hid B;clear hc1 hc2 B;generalize xs.getD k iz=q at *;obtain⟨za,zb,zc⟩:=q;simp only at Z Y;go_wp2_with fail
    go_region_held3 (fun w'=>(w'.cell? ⟨b1,o1+k*3,none⟩=some (.int .i64 za)/\w'.cell? ⟨b1,o1+k*3+1,none⟩=some (.int .i64 zb)/\w'.cell? ⟨b1,o1+k*3+2,none⟩=some (.bool zc))/\(w'.cell? ⟨b2,o2+k*3,none⟩=some (.int .i64 za)/\w'.cell? ⟨b2,o2+k*3+1,none⟩=some (.int .i64 zb)/\w'.cell? ⟨b2,o2+k*3+2,none⟩=some (.bool zc)))
     (exact⟨AV (by repeat (first | with_reducible exact Z | with_reducible refine InIn.alloc ?_ _ | with_reducible refine InIn.drew ?_)),AV (by repeat (first | with_reducible exact Y | with_reducible refine InIn.alloc ?_ _ | with_reducible refine InIn.drew ?_))⟩)
     ((go_at_call 75; (with_reducible refine(LQ _ _ _ _).mono ?_); rintro e wn ⟨rfl,Bn⟩; have Z:=InIn.step (by first | with_reducible exact Z | with_reducible exact Z.drew) Bn; have Y:=InIn.step (by first | with_reducible exact Y | with_reducible exact Y.drew) Bn; have Hb:=hid (Aa (by first | with_reducible exact Hb.out | with_reducible exact AD Hb.out) Bn); clear Bn))
    all_goals
     go_wp2
     go_roundw
     case rel=>exact⟨k+1,by omega,by go_num,Hb.out⟩
     case measure=>simp[intOf]; omega
  . have B:=hid B;go_wp2;go_ret;exact⟨rfl,B.out⟩
theorem L8(A:Option Addr)(n c:Nat)(l:Int)(w:World)(hn:n<=9223372036854775807)(l0:0<=l)(l1:l<=1048576) :
 Calls Try.prog 32 #[.slice A n c,.int .i64 l] w fun e w'=>e=.returned (.int .i64 (if l-n<0 then -1 else l-n))/\w=w':=by
 by_cases h:l-(n:Int)<0
 . rw[if_pos h];go_enter Try.func32,Try.ntmps32;go_wp2;go_ret;exact⟨rfl,rfl⟩
 . rw[if_neg h];have h':0<=l-(n:Int):=by omega
   go_enter Try.func32,Try.ntmps32;go_wp2;go_ret;exact⟨rfl,rfl⟩
end Go.Proofs.Ytflmmdljkhdjlaa
