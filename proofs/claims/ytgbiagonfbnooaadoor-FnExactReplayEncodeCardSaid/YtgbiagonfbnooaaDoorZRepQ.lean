import Derived.Test.YtgbiagonfbnooaaDoorZMul
import Derived.Laws.IdiomCopy
import Derived.Laws.MakeOwn
import Derived.Test.YtgbiagonfbnooaaDoorZToInS
import Derived.Test.YtgbiagonfbnooaaDoorZRepP
import Derived.Test.YtgbiagonfbnooaaDoorZRunStep
import Derived.Test.YtgbiagonfbnooaaDoorZMark
set_option linter.all false
set_option maxRecDepth 100000
set_option maxHeartbeats 8000000
open Go.Lib
namespace Go.Proofs.YtgbiagonfbnooaaDoor
open Go.RowKit
open M
open Go.RowKit
open M
open Go.RowKit
open M
open Go.RowKit
open M
def Jo(w:World)(n:Nat)(xs:List In)(e:Ending)(w':World):Prop :=
 ∃ u:Nat,e=.returned (.slice (some ⟨u,0,none⟩) n n)/\Inputs w' (some ⟨u,0,none⟩) n xs/\w.heap.size<=u/\w'.there u 0 (n*3)/\u<w'.heap.size/\Below w.heap.size w w'
theorem FN(A:Option Addr)(n cap:Nat)(xs:List In)(w:World)(I:Inputs w A n xs)(hn:n<=1048576) :
 Calls Tryd.prog 25 #[.slice A n cap] w (Jo w n xs):=by
 obtain⟨i0,hi,hz0,hz1,hz2⟩:=info_parts Bl;have hl:=hid I.1;have I:=hid I;go_enter Tryd.func25,Tryd.ntmps25;go_wp2_with (at_make; refine wpList_make_full _ rfl _ _ 23 rfl w.heap.size 89 i0 (Bw 0 0 false) 3 Tryd.underlying23 hi hz0 hz1 .i64 .i64 _ _ n rfl rfl rfl rfl (by rw[hz2]; omega) (by unfold maxLen; omega) (Nat.le_refl _) ?_);intro w0 O0 G0;have T0:w0.there w.heap.size 0 (n*3):=fun j hj=>by
  rw[Nat.zero_add];refine⟨?_,O0.frozenAt j⟩;rw[O0.cellAt j hj,List.getElem?_eq_getElem (by rw[O0.1]; exact hj)];rfl
 have L0:w.heap.size<w0.heap.size:=(O0.lt w.heap.size rfl).2;have B0:Below w.heap.size w w0:=(Ac w).grown G0 (Nat.le_refl _) (fun k e=>by cases e);clear G0 O0;go_wp2
 go_loopw [4] (KL w n xs) (fun i _=>n-(intOf i).toNat)
 case atStart=>exact⟨0,Nat.zero_le _,rfl,T0,fun j hj=>absurd hj (by omega),L0,B0⟩
 case round =>
  obtain⟨k,hk,rfl,T,hc,L,B⟩:=hrel;clear T0 L0 B0;by_cases hlt:k<n
  . obtain⟨b,off,hA,hb,hcell⟩:=(I.out.step B).2 (by omega);obtain⟨c0,c1,c2⟩:=hcell k hlt;obtain⟨⟨za,zb,zc⟩,hq⟩:∃ q,xs.getD k iz=q:=⟨_,rfl⟩;rw[hq] at c0 c1 c2;simp only at c0 c1 c2;have hq:=hid hq;have T:=hid T;have hc:=hid hc;have B:=hid B;subst hA;clear hcell;go_wp2_with fail;refine(Fq za zb zc _).mono ?_;rintro e w1 ⟨rfl,B1⟩;have T1:=hid (DD T.out B1 L);have hc1:=hid (fun j hj=>(hc.out j hj).of (B1.block _ L));have L1:=Nat.lt_of_lt_of_le L B1.size;have H1:=hid (Aa B.out B1);clear B1 T hc B L c0 c1 c2;obtain⟨u0,e0⟩:=EV (T1.out (k*3) (by omega)).1;obtain⟨u1,e1⟩:=EV (T1.out (k*3+1) (by omega)).1
    obtain⟨u2,e2⟩:=EV (T1.out (k*3+2) (by omega)).1;have f0:=(T1.out (k*3) (by omega)).2;have f1:=(T1.out (k*3+1) (by omega)).2;have f2:=(T1.out (k*3+2) (by omega)).2;rw[Nat.zero_add] at e0 e1 e2 f0 f1 f2;go_wp2
    go_roundw
    case rel=>exact Gk hlt T1.out hc1.out hq.out L1 H1.out
    case measure=>simp[intOf]; omega
  . have J:Inputs _ (some ⟨w.heap.size,0,none⟩) n xs:=⟨hl.out,fun _=>⟨w.heap.size,0,rfl,L,fun j hj=>by rw[Nat.zero_add]; exact hc j (by omega)⟩⟩;have J:=hid J;have B:=hid B;have T:=hid T;have hL:=L;clear hc;go_wp2;go_ret;exact⟨w.heap.size,rfl,J.out,Nat.le_refl _,T.out,hL,B.out⟩
theorem Gj(A:Option Addr)(n c:Nat)(l:Int)(w:World)(hn:n<=9223372036854775807)(l0:0<=l)(l1:l<=1048576) :
 Calls Tryd.prog 24 #[.slice A n c,.int .i64 l] w fun e w'=>e=.returned (.int .i64 (if l-n<0 then -1 else l-n))/\w=w':=by
 by_cases h:l-(n:Int)<0
 . rw[if_pos h];go_enter Tryd.func24,Tryd.ntmps24;go_wp2;go_ret;exact⟨rfl,rfl⟩
 . rw[if_neg h];have h':0<=l-(n:Int):=by omega
   go_enter Tryd.func24,Tryd.ntmps24;go_wp2;go_ret;exact⟨rfl,rfl⟩
end Go.Proofs.YtgbiagonfbnooaaDoor
