import Derived.Test.YtgbiagonfbnooaaDoorZTabs
import Derived.Test.YtgbiagonfbnooaaDoorZPtRow
import Derived.Deep.Cut
set_option linter.all false
set_option maxRecDepth 100000
set_option maxHeartbeats 8000000
open Go.Lib
namespace Go.Proofs.YtgbiagonfbnooaaDoor
open Go.RowKit
open M
theorem Ky{P:Program}{code:Code}{Q:Exit->Act->World->Prop}{a:Act}{W:World}(S:World->Prop)(hS:S W)(h:∀ W',S W'->code.wp P Q a W'):code.wp P Q a W:=h W hS
theorem M.flatP_nx{ps:List Pt}{k:Nat}(h:k<ps.length):Ar (ps.take (k+1))=Ar (ps.take k)++[(ps.getD k pz).c,(ps.getD k pz).m]:=by
 rw[List.take_succ_eq_append_getElem h,List.getD_eq_getElem?_getD,List.getElem?_eq_getElem h];unfold Ar;rw[List.flatMap_append];rfl
def LO(w:World)(n:Nat)(ps:List Pt)(ov iv:Value)(W:World):Prop :=
 ∃ k:Nat,k<=n/\iv=.int .i64 k/\W.ownsRow w.heap.size 3 1 ov (Ar (ps.take k)).length ((Ar (ps.take k)).map (Value.int .i64))/\Below w.heap.size w W
theorem Df(A:Option Addr)(n cap:Nat)(ps:List Pt)(w:World)(Y:Parts w A n ps)(hn:n<=1000000) :
 Calls Tryd.prog 19 #[.slice A n cap] w fun e w'=>∃ v,e=.returned v/\w'.ownsRow w.heap.size 3 1 v (Ar ps).length ((Ar ps).map (Value.int .i64))/\Below w.heap.size w w':=by
 have hl:=hid Y.1;have Y:=hid Y;have O:(w.alloc (.cells #[] 3)).ownsRow w.heap.size 3 1 (.slice (some ⟨w.heap.size,0,none⟩) 0 0) (Ar (ps.take 0)).length ((Ar (ps.take 0)).map (Value.int .i64)):=World.ownsRow_lit w #[] 0 (Nat.le_refl _) (Nat.zero_le _) rfl;have B:=Ab (Ac w) (.cells #[] 3);replace O:=hid O;replace B:=hid B;go_enter Tryd.func19,Tryd.ntmps19;go_wp2
 go_loopw [3,9] (LO w n ps) (fun _ i _=>n-(RowKit.intOf i).toNat)
 case atStart=>exact⟨0,Nat.zero_le _,rfl,O.out,B.out⟩
 case round =>
  clear O B;obtain⟨k,hk,rfl,O,B⟩:=hrel;by_cases hlt:k<n
  rotate_left
  . obtain rfl:k=n:=by omega
    have e1:ps.take k=ps:=List.take_of_length_le (by rw[hl.out]; exact Nat.le_refl _);rw[e1] at O;replace O:=hid O;replace B:=hid B;clear e1;go_wp2;go_ret;exact⟨_,rfl,O.out,B.out⟩
  obtain⟨b,off,rfl,hb,hc⟩:=Y.out.2 (by omega);obtain⟨c0,c1⟩:=(hc k hlt).of (B.block b hb);have hkl:k<ps.length:=by have:=hl.out; omega
  have en:=hid (flatP_nx hkl);have hfl:(Ar (ps.take k)).length=2*k:=by rw[Bj,List.length_take]; omega
  clear hc;generalize ps.getD k pz=q at *;obtain⟨c,m⟩:=q;dsimp only at c0 c1 en;obtain⟨A1,ca,hv1,_⟩:=Ints.of_own O;subst hv1;have hob:w.heap.size<=wr.heap.size:=B.size;replace O:=hid O;replace B:=hid B;replace hfl:=hid hfl;go_upto_region 5 with fail;refine Ky (fun W'=>W'.ownsRow w.heap.size 3 1 (.slice A1 (Ar (ps.take k)).length ca) (Ar (ps.take k)).length ((Ar (ps.take k)).map (Value.int .i64))/\CellsAt W' wr.heap.size [.int .i64 c,.int .i64 m]/\Below w.heap.size w W') ⟨O.out.alloc _,CellsAt.new _ _ _ _ rfl,Ab B.out _⟩ ?_;clear O B c0 c1;generalize wr.heap.size=sb at *;rintro w3 ⟨O,X,B⟩;have g0:=X.cell 0 _ rfl;have g1:=X.cell 1 _ rfl
  have g3:=X.lt;have hsz:=B.size;replace O:=hid O;replace B:=hid B;go_wp2_with (go_loud (at_builtin; refine AP _ rfl (.tmp 13) (.tmp 18) rfl w.heap.size (Value.slice A1 (Ar (ps.take k)).length ca) (Ar (ps.take k)).length (Ar (ps.take k)) rfl (O.out.alloc _) (some ⟨w3.heap.size,0,none⟩) 2 2 [c,m] rfl (Ints.two w3 c m _) (by rw[hfl.out]; omega) (by simp; omega) ?_));intro v' w9 O9 G9 hB9;have B9:=(Ab B.out _).grown G9 (by simp; omega) (fun g' e=>by have:=(O.out.lt g' e).1; omega);have O9:=(show w9.ownsRow w.heap.size 3 1 v' (Ar (ps.take (k+1))).length ((Ar (ps.take (k+1))).map (Value.int .i64)) from by
   rw[en.out,List.length_append]; simpa using O9)
  replace O9:=hid O9;replace B9:=hid B9;clear G9 O B hB9 X g0 g1 g3 hfl;go_wp2
  go_roundw
  case rel=>exact⟨k+1,by omega,by go_num,O9.out,B9.out⟩
  case measure=>simp[RowKit.intOf]; omega
end Go.Proofs.YtgbiagonfbnooaaDoor
