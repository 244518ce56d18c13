import Derived.Test.YtgbiagonfbnooaaDoorZLeg
import Derived.Test.YtgbiagonfbnooaaDoorZLinkIn
set_option linter.all false
set_option maxRecDepth 100000
set_option maxHeartbeats 8000000
open Go.Lib
namespace Go.Proofs.YtgbiagonfbnooaaDoor
open Go.RowKit
open M
def KL(w:World)(n:Nat)(xs:List In)(i:Value)(W:World):Prop :=
 ∃ k:Nat,k<=n/\i=.int .i64 k/\W.there w.heap.size 0 (n*3)/\(∀ j,j<k->InAt W w.heap.size (j*3) (xs.getD j iz))/\w.heap.size<W.heap.size/\Below w.heap.size w W
theorem InAt.other{W:World}{g o:Nat}{q:In}(h:InAt W g o q){p:Nat}(hp:p<o\/o+2<p)(v:Value):InAt (W.setCell ⟨g,p,none⟩ v) g o q :=
 ⟨(World.cell?_setCell_other _ _ _ _ (by first | (simp; done) | (simp; omega))).trans h.c0,(World.cell?_setCell_other _ _ _ _ (by first | (simp; done) | (simp; omega))).trans h.c1,(World.cell?_setCell_other _ _ _ _ (by first | (simp; done) | (simp; omega))).trans h.c2⟩
theorem Gk{w W:World}{n k:Nat}{xs:List In}{a b:Int}{c:Bool}(hk:k<n)(T:W.there w.heap.size 0 (n*3))(hc:∀ j,j<k->InAt W w.heap.size (j*3) (xs.getD j iz))(hq:xs.getD k iz=⟨a,b,c⟩)(hl:w.heap.size<W.heap.size)(B:Below w.heap.size w W) :
 KL w n xs (.int .i64 (k+1)) (((W.setCell ⟨w.heap.size,k*3,none⟩ (.int .i64 a)).setCell ⟨w.heap.size,k*3+1,none⟩ (.int .i64 b)).setCell ⟨w.heap.size,k*3+2,none⟩ (.bool c)):=by
 have t0:=(T (k*3) (by omega)).1;rw[Nat.zero_add] at t0;have s1:=CR T (k*3) (.int .i64 a);have s2:=CR s1 (k*3+1) (.int .i64 b);refine⟨k+1,by omega,by simp,CR s2 _ _,fun j hj=>?_,by simpa[World.setCell] using hl,Ao (Ao (Ao B _ _ _ (Nat.le_refl _)) _ _ _ (Nat.le_refl _)) _ _ _ (Nat.le_refl _)⟩;by_cases e:j=k
 . subst e;rw[hq];refine⟨?_,?_,?_⟩
   . rw[World.cell?_setCell_other _ _ _ _ (by simp),World.cell?_setCell_other _ _ _ _ (by simp)];exact World.cell?_setCell_same' _ _ _ t0
   . rw[World.cell?_setCell_other _ _ _ _ (by simp)];exact World.cell?_setCell_same' _ _ _ (by have:=(s1 (j*3+1) (by omega)).1; rwa [Nat.zero_add] at this)
   . exact World.cell?_setCell_same' _ _ _ (by have:=(s2 (j*3+2) (by omega)).1; rwa [Nat.zero_add] at this)
 . exact(((hc j (by omega)).other (by omega) _).other (by omega) _).other (by omega) _
theorem Ej(A D:Option Addr)(n c d:Nat)(xs:List In)(w:World)(I:Inputs w A n xs)(J:Inputs w D n xs)(hn:n<=1048576) :
 Calls Tryd.prog 27 #[.slice A n c,.slice D n d] w fun e w'=>e=.returned (.bool true)/\Below w.heap.size w w':=by
 have I:=hid I;have J:=hid J;go_enter Tryd.func27,Tryd.ntmps27;go_wp2
 go_loopw [5] (fun i W=>∃ k:Nat,k<=n/\i=.int .i64 k/\Below w.heap.size w W) (fun i _=>n-(intOf i).toNat)
 case atStart=>exact⟨0,Nat.zero_le _,rfl,Ac w⟩
 case round =>
  obtain⟨k,hk,rfl,B⟩:=hrel;by_cases hlt:k<n
  . obtain⟨b1,o1,rfl,hb1,hc1⟩:=(I.out.step B).2 (by omega);obtain⟨b2,o2,rfl,hb2,hc2⟩:=(J.out.step B).2 (by omega);have Z:=(hc1 k hlt).lie hb1;have Y:=(hc2 k hlt).lie hb2;have Hb:=hid B;clear hc1 hc2 B;generalize xs.getD k iz=q at *;obtain⟨za,zb,zc⟩:=q;simp only at Z Y;go_wp2_with fail
    go_region_held3 (fun w'=>(w'.cell? ⟨b1,o1+k*3,none⟩=some (.int .i64 za)/\w'.cell? ⟨b1,o1+k*3+1,none⟩=some (.int .i64 zb)/\w'.cell? ⟨b1,o1+k*3+2,none⟩=some (.bool zc))/\(w'.cell? ⟨b2,o2+k*3,none⟩=some (.int .i64 za)/\w'.cell? ⟨b2,o2+k*3+1,none⟩=some (.int .i64 zb)/\w'.cell? ⟨b2,o2+k*3+2,none⟩=some (.bool zc)))
     (exact⟨AE (by repeat (first | with_reducible exact Z | with_reducible refine InIn.alloc ?_ _ | with_reducible refine InIn.drew ?_)),AE (by repeat (first | with_reducible exact Y | with_reducible refine InIn.alloc ?_ _ | with_reducible refine InIn.drew ?_))⟩)
     ((go_at_call 54; (with_reducible refine(EU _ _ _ _).mono ?_); rintro e wn ⟨rfl,Bn⟩; have Z:=InIn.step (by first | with_reducible exact Z | with_reducible exact Z.drew) Bn; have Y:=InIn.step (by first | with_reducible exact Y | with_reducible exact Y.drew) Bn; have Hb:=hid (Aa (by first | with_reducible exact Hb.out | with_reducible exact Aw Hb.out) Bn); clear Bn))
    all_goals
     go_wp2
     go_roundw
     case rel=>exact⟨k+1,by omega,by go_num,Hb.out⟩
     case measure=>simp[intOf]; omega
  . have B:=hid B;go_wp2;go_ret;exact⟨rfl,B.out⟩
theorem FQ(A:Option Addr)(n c:Nat)(l:Int)(w:World)(hn:n<=9223372036854775807)(l0:0<=l)(l1:l<=1048576) :
 Calls Tryd.prog 23 #[.slice A n c,.int .i64 l] w fun e w'=>e=.returned (.int .i64 (if l-n<0 then -1 else l-n))/\w=w':=by
 by_cases h:l-(n:Int)<0
 . rw[if_pos h];go_enter Tryd.func23,Tryd.ntmps23;go_wp2;go_ret;exact⟨rfl,rfl⟩
 . rw[if_neg h];have h':0<=l-(n:Int):=by omega
   go_enter Tryd.func23,Tryd.ntmps23;go_wp2;go_ret;exact⟨rfl,rfl⟩
end Go.Proofs.YtgbiagonfbnooaaDoor
namespace Go.Proofs.YtgbiagonfbnooaaDoor
open Go.RowKit Go.Shelf
open M
attribute [local go_sem] Oper.semAt_some
end Go.Proofs.YtgbiagonfbnooaaDoor
