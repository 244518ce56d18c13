import Derived.Test.YtbeohbhhmcjokaaZLevImpl
import Derived.Test.YtbeohbhhmcjokaaZLevH
import Derived.Lib.AppendZerosOnto
import Derived.Lib.SliceRun
import Derived.Test.YtbeohbhhmcjokaaZDrB
set_option linter.all false
set_option maxRecDepth 100000
set_option maxHeartbeats 8000000
open Go.Lib
namespace Go.Proofs.Ytbeohbhhmcjokaa
open Go.RowKit
open M
open Go.RowKit
open M
open Go.RowKit
open M
def GG(w:World)(n:Nat)(bs:List Bx)(i:Value)(W:World):Prop :=
 ∃ k:Nat,k<=n/\i=.int .i64 k/\W.there w.heap.size 0 (n*4)/\(∀ j,j<k->BoxAt W w.heap.size (j*4) (bs.getD j bz))/\w.heap.size<W.heap.size/\Below w.heap.size w W
theorem AA{W w':World}{g o n:Nat}(h:W.there g o n)(B:Below W.heap.size W w')(hg:g<W.heap.size):w'.there g o n:=fun j hj=>by
 rw[B.cell (p:=⟨g,o+j,none⟩) hg,B.frozen (p:=⟨g,o+j,none⟩) hg];exact h j hj
theorem Ak{W:World}{g n:Nat}(h:W.there g 0 n)(o:Nat)(v:Value):(W.setCell ⟨g,o,none⟩ v).there g 0 n:=fun j hj=>by
 refine⟨?_,by rw[World.frozen?_setCell]; exact(h j hj).2⟩;by_cases e:(0+j)=o
 . rw[e,World.cell?_setCell_same' _ _ _ (by have:=(h j hj).1; rw[e] at this; exact this)];rfl
 . rw[World.cell?_setCell_other _ _ _ _ (by first | (simp; done) | (simp; omega))];exact(h j hj).1
theorem BoxAt.other{W:World}{g o:Nat}{q:Bx}(h:BoxAt W g o q){p:Nat}(hp:p<o\/o+3<p)(v:Value):BoxAt (W.setCell ⟨g,p,none⟩ v) g o q :=
 ⟨(World.cell?_setCell_other _ _ _ _ (by first | (simp; done) | (simp; omega))).trans h.c0,(World.cell?_setCell_other _ _ _ _ (by first | (simp; done) | (simp; omega))).trans h.c1,(World.cell?_setCell_other _ _ _ _ (by first | (simp; done) | (simp; omega))).trans h.c2,(World.cell?_setCell_other _ _ _ _ (by first | (simp; done) | (simp; omega))).trans h.c3⟩
theorem EK{w W:World}{n k:Nat}{bs:List Bx}{a b c d:Int}(hk:k<n)(T:W.there w.heap.size 0 (n*4))(hc:∀ j,j<k->BoxAt W w.heap.size (j*4) (bs.getD j bz))(hq:bs.getD k bz=⟨a,b,c,d⟩)(hl:w.heap.size<W.heap.size)(B:Below w.heap.size w W) :
 GG w n bs (.int .i64 (k+1)) ((((W.setCell ⟨w.heap.size,k*4,none⟩ (.int .i64 a)).setCell ⟨w.heap.size,k*4+1,none⟩ (.int .i64 b)).setCell ⟨w.heap.size,k*4+2,none⟩ (.int .i64 c)).setCell ⟨w.heap.size,k*4+3,none⟩ (.int .i64 d)):=by
 have t0:=(T (k*4) (by omega)).1;have t1:=(T (k*4+1) (by omega)).1;have t2:=(T (k*4+2) (by omega)).1;have t3:=(T (k*4+3) (by omega)).1;rw[Nat.zero_add] at t0 t1 t2 t3;have s1:=Ak T (k*4) (.int .i64 a);have s2:=Ak s1 (k*4+1) (.int .i64 b);have s3:=Ak s2 (k*4+2) (.int .i64 c);refine⟨k+1,by omega,by simp,Ak s3 _ _,fun j hj=>?_,by simpa[World.setCell] using hl,Ag (Ag (Ag (Ag B _ _ _ (Nat.le_refl _)) _ _ _ (Nat.le_refl _)) _ _ _ (Nat.le_refl _)) _ _ _ (Nat.le_refl _)⟩;by_cases e:j=k
 . subst e;rw[hq];refine⟨?_,?_,?_,?_⟩
   . rw[World.cell?_setCell_other _ _ _ _ (by simp),World.cell?_setCell_other _ _ _ _ (by simp),World.cell?_setCell_other _ _ _ _ (by simp)];exact World.cell?_setCell_same' _ _ _ t0
   . rw[World.cell?_setCell_other _ _ _ _ (by simp),World.cell?_setCell_other _ _ _ _ (by simp)];exact World.cell?_setCell_same' _ _ _ (by have:=(s1 (j*4+1) (by omega)).1; rwa [Nat.zero_add] at this)
   . rw[World.cell?_setCell_other _ _ _ _ (by simp)];exact World.cell?_setCell_same' _ _ _ (by have:=(s2 (j*4+2) (by omega)).1; rwa [Nat.zero_add] at this)
   . exact World.cell?_setCell_same' _ _ _ (by have:=(s3 (j*4+3) (by omega)).1; rwa [Nat.zero_add] at this)
 . exact((((hc j (by omega)).other (by omega) _).other (by omega) _).other (by omega) _).other (by omega) _
theorem Bb{W:World}{p:Addr}(h:(W.cell? p).isSome=true):∃ u,W.cell? p=some u:=Option.isSome_iff_exists.1 h
open Go.RowKit
open M
theorem BP(A D:Option Addr)(n c d:Nat)(bs:List Bx)(w:World)(I:Boxes w A n bs)(J:Boxes w D n bs)(hn:n<=1048576) :
 Calls Try.prog 70 #[.slice A n c,.slice D n d] w fun e w'=>e=.returned (.bool true)/\Below w.heap.size w w':=by
 have I:=hid I;have J:=hid J;go_enter Try.func70,Try.ntmps70;go_wp2
 go_loopw [5] (fun i W=>∃ k:Nat,k<=n/\i=.int .i64 k/\Below w.heap.size w W) (fun i _=>n-(RowKit.intOf i).toNat)
 case atStart=>exact⟨0,Nat.zero_le _,rfl,Ac w⟩
 case round =>
  obtain⟨k,hk,rfl,B⟩:=hrel;by_cases hlt:k<n
  . obtain⟨b1,o1,rfl,hb1,hc1⟩:=(I.out.step B).2 (by omega);obtain⟨b2,o2,rfl,hb2,hc2⟩:=(J.out.step B).2 (by omega);have Z:=(hc1 k hlt).lie hb1;have Y:=(hc2 k hlt).lie hb2;have Hb:=hid B;clear hc1 hc2 B;generalize bs.getD k bz=q at *;obtain⟨za,zb,zc,zd⟩:=q;simp only at Z Y;go_wp2_with fail
    go_region_held3 (fun w'=>(w'.cell? ⟨b1,o1+k*4,none⟩=some (.int .i64 za)/\w'.cell? ⟨b1,o1+k*4+1,none⟩=some (.int .i64 zb)/\w'.cell? ⟨b1,o1+k*4+2,none⟩=some (.int .i64 zc)/\w'.cell? ⟨b1,o1+k*4+3,none⟩=some (.int .i64 zd))/\(w'.cell? ⟨b2,o2+k*4,none⟩=some (.int .i64 za)/\w'.cell? ⟨b2,o2+k*4+1,none⟩=some (.int .i64 zb)/\w'.cell? ⟨b2,o2+k*4+2,none⟩=some (.int .i64 zc)/\w'.cell? ⟨b2,o2+k*4+3,none⟩=some (.int .i64 zd)))
     (exact⟨Cb (by repeat (first | with_reducible exact Z | with_reducible refine BoxIn.far ?_ (by omega) _ _ | with_reducible refine BoxIn.alloc ?_ _ | with_reducible refine BoxIn.drew ?_)),Cb (by repeat (first | with_reducible exact Y | with_reducible refine BoxIn.far ?_ (by omega) _ _ | with_reducible refine BoxIn.alloc ?_ _ | with_reducible refine BoxIn.drew ?_))⟩)
     ((go_at_call 71; (with_reducible refine(Cj _ _ _ _ _).mono ?_); rintro e wn ⟨rfl,Bn⟩; have Z:=BoxIn.step (by first | with_reducible exact Z | with_reducible exact Z.drew) Bn; have Y:=BoxIn.step (by first | with_reducible exact Y | with_reducible exact Y.drew) Bn; have Hb:=hid (Aa (by first | with_reducible exact Hb.out | with_reducible exact Af Hb.out) Bn); clear Bn))
    all_goals
     go_wp2
     go_roundw
     case rel=>exact⟨k+1,by omega,by go_num,Hb.out⟩
     case measure=>simp[RowKit.intOf]; omega
  . have B:=hid B;go_wp2;go_ret;exact⟨rfl,B.out⟩
theorem Boxes.farB{W:World}{g n b:Nat}{bs:List Bx}(h:Boxes W (some ⟨g,0,none⟩) n bs)(hb:g≠b)(o:Nat)(v:Value):Boxes (W.setCell ⟨b,o,none⟩ v) (some ⟨g,0,none⟩) n bs:=h.kept (BH (Kept.refl b W) o v) (fun _ g' off e=>by cases e; exact hb)
open Go.RowKit
open M
end Go.Proofs.Ytbeohbhhmcjokaa
