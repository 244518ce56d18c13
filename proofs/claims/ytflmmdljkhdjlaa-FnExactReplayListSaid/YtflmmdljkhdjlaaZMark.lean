import Derived.Test.YtflmmdljkhdjlaaZRepA
import Derived.Test.YtflmmdljkhdjlaaZLevLink
set_option linter.all false
set_option maxRecDepth 100000
set_option maxHeartbeats 8000000
open Go.Lib
namespace Go.Proofs.Ytflmmdljkhdjlaa
open Go.RowKit
open M
def Mk(lo:Nat)(W:World)(A:Option Addr)(n:Nat):Prop:=0<n->∃ g,A=some ⟨g,0,none⟩/\lo<=g/\g<W.heap.size/\W.there g 0 n
theorem Mk.step{lo n:Nat}{W W':World}{A:Option Addr}(h:Mk lo W A n)(B:Below W.heap.size W W'):Mk lo W' A n:=fun hn=>by
 obtain⟨g,e,h1,h2,T⟩:=h hn;exact⟨g,e,h1,Nat.lt_of_lt_of_le h2 B.size,LB T B h2⟩
theorem Mk.of_own{W:World}{base:Nat}{e:TypeId}{sz:Nat}{A:Option Addr}{n c:Nat}{vs:List Value}(O:W.ownsRow base e sz (.slice A n c) n vs)(h1:0<sz):Mk base W A (n*sz):=fun hn=>by
 have h0:0<n:=Nat.pos_of_ne_zero (fun e=>by subst e; simp at hn);obtain⟨g,cap,e1,hb,hg⟩:=IH O h0;cases e1
 refine⟨g,rfl,hb,hg,fun j hj=>?_⟩;rw[Nat.zero_add];refine⟨?_,O.frozenAt j⟩;rw[O.cellAt j hj,List.getElem?_eq_getElem (by rw[O.1]; exact hj)];rfl
def Fr(n:Nat)(A:Option Addr)(w w':World):Prop:=w.heap.size<=w'.heap.size/\∀ b,b<w.heap.size->(0<n->A≠some ⟨b,0,none⟩)->w'.heap[b]?=w.heap[b]?
theorem Inputs.fr{m:Nat}{D:Option Addr}{w w':World}{A:Option Addr}{n:Nat}{xs:List In}(h:Inputs w A n xs)(B:Fr m D w w')(hA:0<n->0<m->∀ k off,A=some ⟨k,off,none⟩->D≠some ⟨k,0,none⟩):Inputs w' A n xs :=
 ⟨h.1,fun hn=>by
  obtain⟨b,off,e,hb,hc⟩:=h.2 hn;exact⟨b,off,e,Nat.lt_of_lt_of_le hb B.1,fun k hk=>(hc k hk).of (B.2 b hb (fun hm=>hA hn hm b off e))⟩⟩
theorem Ints.fr{m:Nat}{D:Option Addr}{w w':World}{A:Option Addr}{n:Nat}{xs:List Int}(h:Ints w A n xs)(B:Fr m D w w')(hA:0<n->0<m->∀ k off,A=some ⟨k,off,none⟩->D≠some ⟨k,0,none⟩):Ints w' A n xs :=
 ⟨h.1,fun hn=>by
  obtain⟨b,off,e,hb,hc⟩:=h.2 hn;exact⟨b,off,e,Nat.lt_of_lt_of_le hb B.1,fun k hk=>(World.cell?_of_block (a:=⟨b,off+k,none⟩) (B.2 b hb (fun hm=>hA hn hm b off e))).trans (hc k hk)⟩⟩
theorem Mk.fr{m sz:Nat}{D:Option Addr}{w w':World}{A:Option Addr}{lo:Nat}(h:Mk lo w A sz)(B:Fr m D w w')(hA:0<sz->0<m->D≠A):Mk lo w' A sz:=fun hn=>by
 obtain⟨g,e,h1,h2,T⟩:=h hn;have eb:=B.2 g h2 (fun hm=>by rw[<- e]; exact hA hn hm);exact⟨g,e,h1,Nat.lt_of_lt_of_le h2 B.1,fun j hj=>by
  obtain⟨a,b⟩:=T j hj;exact⟨by rw[World.cell?_of_block (a:=⟨g,0+j,none⟩) eb]; exact a,by rw[World.frozen?_of_block (a:=⟨g,0+j,none⟩) eb]; exact b⟩⟩
theorem LU{lo:Nat}{w W:World}(B:Below lo w W)(g o:Nat)(v:Value)(h:lo<=g):Below lo w (W.setCell ⟨g,o,none⟩ v):=B.setCell (p:=⟨g,o,none⟩) h v
theorem InAt.otherI{W:World}{g o:Nat}{q:In}(h:InAt W g o q){p:Nat}(hp:p<o\/o+2<p)(v:Value):InAt (W.setCell ⟨g,p,none⟩ v) g o q :=
 ⟨(World.cell?_setCell_other _ _ _ _ (by first | (simp; done) | (simp; omega))).trans h.c0,(World.cell?_setCell_other _ _ _ _ (by first | (simp; done) | (simp; omega))).trans h.c1,(World.cell?_setCell_other _ _ _ _ (by first | (simp; done) | (simp; omega))).trans h.c2⟩
def LJ(k j:Nat):In:=⟨((k+3*j:Nat):Int),((k+3*j+1:Nat):Int),((((k+3*j+2:Nat):Int) % 3)==0)⟩
def LX(k n:Nat):List In:=(List.range n).map (LJ k)
theorem Mq(k n:Nat):(LX k n).length=n:=by simp[LX]
theorem LY{k n j:Nat}(h:j<n):(LX k n).getD j iz=LJ k j:=by
 simp[LX,List.getD_eq_getElem?_getD,h]
def Mh(lo:Nat)(w:World)(g k n:Nat)(kv iv:Value)(W:World):Prop :=
 ∃ j:Nat,j<=n/\iv=.int .i64 j/\kv=.int .i64 ((k+3*j:Nat):Int)/\W.there g 0 (n*3)/\(∀ i,i<j->InAt W g (i*3) (LJ k i))/\g<W.heap.size/\Kept g w W/\Below lo w W
theorem Mn{lo:Nat}{w W:World}{g k n j:Nat}(hj:j<n)(T:W.there g 0 (n*3))(hc:∀ i,i<j->InAt W g (i*3) (LJ k i))(hg:g<W.heap.size)(hlo:lo<=g)(KK:Kept g w W)(B:Below lo w W) :
 Mh lo w g k n (.int .i64 ((k+3*(j+1):Nat):Int)) (.int .i64 ((j+1:Nat):Int)) (((W.setCell ⟨g,j*3,none⟩ (.int .i64 ((k+3*j:Nat):Int))).setCell ⟨g,j*3+1,none⟩ (.int .i64 ((k+3*j+1:Nat):Int))).setCell ⟨g,j*3+2,none⟩ (.bool ((((k+3*j+2:Nat):Int) % 3)==0))):=by
 have t0:=(T (j*3) (by omega)).1;rw[Nat.zero_add] at t0;have s1:=Lr T (j*3) (.int .i64 ((k+3*j:Nat):Int));have s2:=Lr s1 (j*3+1) (.int .i64 ((k+3*j+1:Nat):Int));refine⟨j+1,by omega,rfl,rfl,Lr s2 _ _,fun i hi=>?_,by simpa[World.setCell] using hg,((KK.mine _ _).mine _ _).mine _ _,LU (LU (LU B _ _ _ hlo) _ _ _ hlo) _ _ _ hlo⟩;by_cases e:i=j
 . subst e;refine⟨?_,?_,?_⟩
   . rw[World.cell?_setCell_other _ _ _ _ (by simp),World.cell?_setCell_other _ _ _ _ (by simp)];exact World.cell?_setCell_same' _ _ _ t0
   . rw[World.cell?_setCell_other _ _ _ _ (by simp)];exact World.cell?_setCell_same' _ _ _ (by have:=(s1 (i*3+1) (by omega)).1; rwa [Nat.zero_add] at this)
   . exact World.cell?_setCell_same' _ _ _ (by have:=(s2 (i*3+2) (by omega)).1; rwa [Nat.zero_add] at this)
 . exact(((hc i (by omega)).otherI (by omega) _).otherI (by omega) _).otherI (by omega) _
theorem LK(lo:Nat)(A:Option Addr)(n c:Nat)(k:Nat)(w:World)(M:Mk lo w A (n*3))(hn:n<=1048576)(hk:k<=100000000)(hlo:lo<=w.heap.size) :
 Calls Try.prog 36 #[.slice A n c,.int .i64 k] w fun e w'=>e=.returned (.int .i64 ((k+3*n:Nat):Int))/\Inputs w' A n (LX k n)/\Mk lo w' A (n*3)/\Fr n A w w'/\Below lo w w':=by
 by_cases h0:n=0
 . subst h0;go_enter Try.func36,Try.ntmps36;go_wp2
   go_loopw [1,5] (fun kv iv W=>kv=.int .i64 k/\iv=.int .i64 0/\w=W) (fun _ _ _=>0)
   case atStart=>exact⟨rfl,rfl,rfl⟩
   case round =>
    obtain⟨rfl,rfl,rfl⟩:=hrel;go_wp2;go_ret;exact⟨by simp,⟨by simp[LX],fun h=>absurd h (by omega)⟩,fun h=>absurd h (by omega),⟨Nat.le_refl _,fun _ _ _=>rfl⟩,Below.refl _ _⟩
 obtain⟨g,rfl,hg1,hg2,T⟩:=M (by omega);replace T:=hid T;go_enter Try.func36,Try.ntmps36;go_wp2
 go_loopw [1,5] (Mh lo w g k n) (fun _ i _=>n-(intOf i).toNat)
 case atStart=>exact⟨0,Nat.zero_le _,rfl,rfl,T.out,fun i hi=>absurd hi (by omega),hg2,Kept.refl _ _,Below.refl _ _⟩
 case round =>
  clear T hg2;obtain⟨j,hj,rfl,rfl,T,hc,hg2,KK,B⟩:=hrel;replace KK:=hid KK;replace hc:=hid hc;replace T:=hid T;replace B:=hid B;by_cases hlt:j<n
  . skip
    obtain⟨u0,e0⟩:=Option.isSome_iff_exists.1 (T.out (j*3) (by omega)).1;have f0:=(T.out (j*3) (by omega)).2;rw[Nat.zero_add] at e0 f0;obtain⟨u1,e1⟩:=Option.isSome_iff_exists.1 (T.out (j*3+1) (by omega)).1;have f1:=(T.out (j*3+1) (by omega)).2;rw[Nat.zero_add] at e1 f1;obtain⟨u2,e2⟩:=Option.isSome_iff_exists.1 (T.out (j*3+2) (by omega)).1;have f2:=(T.out (j*3+2) (by omega)).2;rw[Nat.zero_add] at e2 f2;have hnx:=hid (Mn hlt T.out hc.out hg2 hg1 KK.out B.out);have j0:(0:Int)<=(j:Int):=by omega
    have j1:(j:Int)<(n:Int):=by omega
    go_wp2
    go_roundw
    case rel=>first | exact hnx.out | (trace_state; fail)
    case measure=>simp[intOf]; omega
  . obtain rfl:j=n:=by omega
    have J:Inputs wr (some ⟨g,0,none⟩) j (LX k j):=⟨Mq k j,fun _=>⟨g,0,rfl,hg2,fun i hi=>by rw[Nat.zero_add,LY hi]; exact hc.out i hi⟩⟩;replace J:=hid J;go_wp2;go_ret;exact⟨by first | rfl | (congr 2; done) | simp,J.out,fun _=>⟨g,rfl,hg1,hg2,T.out⟩,⟨KK.out.size,fun b hb hne=>KK.out.block b hb (fun e=>hne (Nat.pos_of_ne_zero h0) (by rw[e]))⟩,B.out⟩
def B5(k j:Nat):Int:=((k+j:Nat):Int)
def GN(k n:Nat):List Int:=(List.range n).map (B5 k)
theorem F0(k n:Nat):(GN k n).length=n:=by simp[GN]
theorem DN{k n j:Nat}(h:j<n):(GN k n).getD j 0=B5 k j:=by
 simp[GN,List.getD_eq_getElem?_getD,h]
def EE(lo:Nat)(w:World)(g k n:Nat)(kv iv:Value)(W:World):Prop :=
 ∃ j:Nat,j<=n/\iv=.int .i64 j/\kv=.int .i64 ((k+j:Nat):Int)/\W.there g 0 (n*1)/\(∀ i,i<j->W.cell? ⟨g,i,none⟩=some (.int .i64 (B5 k i)))/\g<W.heap.size/\Kept g w W/\Below lo w W
theorem EG{lo:Nat}{w W:World}{g k n j:Nat}(hj:j<n)(T:W.there g 0 (n*1))(hc:∀ i,i<j->W.cell? ⟨g,i,none⟩=some (.int .i64 (B5 k i)))(hg:g<W.heap.size)(hlo:lo<=g)(KK:Kept g w W)(B:Below lo w W) :
 EE lo w g k n (.int .i64 ((k+(j+1):Nat):Int)) (.int .i64 ((j+1:Nat):Int)) (W.setCell ⟨g,j,none⟩ (.int .i64 ((k+j:Nat):Int))):=by
 have t0:=(T j (by omega)).1;rw[Nat.zero_add] at t0;refine⟨j+1,by omega,rfl,rfl,Lr T _ _,fun i hi=>?_,by simpa[World.setCell] using hg,KK.mine _ _,LU B _ _ _ hlo⟩;by_cases e:i=j
 . subst e;exact World.cell?_setCell_same' _ _ _ t0
 . exact(World.cell?_setCell_other _ _ _ _ (by first | (simp; done) | (simp; omega))).trans (hc i (by omega))
theorem B3(lo:Nat)(A:Option Addr)(n c:Nat)(k:Nat)(w:World)(M:Mk lo w A (n*1))(hn:n<=1048576)(hk:k<=100000000)(hlo:lo<=w.heap.size) :
 Calls Try.prog 47 #[.slice A n c,.int .i64 k] w fun e w'=>e=.returned (.int .i64 ((k+1*n:Nat):Int))/\Ints w' A n (GN k n)/\Mk lo w' A (n*1)/\Fr n A w w'/\Below lo w w':=by
 by_cases h0:n=0
 . subst h0;go_enter Try.func47,Try.ntmps47;go_wp2
   go_loopw [1,5] (fun kv iv W=>kv=.int .i64 k/\iv=.int .i64 0/\w=W) (fun _ _ _=>0)
   case atStart=>exact⟨rfl,rfl,rfl⟩
   case round =>
    obtain⟨rfl,rfl,rfl⟩:=hrel;go_wp2;go_ret;exact⟨by simp,⟨by simp[GN],fun h=>absurd h (by omega)⟩,fun h=>absurd h (by omega),⟨Nat.le_refl _,fun _ _ _=>rfl⟩,Below.refl _ _⟩
 obtain⟨g,rfl,hg1,hg2,T⟩:=M (by omega);replace T:=hid T;go_enter Try.func47,Try.ntmps47;go_wp2
 go_loopw [1,5] (EE lo w g k n) (fun _ i _=>n-(intOf i).toNat)
 case atStart=>exact⟨0,Nat.zero_le _,rfl,rfl,T.out,fun i hi=>absurd hi (by omega),hg2,Kept.refl _ _,Below.refl _ _⟩
 case round =>
  clear T hg2;obtain⟨j,hj,rfl,rfl,T,hc,hg2,KK,B⟩:=hrel;replace KK:=hid KK;replace hc:=hid hc;replace T:=hid T;replace B:=hid B;by_cases hlt:j<n
  . skip
    obtain⟨u0,e0⟩:=Option.isSome_iff_exists.1 (T.out (j) (by omega)).1;have f0:=(T.out (j) (by omega)).2;rw[Nat.zero_add] at e0 f0;have hnx:=hid (EG hlt T.out hc.out hg2 hg1 KK.out B.out);have j0:(0:Int)<=(j:Int):=by omega
    have j1:(j:Int)<(n:Int):=by omega
    go_wp2
    go_roundw
    case rel=>first | exact hnx.out | (trace_state; fail)
    case measure=>simp[intOf]; omega
  . obtain rfl:j=n:=by omega
    have J:Ints wr (some ⟨g,0,none⟩) j (GN k j):=⟨F0 k j,fun _=>⟨g,0,rfl,hg2,fun i hi=>by rw[Nat.zero_add,DN hi]; exact hc.out i hi⟩⟩;replace J:=hid J;go_wp2;go_ret;exact⟨by first | rfl | (congr 2; done) | simp,J.out,fun _=>⟨g,rfl,hg1,hg2,T.out⟩,⟨KK.out.size,fun b hb hne=>KK.out.block b hb (fun e=>hne (Nat.pos_of_ne_zero h0) (by rw[e]))⟩,B.out⟩
theorem B4(A:Option Addr)(n c:Nat)(k:Nat)(w:World)(I:Ints w A n (GN k n))(hn:n<=1048576)(hk:k<=100000000) :
 Calls Try.prog 48 #[.slice A n c,.int .i64 k] w fun e w'=>e=.returned (.int .i64 ((k+1*n:Nat):Int))/\w=w':=by
 replace I:=hid I;go_enter Try.func48,Try.ntmps48;go_wp2
 go_loopw [1,5] (fun kv iv W=>∃ j:Nat,j<=n/\iv=.int .i64 j/\kv=.int .i64 ((k+j:Nat):Int)/\w=W) (fun _ i _=>n-(intOf i).toNat)
 case atStart=>exact⟨0,Nat.zero_le _,rfl,rfl,rfl⟩
 case round =>
  obtain⟨j,hj,rfl,rfl,rfl⟩:=hrel;by_cases hlt:j<n
  . obtain⟨b,off,rfl,hb,hc⟩:=I.out.2 (by omega);have cx:=hc j hlt;rw[DN hlt] at cx;clear hc;simp only[B5] at cx;have j0:(0:Int)<=(j:Int):=by omega
    have j1:(j:Int)<(n:Int):=by omega
    go_wp2
    go_roundw
    case rel=>exact⟨j+1,by omega,by go_num,congrArg (Value.int IntKind.i64) (by omega),trivial⟩
    case measure=>simp[intOf]; omega
  . obtain rfl:j=n:=by omega
    go_wp2;go_ret;exact⟨by first | rfl | simp,rfl⟩
end Go.Proofs.Ytflmmdljkhdjlaa
