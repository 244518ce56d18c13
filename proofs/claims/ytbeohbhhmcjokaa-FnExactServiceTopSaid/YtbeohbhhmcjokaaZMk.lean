import Derived.Test.YtbeohbhhmcjokaaZLevHashImpl
import Derived.Test.YtbeohbhhmcjokaaZSvS
set_option linter.all false
set_option maxRecDepth 100000
set_option maxHeartbeats 8000000
open Go.Lib
namespace Go.Proofs.Ytbeohbhhmcjokaa
open Go.RowKit
open M
theorem Fx{w:World}{base:Nat}{e:TypeId}{sz:Nat}{v:Value}{n:Nat}{xs:List Value}(h:w.ownsRow base e sz v n xs)(hn:0<n):∃ g cap,v=.slice (some ⟨g,0,none⟩) n cap/\base<=g/\g<w.heap.size:=by
 have h0:=h;rcases h.2 with⟨_,e⟩ | ⟨g,cap,cur,rfl,hb,_⟩
 . omega
 . exact⟨g,cap,rfl,hb,(h0.lt g rfl).2⟩
def Mk(lo:Nat)(W:World)(A:Option Addr)(n:Nat):Prop:=0<n->∃ g,A=some ⟨g,0,none⟩/\lo<=g/\g<W.heap.size/\W.there g 0 n
theorem Mk.step{lo n:Nat}{W W':World}{A:Option Addr}(h:Mk lo W A n)(B:Below W.heap.size W W'):Mk lo W' A n:=fun hn=>by
 obtain⟨g,e,h1,h2,T⟩:=h hn;exact⟨g,e,h1,Nat.lt_of_lt_of_le h2 B.size,AA T B h2⟩
theorem Mk.of_own{W:World}{base:Nat}{e:TypeId}{sz:Nat}{A:Option Addr}{n c:Nat}{vs:List Value}(O:W.ownsRow base e sz (.slice A n c) n vs)(h1:0<sz):Mk base W A (n*sz):=fun hn=>by
 have h0:0<n:=Nat.pos_of_ne_zero (fun e=>by subst e; simp at hn);obtain⟨g,cap,e1,hb,hg⟩:=Fx O h0;cases e1
 refine⟨g,rfl,hb,hg,fun j hj=>?_⟩;rw[Nat.zero_add];refine⟨?_,O.frozenAt j⟩;rw[O.cellAt j hj,List.getElem?_eq_getElem (by rw[O.1]; exact hj)];rfl
def Fr(n:Nat)(A:Option Addr)(w w':World):Prop:=w.heap.size<=w'.heap.size/\∀ b,b<w.heap.size->(0<n->A≠some ⟨b,0,none⟩)->w'.heap[b]?=w.heap[b]?
theorem Mk.fr{m sz:Nat}{D:Option Addr}{w w':World}{A:Option Addr}{lo:Nat}(h:Mk lo w A sz)(B:Fr m D w w')(hA:0<sz->0<m->D≠A):Mk lo w' A sz:=fun hn=>by
 obtain⟨g,e,h1,h2,T⟩:=h hn;have eb:=B.2 g h2 (fun hm=>by rw[<- e]; exact hA hn hm);exact⟨g,e,h1,Nat.lt_of_lt_of_le h2 B.1,fun j hj=>by
  obtain⟨a,b⟩:=T j hj;exact⟨by rw[World.cell?_of_block (a:=⟨g,0+j,none⟩) eb]; exact a,by rw[World.frozen?_of_block (a:=⟨g,0+j,none⟩) eb]; exact b⟩⟩
theorem BQ{lo:Nat}{w W:World}(B:Below lo w W)(g o:Nat)(v:Value)(h:lo<=g):Below lo w (W.setCell ⟨g,o,none⟩ v):=B.setCell (p:=⟨g,o,none⟩) h v
theorem Ints.fr{m:Nat}{D:Option Addr}{w w':World}{A:Option Addr}{n:Nat}{xs:List Int}(h:Ints w A n xs)(B:Fr m D w w')(hA:0<n->0<m->∀ k off,A=some ⟨k,off,none⟩->D≠some ⟨k,0,none⟩):Ints w' A n xs :=
 ⟨h.1,fun hn=>by
  obtain⟨b,off,e,hb,hc⟩:=h.2 hn;exact⟨b,off,e,Nat.lt_of_lt_of_le hb B.1,fun k hk=>(World.cell?_of_block (a:=⟨b,off+k,none⟩) (B.2 b hb (fun hm=>hA hn hm b off e))).trans (hc k hk)⟩⟩
def Dw(k j:Nat):Int:=((k+j:Nat):Int)
def Es(k n:Nat):List Int:=(List.range n).map (Dw k)
theorem Gu(k n:Nat):(Es k n).length=n:=by simp[Es]
theorem Et{k n j:Nat}(h:j<n):(Es k n).getD j 0=Dw k j:=by
 simp[Es,List.getD_eq_getElem?_getD,h]
def Fy(lo:Nat)(w:World)(g k n:Nat)(kv iv:Value)(W:World):Prop :=
 ∃ j:Nat,j<=n/\iv=.int .i64 j/\kv=.int .i64 ((k+j:Nat):Int)/\W.there g 0 (n*1)/\(∀ i,i<j->W.cell? ⟨g,i,none⟩=some (.int .i64 (Dw k i)))/\g<W.heap.size/\Kept g w W/\Below lo w W
theorem Fz{lo:Nat}{w W:World}{g k n j:Nat}(hj:j<n)(T:W.there g 0 (n*1))(hc:∀ i,i<j->W.cell? ⟨g,i,none⟩=some (.int .i64 (Dw k i)))(hg:g<W.heap.size)(hlo:lo<=g)(KK:Kept g w W)(B:Below lo w W) :
 Fy lo w g k n (.int .i64 ((k+(j+1):Nat):Int)) (.int .i64 ((j+1:Nat):Int)) (W.setCell ⟨g,j,none⟩ (.int .i64 ((k+j:Nat):Int))):=by
 have t0:=(T j (by omega)).1;rw[Nat.zero_add] at t0;refine⟨j+1,by omega,rfl,rfl,Ak T _ _,fun i hi=>?_,by simpa[World.setCell] using hg,KK.mine _ _,BQ B _ _ _ hlo⟩;by_cases e:i=j
 . subst e;exact World.cell?_setCell_same' _ _ _ t0
 . exact(World.cell?_setCell_other _ _ _ _ (by first | (simp; done) | (simp; omega))).trans (hc i (by omega))
theorem BL(lo:Nat)(A:Option Addr)(n c:Nat)(k:Nat)(w:World)(M:Mk lo w A (n*1))(hn:n<=1048576)(hk:k<=100000000)(hlo:lo<=w.heap.size) :
 Calls Try.prog 18 #[.slice A n c,.int .i64 k] w fun e w'=>e=.returned (.int .i64 ((k+1*n:Nat):Int))/\Ints w' A n (Es k n)/\Mk lo w' A (n*1)/\Fr n A w w'/\Below lo w w':=by
 by_cases h0:n=0
 . subst h0;go_enter Try.func18,Try.ntmps18;go_wp2
   go_loopw [1,5] (fun kv iv W=>kv=.int .i64 k/\iv=.int .i64 0/\w=W) (fun _ _ _=>0)
   case atStart=>exact⟨rfl,rfl,rfl⟩
   case round =>
    obtain⟨rfl,rfl,rfl⟩:=hrel;go_wp2;go_ret;exact⟨by simp,⟨by simp[Es],fun h=>absurd h (by omega)⟩,fun h=>absurd h (by omega),⟨Nat.le_refl _,fun _ _ _=>rfl⟩,Below.refl _ _⟩
 obtain⟨g,rfl,hg1,hg2,T⟩:=M (by omega);replace T:=hid T;go_enter Try.func18,Try.ntmps18;go_wp2
 go_loopw [1,5] (Fy lo w g k n) (fun _ i _=>n-(RowKit.intOf i).toNat)
 case atStart=>exact⟨0,Nat.zero_le _,rfl,rfl,T.out,fun i hi=>absurd hi (by omega),hg2,Kept.refl _ _,Below.refl _ _⟩
 case round =>
  clear T hg2;obtain⟨j,hj,rfl,rfl,T,hc,hg2,KK,B⟩:=hrel;replace KK:=hid KK;replace hc:=hid hc;replace T:=hid T;replace B:=hid B;by_cases hlt:j<n
  . skip
    obtain⟨u0,e0⟩:=Option.isSome_iff_exists.1 (T.out (j) (by omega)).1;have f0:=(T.out (j) (by omega)).2;rw[Nat.zero_add] at e0 f0;have hnx:=hid (Fz hlt T.out hc.out hg2 hg1 KK.out B.out);have j0:(0:Int)<=(j:Int):=by omega
    have j1:(j:Int)<(n:Int):=by omega
    go_wp2
    go_roundw
    case rel=>first | exact hnx.out | (trace_state; fail)
    case measure=>simp[RowKit.intOf]; omega
  . obtain rfl:j=n:=by omega
    have J:Ints wr (some ⟨g,0,none⟩) j (Es k j):=⟨Gu k j,fun _=>⟨g,0,rfl,hg2,fun i hi=>by rw[Nat.zero_add,Et hi]; exact hc.out i hi⟩⟩;replace J:=hid J;go_wp2;go_ret;exact⟨by first | rfl | (congr 2; done) | simp,J.out,fun _=>⟨g,rfl,hg1,hg2,T.out⟩,⟨KK.out.size,fun b hb hne=>KK.out.block b hb (fun e=>hne (Nat.pos_of_ne_zero h0) (by rw[e]))⟩,B.out⟩
theorem CP(A:Option Addr)(n c:Nat)(k:Nat)(w:World)(I:Ints w A n (Es k n))(hn:n<=1048576)(hk:k<=100000000) :
 Calls Try.prog 49 #[.slice A n c,.int .i64 k] w fun e w'=>e=.returned (.int .i64 ((k+1*n:Nat):Int))/\w=w':=by
 replace I:=hid I;go_enter Try.func49,Try.ntmps49;go_wp2
 go_loopw [1,5] (fun kv iv W=>∃ j:Nat,j<=n/\iv=.int .i64 j/\kv=.int .i64 ((k+j:Nat):Int)/\w=W) (fun _ i _=>n-(RowKit.intOf i).toNat)
 case atStart=>exact⟨0,Nat.zero_le _,rfl,rfl,rfl⟩
 case round =>
  obtain⟨j,hj,rfl,rfl,rfl⟩:=hrel;by_cases hlt:j<n
  . obtain⟨b,off,rfl,hb,hc⟩:=I.out.2 (by omega);have cx:=hc j hlt;rw[Et hlt] at cx;clear hc;simp only[Dw] at cx;have j0:(0:Int)<=(j:Int):=by omega
    have j1:(j:Int)<(n:Int):=by omega
    go_wp2
    go_roundw
    case rel=>exact⟨j+1,by omega,by go_num,congrArg (Value.int IntKind.i64) (by omega),trivial⟩
    case measure=>simp[RowKit.intOf]; omega
  . obtain rfl:j=n:=by omega
    go_wp2;go_ret;exact⟨by first | rfl | simp,rfl⟩
theorem EnAt.other{W:World}{g o:Nat}{q:En}(h:EnAt W g o q){p:Nat}(hp:p<o\/o+1<p)(v:Value):EnAt (W.setCell ⟨g,p,none⟩ v) g o q :=
 ⟨(World.cell?_setCell_other _ _ _ _ (by first | (simp; done) | (simp; omega))).trans h.c0,(World.cell?_setCell_other _ _ _ _ (by first | (simp; done) | (simp; omega))).trans h.c1⟩
theorem Ents.fr{m:Nat}{D:Option Addr}{w w':World}{A:Option Addr}{n:Nat}{xs:List En}(h:Ents w A n xs)(B:Fr m D w w')(hA:0<n->0<m->∀ k off,A=some ⟨k,off,none⟩->D≠some ⟨k,0,none⟩):Ents w' A n xs :=
 ⟨h.1,fun hn=>by
  obtain⟨b,off,e,hb,hc⟩:=h.2 hn;exact⟨b,off,e,Nat.lt_of_lt_of_le hb B.1,fun k hk=>(hc k hk).of (B.2 b hb (fun hm=>hA hn hm b off e))⟩⟩
def Cq(k j:Nat):En:=⟨((k+2*j:Nat):Int),((k+2*j+1:Nat):Int)⟩
def CI(k n:Nat):List En:=(List.range n).map (Cq k)
theorem FA(k n:Nat):(CI k n).length=n:=by simp[CI]
theorem Dx{k n j:Nat}(h:j<n):(CI k n).getD j ez=Cq k j:=by
 simp[CI,List.getD_eq_getElem?_getD,h]
def Eu(lo:Nat)(w:World)(g k n:Nat)(kv iv:Value)(W:World):Prop :=
 ∃ j:Nat,j<=n/\iv=.int .i64 j/\kv=.int .i64 ((k+2*j:Nat):Int)/\W.there g 0 (n*2)/\(∀ i,i<j->EnAt W g (i*2) (Cq k i))/\g<W.heap.size/\Kept g w W/\Below lo w W
theorem EL{lo:Nat}{w W:World}{g k n j:Nat}(hj:j<n)(T:W.there g 0 (n*2))(hc:∀ i,i<j->EnAt W g (i*2) (Cq k i))(hg:g<W.heap.size)(hlo:lo<=g)(KK:Kept g w W)(B:Below lo w W) :
 Eu lo w g k n (.int .i64 ((k+2*(j+1):Nat):Int)) (.int .i64 ((j+1:Nat):Int)) ((W.setCell ⟨g,j*2,none⟩ (.int .i64 ((k+2*j:Nat):Int))).setCell ⟨g,j*2+1,none⟩ (.int .i64 ((k+2*j+1:Nat):Int))):=by
 have t0:=(T (j*2) (by omega)).1;rw[Nat.zero_add] at t0;have s1:=Ak T (j*2) (.int .i64 ((k+2*j:Nat):Int));refine⟨j+1,by omega,rfl,rfl,Ak s1 _ _,fun i hi=>?_,by simpa[World.setCell] using hg,(KK.mine _ _).mine _ _,BQ (BQ B _ _ _ hlo) _ _ _ hlo⟩;by_cases e:i=j
 . subst e;refine⟨?_,?_⟩
   . rw[World.cell?_setCell_other _ _ _ _ (by simp)];exact World.cell?_setCell_same' _ _ _ t0
   . exact World.cell?_setCell_same' _ _ _ (by have:=(s1 (i*2+1) (by omega)).1; rwa [Nat.zero_add] at this)
 . exact((hc i (by omega)).other (by omega) _).other (by omega) _
theorem Cr(lo:Nat)(A:Option Addr)(n c:Nat)(k:Nat)(w:World)(M:Mk lo w A (n*2))(hn:n<=1048576)(hk:k<=100000000)(hlo:lo<=w.heap.size) :
 Calls Try.prog 37 #[.slice A n c,.int .i64 k] w fun e w'=>e=.returned (.int .i64 ((k+2*n:Nat):Int))/\Ents w' A n (CI k n)/\Mk lo w' A (n*2)/\Fr n A w w'/\Below lo w w':=by
 by_cases h0:n=0
 . subst h0;go_enter Try.func37,Try.ntmps37;go_wp2
   go_loopw [1,5] (fun kv iv W=>kv=.int .i64 k/\iv=.int .i64 0/\w=W) (fun _ _ _=>0)
   case atStart=>exact⟨rfl,rfl,rfl⟩
   case round =>
    obtain⟨rfl,rfl,rfl⟩:=hrel;go_wp2;go_ret;exact⟨by simp,⟨by simp[CI],fun h=>absurd h (by omega)⟩,fun h=>absurd h (by omega),⟨Nat.le_refl _,fun _ _ _=>rfl⟩,Below.refl _ _⟩
 obtain⟨g,rfl,hg1,hg2,T⟩:=M (by omega);replace T:=hid T;go_enter Try.func37,Try.ntmps37;go_wp2
 go_loopw [1,5] (Eu lo w g k n) (fun _ i _=>n-(RowKit.intOf i).toNat)
 case atStart=>exact⟨0,Nat.zero_le _,rfl,rfl,T.out,fun i hi=>absurd hi (by omega),hg2,Kept.refl _ _,Below.refl _ _⟩
 case round =>
  clear T hg2;obtain⟨j,hj,rfl,rfl,T,hc,hg2,KK,B⟩:=hrel;replace KK:=hid KK;replace hc:=hid hc;replace T:=hid T;replace B:=hid B;by_cases hlt:j<n
  . skip
    obtain⟨u0,e0⟩:=Option.isSome_iff_exists.1 (T.out (j*2) (by omega)).1;have f0:=(T.out (j*2) (by omega)).2;rw[Nat.zero_add] at e0 f0;obtain⟨u1,e1⟩:=Option.isSome_iff_exists.1 (T.out (j*2+1) (by omega)).1;have f1:=(T.out (j*2+1) (by omega)).2;rw[Nat.zero_add] at e1 f1;have hnx:=hid (EL hlt T.out hc.out hg2 hg1 KK.out B.out);have j0:(0:Int)<=(j:Int):=by omega
    have j1:(j:Int)<(n:Int):=by omega
    go_wp2
    go_roundw
    case rel=>first | exact hnx.out | (trace_state; fail)
    case measure=>simp[RowKit.intOf]; omega
  . obtain rfl:j=n:=by omega
    have J:Ents wr (some ⟨g,0,none⟩) j (CI k j):=⟨FA k j,fun _=>⟨g,0,rfl,hg2,fun i hi=>by rw[Nat.zero_add,Dx hi]; exact hc.out i hi⟩⟩;replace J:=hid J;go_wp2;go_ret;exact⟨by first | rfl | (congr 2; done) | simp,J.out,fun _=>⟨g,rfl,hg1,hg2,T.out⟩,⟨KK.out.size,fun b hb hne=>KK.out.block b hb (fun e=>hne (Nat.pos_of_ne_zero h0) (by rw[e]))⟩,B.out⟩
theorem Bl(A:Option Addr)(n c:Nat)(k:Nat)(w:World)(I:Ents w A n (CI k n))(hn:n<=1048576)(hk:k<=100000000) :
 Calls Try.prog 38 #[.slice A n c,.int .i64 k] w fun e w'=>e=.returned (.int .i64 ((k+2*n:Nat):Int))/\w=w':=by
 replace I:=hid I;go_enter Try.func38,Try.ntmps38;go_wp2
 go_loopw [1,5] (fun kv iv W=>∃ j:Nat,j<=n/\iv=.int .i64 j/\kv=.int .i64 ((k+2*j:Nat):Int)/\w=W) (fun _ i _=>n-(RowKit.intOf i).toNat)
 case atStart=>exact⟨0,Nat.zero_le _,rfl,rfl,rfl⟩
 case round =>
  obtain⟨j,hj,rfl,rfl,rfl⟩:=hrel;by_cases hlt:j<n
  . obtain⟨b,off,rfl,hb,hc⟩:=I.out.2 (by omega);have cx:=hc j hlt;rw[Dx hlt] at cx;clear hc;obtain⟨c0,c1⟩:=cx;simp only[Cq] at c0 c1;have j0:(0:Int)<=(j:Int):=by omega
    have j1:(j:Int)<(n:Int):=by omega
    go_wp2
    go_roundw
    case rel=>exact⟨j+1,by omega,by go_num,congrArg (Value.int IntKind.i64) (by omega),trivial⟩
    case measure=>simp[RowKit.intOf]; omega
  . obtain rfl:j=n:=by omega
    go_wp2;go_ret;exact⟨by first | rfl | simp,rfl⟩
theorem EM(s p:Int)(w:World):Calls Try.prog 118 #[.agg #[.int .i64 s,.int .i64 p]] w fun e w'=>e=.returned (.agg #[.int .i64 s,.int .i64 p])/\Below w.heap.size w w':=by
 go_enter Try.func118,Try.ntmps118;go_wp2;exact bodyPost_ret (v:=.agg #[.int .i64 s,.int .i64 p]) (by simp[results,Try.results118,go_sem]) rfl ⟨rfl,(by repeat (first | exact Ac _ | refine Ab ?_ _ | refine Ag ?_ _ _ _ (by omega)))⟩
theorem DZ(s p:Int)(w:World):Calls Try.prog 78 #[.agg #[.int .i64 s,.int .i64 p],.agg #[.int .i64 s,.int .i64 p]] w fun e w'=>e=.returned (.bool true)/\Below w.heap.size w w':=by
 go_enter Try.func78,Try.ntmps78;go_wp2;go_ret;exact⟨rfl,Ab (Ab (Ac w) _) _⟩
def Gv(w:World)(n:Nat)(xs:List En)(e:Ending)(w':World):Prop :=
 ∃ u:Nat,e=.returned (.slice (some ⟨u,0,none⟩) n n)/\Ents w' (some ⟨u,0,none⟩) n xs/\w.heap.size<=u/\w'.there u 0 (n*2)/\u<w'.heap.size/\Below w.heap.size w w'
def GI(w:World)(n:Nat)(xs:List En)(i:Value)(W:World):Prop :=
 ∃ k:Nat,k<=n/\i=.int .i64 k/\W.there w.heap.size 0 (n*2)/\(∀ j,j<k->EnAt W w.heap.size (j*2) (xs.getD j ez))/\w.heap.size<W.heap.size/\Below w.heap.size w W
theorem D7{w W:World}{n k:Nat}{xs:List En}{a b:Int}(hk:k<n)(T:W.there w.heap.size 0 (n*2))(hc:∀ j,j<k->EnAt W w.heap.size (j*2) (xs.getD j ez))(hq:xs.getD k ez=⟨a,b⟩)(hl:w.heap.size<W.heap.size)(B:Below w.heap.size w W) :
 GI w n xs (.int .i64 (k+1)) ((W.setCell ⟨w.heap.size,k*2,none⟩ (.int .i64 a)).setCell ⟨w.heap.size,k*2+1,none⟩ (.int .i64 b)):=by
 have t0:=(T (k*2) (by omega)).1;rw[Nat.zero_add] at t0;have s1:=Ak T (k*2) (.int .i64 a);refine⟨k+1,by omega,by simp,Ak s1 _ _,fun j hj=>?_,by simpa[World.setCell] using hl,Ag (Ag B _ _ _ (Nat.le_refl _)) _ _ _ (Nat.le_refl _)⟩;by_cases e:j=k
 . subst e;rw[hq];refine⟨?_,?_⟩
   . rw[World.cell?_setCell_other _ _ _ _ (by simp)];exact World.cell?_setCell_same' _ _ _ t0
   . exact World.cell?_setCell_same' _ _ _ (by have:=(s1 (j*2+1) (by omega)).1; rwa [Nat.zero_add] at this)
 . exact((hc j (by omega)).other (by omega) _).other (by omega) _
theorem D8(A:Option Addr)(n cap:Nat)(xs:List En)(w:World)(I:Ents w A n xs)(hn:n<=1048576) :
 Calls Try.prog 109 #[.slice A n cap] w (Gv w n xs):=by
 obtain⟨i0,hi,hz0,hz1,hz2⟩:=info_parts Bt;have hl:=hid I.1;have I:=hid I;go_enter Try.func109,Try.ntmps109;go_wp2_with (at_make; refine wpList_make_full _ rfl _ _ 68 rfl w.heap.size 88 i0 (.agg #[.int .i64 0,.int .i64 0]) 2 Try.underlying68 hi hz0 hz1 .i64 .i64 _ _ n rfl rfl rfl rfl (by rw[hz2]; omega) (by unfold maxLen; omega) (Nat.le_refl _) ?_);intro w0 O0 G0;have T0:w0.there w.heap.size 0 (n*2):=fun j hj=>by
  rw[Nat.zero_add];refine⟨?_,O0.frozenAt j⟩;rw[O0.cellAt j hj,List.getElem?_eq_getElem (by rw[O0.1]; exact hj)];rfl
 have L0:w.heap.size<w0.heap.size:=(O0.lt w.heap.size rfl).2;have B0:Below w.heap.size w w0:=(Ac w).grown G0 (Nat.le_refl _) (fun k e=>by cases e);clear G0 O0;go_wp2
 go_loopw [4] (GI w n xs) (fun i _=>n-(RowKit.intOf i).toNat)
 case atStart=>exact⟨0,Nat.zero_le _,rfl,T0,fun j hj=>absurd hj (by omega),L0,B0⟩
 case round =>
  obtain⟨k,hk,rfl,T,hc,L,B⟩:=hrel;clear T0 L0 B0;by_cases hlt:k<n
  . obtain⟨b,off,hA,hb,hcell⟩:=(I.out.step B).2 (by omega);obtain⟨c0,c1⟩:=hcell k hlt;obtain⟨⟨za,zb⟩,hq⟩:∃ q,xs.getD k ez=q:=⟨_,rfl⟩;rw[hq] at c0 c1;simp only at c0 c1;have hq:=hid hq;have T:=hid T;have hc:=hid hc;have B:=hid B;subst hA;clear hcell;go_wp2_with fail;refine(EM za zb _).mono ?_;rintro e w1 ⟨rfl,B1⟩;have T1:=hid (AA T.out B1 L);have hc1:=hid (fun j hj=>(hc.out j hj).of (B1.block _ L));have L1:=Nat.lt_of_lt_of_le L B1.size;have H1:=hid (Aa B.out B1);clear B1 T hc B L c0 c1;obtain⟨u0,e0⟩:=Bb (T1.out (k*2) (by omega)).1;obtain⟨u1,e1⟩:=Bb (T1.out (k*2+1) (by omega)).1
    have f0:=(T1.out (k*2) (by omega)).2;have f1:=(T1.out (k*2+1) (by omega)).2;rw[Nat.zero_add] at e0 e1 f0 f1;go_wp2
    go_roundw
    case rel=>exact D7 hlt T1.out hc1.out hq.out L1 H1.out
    case measure=>simp[RowKit.intOf]; omega
  . have J:Ents _ (some ⟨w.heap.size,0,none⟩) n xs:=⟨hl.out,fun _=>⟨w.heap.size,0,rfl,L,fun j hj=>by rw[Nat.zero_add]; exact hc j (by omega)⟩⟩;have J:=hid J;have B:=hid B;have T:=hid T;have hL:=L;clear hc;go_wp2;go_ret;exact⟨w.heap.size,rfl,J.out,Nat.le_refl _,T.out,hL,B.out⟩
theorem AH(A D:Option Addr)(n c d:Nat)(xs:List En)(w:World)(I:Ents w A n xs)(J:Ents w D n xs)(hn:n<=1048576) :
 Calls Try.prog 36 #[.slice A n c,.slice D n d] w fun e w'=>e=.returned (.bool true)/\Below w.heap.size w w':=by
 have I:=hid I;have J:=hid J;go_enter Try.func36,Try.ntmps36;go_wp2
 go_loopw [5] (fun i W=>∃ k:Nat,k<=n/\i=.int .i64 k/\Below w.heap.size w W) (fun i _=>n-(RowKit.intOf i).toNat)
 case atStart=>exact⟨0,Nat.zero_le _,rfl,Ac w⟩
 case round =>
  obtain⟨k,hk,rfl,B⟩:=hrel;by_cases hlt:k<n
  . obtain⟨b1,o1,rfl,hb1,hc1⟩:=(I.out.step B).2 (by omega);obtain⟨b2,o2,rfl,hb2,hc2⟩:=(J.out.step B).2 (by omega);obtain⟨z0,z1⟩:=hc1 k hlt;obtain⟨y0,y1⟩:=hc2 k hlt;have Hb:=hid B;clear hc1 hc2 B;generalize xs.getD k ez=q at *;obtain⟨za,zb⟩:=q;simp only at z0 z1 y0 y1;go_wp2_with fail;refine wp_region_held_drew (S:=fun w'=>(w'.cell? ⟨b1,o1+k*2,none⟩=some (.int .i64 za)/\w'.cell? ⟨b1,o1+k*2+1,none⟩=some (.int .i64 zb))/\w'.cell? ⟨b2,o2+k*2,none⟩=some (.int .i64 za)/\w'.cell? ⟨b2,o2+k*2+1,none⟩=some (.int .i64 zb)) (by kernel_rfl) ⟨⟨z0,z1⟩,y0,y1⟩ (fun hHeld=>?_);refine tl 0 ?_ ?_ hHeld ?_;rotate_left
    . intro w hSw
      try dsimp only at hSw
      go_simp
      all_goals with_reducible rfl
    try simp only[Act.put,sx]
    refine tl 1 ?_ ?_ hHeld ?_;rotate_left
    . intro w hSw
      try dsimp only at hSw
      go_simp
      all_goals with_reducible rfl
    try simp only[Act.put,sx]
    refine tl 2 ?_ ?_ hHeld ?_;rotate_left
    . intro w hSw
      try dsimp only at hSw
      go_simp
      all_goals with_reducible rfl
    try simp only[Act.put,sx]
    refine tl 3 ?_ ?_ hHeld ?_;rotate_left
    . intro w hSw;obtain⟨⟨z0,z1⟩,_⟩:=hSw;go_simp
      all_goals with_reducible rfl
    try simp only[Act.put,sx]
    refine tl 4 ?_ ?_ hHeld ?_;rotate_left
    . intro w hSw
      try dsimp only at hSw
      go_simp
      all_goals with_reducible rfl
    try simp only[Act.put,sx]
    refine tl 5 ?_ ?_ hHeld ?_;rotate_left
    . intro w hSw
      try dsimp only at hSw
      go_simp
      all_goals with_reducible rfl
    try simp only[Act.put,sx]
    refine tl 6 ?_ ?_ hHeld ?_;rotate_left
    . intro w hSw
      try dsimp only at hSw
      go_simp
      all_goals with_reducible rfl
    try simp only[Act.put,sx]
    refine tl 7 ?_ ?_ hHeld ?_;rotate_left
    . intro w hSw;obtain⟨_,z0,z1⟩:=hSw;go_simp
      all_goals with_reducible rfl
    try simp only[Act.put,sx]
    refine wpAnyH_ready (rs:=[8]) (by kernel_rfl) (by simp) ?_;apply AllReadyH.cons rfl ?_ AllReadyH.nil;intro K hK;go_simp
    go_at_call 78
    refine(DZ _ _ _).mono ?_;rintro e wn ⟨rfl,Bn⟩;have Kn:Below wr.heap.size wr wn:=(Ac wr).drew.trans Bn;replace z0:=(World.cell?_of_block (a:=⟨b1,o1+k*2,none⟩) (Kn.block b1 hb1)).trans z0;replace z1:=(World.cell?_of_block (a:=⟨b1,o1+k*2+1,none⟩) (Kn.block b1 hb1)).trans z1;replace y0:=(World.cell?_of_block (a:=⟨b2,o2+k*2,none⟩) (Kn.block b2 hb2)).trans y0;replace y1:=(World.cell?_of_block (a:=⟨b2,o2+k*2+1,none⟩) (Kn.block b2 hb2)).trans y1;have Hb2:=hid (Aa Hb.out Kn);clear Kn Bn hHeld;go_wp2_with fail;refine hK.out _ _ ⟨⟨z0,z1⟩,y0,y1⟩ (fun hHeld=>?_);clear hK K
    try simp only[Act.put,sx]
    refine tl 9 ?_ ?_ hHeld ?_;rotate_left
    . intro w hSw
      try dsimp only at hSw
      go_simp
      all_goals with_reducible rfl
    try simp only[Act.put,sx]
    refine wpAnyH_done (by kernel_rfl) ?_ _;go_wp2
    go_roundw
    case rel=>exact⟨k+1,by omega,by go_num,Hb2.out⟩
    case measure=>simp[RowKit.intOf]; omega
  . have B:=hid B;go_wp2;go_ret;exact⟨rfl,B.out⟩
theorem Boxes.fr{m:Nat}{D:Option Addr}{w w':World}{A:Option Addr}{n:Nat}{xs:List Bx}(h:Boxes w A n xs)(B:Fr m D w w')(hA:0<n->0<m->∀ k off,A=some ⟨k,off,none⟩->D≠some ⟨k,0,none⟩):Boxes w' A n xs :=
 ⟨h.1,fun hn=>by
  obtain⟨b,off,e,hb,hc⟩:=h.2 hn;exact⟨b,off,e,Nat.lt_of_lt_of_le hb B.1,fun k hk=>(hc k hk).of (B.2 b hb (fun hm=>hA hn hm b off e))⟩⟩
def Cs(k j:Nat):Bx:=⟨((k+4*j:Nat):Int),((k+4*j+1:Nat):Int),((k+4*j+2:Nat):Int),((k+4*j+3:Nat):Int)⟩
def BW(k n:Nat):List Bx:=(List.range n).map (Cs k)
theorem FB(k n:Nat):(BW k n).length=n:=by simp[BW]
theorem Dy{k n j:Nat}(h:j<n):(BW k n).getD j bz=Cs k j:=by
 simp[BW,List.getD_eq_getElem?_getD,h]
def Ev(lo:Nat)(w:World)(g k n:Nat)(kv iv:Value)(W:World):Prop :=
 ∃ j:Nat,j<=n/\iv=.int .i64 j/\kv=.int .i64 ((k+4*j:Nat):Int)/\W.there g 0 (n*4)/\(∀ i,i<j->BoxAt W g (i*4) (Cs k i))/\g<W.heap.size/\Kept g w W/\Below lo w W
theorem EN{lo:Nat}{w W:World}{g k n j:Nat}(hj:j<n)(T:W.there g 0 (n*4))(hc:∀ i,i<j->BoxAt W g (i*4) (Cs k i))(hg:g<W.heap.size)(hlo:lo<=g)(KK:Kept g w W)(B:Below lo w W) :
 Ev lo w g k n (.int .i64 ((k+4*(j+1):Nat):Int)) (.int .i64 ((j+1:Nat):Int)) ((((W.setCell ⟨g,j*4,none⟩ (.int .i64 ((k+4*j:Nat):Int))).setCell ⟨g,j*4+1,none⟩ (.int .i64 ((k+4*j+1:Nat):Int))).setCell ⟨g,j*4+2,none⟩ (.int .i64 ((k+4*j+2:Nat):Int))).setCell ⟨g,j*4+3,none⟩ (.int .i64 ((k+4*j+3:Nat):Int))):=by
 have t0:=(T (j*4) (by omega)).1;rw[Nat.zero_add] at t0;have s1:=Ak T (j*4) (.int .i64 ((k+4*j:Nat):Int));have s2:=Ak s1 (j*4+1) (.int .i64 ((k+4*j+1:Nat):Int));have s3:=Ak s2 (j*4+2) (.int .i64 ((k+4*j+2:Nat):Int));refine⟨j+1,by omega,rfl,rfl,Ak s3 _ _,fun i hi=>?_,by simpa[World.setCell] using hg,(((KK.mine _ _).mine _ _).mine _ _).mine _ _,BQ (BQ (BQ (BQ B _ _ _ hlo) _ _ _ hlo) _ _ _ hlo) _ _ _ hlo⟩;by_cases e:i=j
 . subst e;refine⟨?_,?_,?_,?_⟩
   . rw[World.cell?_setCell_other _ _ _ _ (by simp),World.cell?_setCell_other _ _ _ _ (by simp),World.cell?_setCell_other _ _ _ _ (by simp)];exact World.cell?_setCell_same' _ _ _ t0
   . rw[World.cell?_setCell_other _ _ _ _ (by simp),World.cell?_setCell_other _ _ _ _ (by simp)];exact World.cell?_setCell_same' _ _ _ (by have:=(s1 (i*4+1) (by omega)).1; rwa [Nat.zero_add] at this)
   . rw[World.cell?_setCell_other _ _ _ _ (by simp)];exact World.cell?_setCell_same' _ _ _ (by have:=(s2 (i*4+2) (by omega)).1; rwa [Nat.zero_add] at this)
   . exact World.cell?_setCell_same' _ _ _ (by have:=(s3 (i*4+3) (by omega)).1; rwa [Nat.zero_add] at this)
 . exact((((hc i (by omega)).other (by omega) _).other (by omega) _).other (by omega) _).other (by omega) _
theorem Ct(lo:Nat)(A:Option Addr)(n c:Nat)(k:Nat)(w:World)(M:Mk lo w A (n*4))(hn:n<=1048576)(hk:k<=100000000)(hlo:lo<=w.heap.size) :
 Calls Try.prog 72 #[.slice A n c,.int .i64 k] w fun e w'=>e=.returned (.int .i64 ((k+4*n:Nat):Int))/\Boxes w' A n (BW k n)/\Mk lo w' A (n*4)/\Fr n A w w'/\Below lo w w':=by
 by_cases h0:n=0
 . subst h0;go_enter Try.func72,Try.ntmps72;go_wp2
   go_loopw [1,5] (fun kv iv W=>kv=.int .i64 k/\iv=.int .i64 0/\w=W) (fun _ _ _=>0)
   case atStart=>exact⟨rfl,rfl,rfl⟩
   case round =>
    obtain⟨rfl,rfl,rfl⟩:=hrel;go_wp2;go_ret;exact⟨by simp,⟨by simp[BW],fun h=>absurd h (by omega)⟩,fun h=>absurd h (by omega),⟨Nat.le_refl _,fun _ _ _=>rfl⟩,Below.refl _ _⟩
 obtain⟨g,rfl,hg1,hg2,T⟩:=M (by omega);replace T:=hid T;go_enter Try.func72,Try.ntmps72;go_wp2
 go_loopw [1,5] (Ev lo w g k n) (fun _ i _=>n-(RowKit.intOf i).toNat)
 case atStart=>exact⟨0,Nat.zero_le _,rfl,rfl,T.out,fun i hi=>absurd hi (by omega),hg2,Kept.refl _ _,Below.refl _ _⟩
 case round =>
  clear T hg2;obtain⟨j,hj,rfl,rfl,T,hc,hg2,KK,B⟩:=hrel;replace KK:=hid KK;replace hc:=hid hc;replace T:=hid T;replace B:=hid B;by_cases hlt:j<n
  . skip
    obtain⟨u0,e0⟩:=Option.isSome_iff_exists.1 (T.out (j*4) (by omega)).1;have f0:=(T.out (j*4) (by omega)).2;rw[Nat.zero_add] at e0 f0;obtain⟨u1,e1⟩:=Option.isSome_iff_exists.1 (T.out (j*4+1) (by omega)).1;have f1:=(T.out (j*4+1) (by omega)).2;rw[Nat.zero_add] at e1 f1;obtain⟨u2,e2⟩:=Option.isSome_iff_exists.1 (T.out (j*4+2) (by omega)).1;have f2:=(T.out (j*4+2) (by omega)).2;rw[Nat.zero_add] at e2 f2;obtain⟨u3,e3⟩:=Option.isSome_iff_exists.1 (T.out (j*4+3) (by omega)).1;have f3:=(T.out (j*4+3) (by omega)).2;rw[Nat.zero_add] at e3 f3;have hnx:=hid (EN hlt T.out hc.out hg2 hg1 KK.out B.out)
    have j0:(0:Int)<=(j:Int):=by omega
    have j1:(j:Int)<(n:Int):=by omega
    go_wp2
    go_roundw
    case rel=>first | exact hnx.out | (trace_state; fail)
    case measure=>simp[RowKit.intOf]; omega
  . obtain rfl:j=n:=by omega
    have J:Boxes wr (some ⟨g,0,none⟩) j (BW k j):=⟨FB k j,fun _=>⟨g,0,rfl,hg2,fun i hi=>by rw[Nat.zero_add,Dy hi]; exact hc.out i hi⟩⟩;replace J:=hid J;go_wp2;go_ret;exact⟨by first | rfl | (congr 2; done) | simp,J.out,fun _=>⟨g,rfl,hg1,hg2,T.out⟩,⟨KK.out.size,fun b hb hne=>KK.out.block b hb (fun e=>hne (Nat.pos_of_ne_zero h0) (by rw[e]))⟩,B.out⟩
theorem Cu(A:Option Addr)(n c:Nat)(k:Nat)(w:World)(I:Boxes w A n (BW k n))(hn:n<=1048576)(hk:k<=100000000) :
 Calls Try.prog 83 #[.slice A n c,.int .i64 k] w fun e w'=>e=.returned (.int .i64 ((k+4*n:Nat):Int))/\w=w':=by
 replace I:=hid I;go_enter Try.func83,Try.ntmps83;go_wp2
 go_loopw [1,5] (fun kv iv W=>∃ j:Nat,j<=n/\iv=.int .i64 j/\kv=.int .i64 ((k+4*j:Nat):Int)/\w=W) (fun _ i _=>n-(RowKit.intOf i).toNat)
 case atStart=>exact⟨0,Nat.zero_le _,rfl,rfl,rfl⟩
 case round =>
  obtain⟨j,hj,rfl,rfl,rfl⟩:=hrel;by_cases hlt:j<n
  . obtain⟨b,off,rfl,hb,hc⟩:=I.out.2 (by omega);have cx:=hc j hlt;rw[Dy hlt] at cx;clear hc;obtain⟨c0,c1,c2,c3⟩:=cx;simp only[Cs] at c0 c1 c2 c3;have j0:(0:Int)<=(j:Int):=by omega
    have j1:(j:Int)<(n:Int):=by omega
    go_wp2
    go_roundw
    case rel=>exact⟨j+1,by omega,by go_num,congrArg (Value.int IntKind.i64) (by omega),trivial⟩
    case measure=>simp[RowKit.intOf]; omega
  . obtain rfl:j=n:=by omega
    go_wp2;go_ret;exact⟨by first | rfl | simp,rfl⟩
def FD(w:World)(n:Nat)(xs:List Int)(e:Ending)(w':World):Prop :=
 ∃ u:Nat,e=.returned (.slice (some ⟨u,0,none⟩) n n)/\Ints w' (some ⟨u,0,none⟩) n xs/\w.heap.size<=u/\w'.there u 0 (n*1)/\u<w'.heap.size/\Below w.heap.size w w'
theorem AD(A:Option Addr)(n cap:Nat)(xs:List Int)(w:World)(I:Ints w A n xs)(hn:n<=1048576) :
 Calls Try.prog 15 #[.slice A n cap] w (FD w n xs):=by
 obtain⟨i0,hi,hz0,hz1,hz2⟩:=info_parts A3;have hl:=hid I.1;have I:=hid I;go_enter Try.func15,Try.ntmps15;go_wp2_with (at_make; refine wpList_make_full _ rfl _ _ 23 rfl w.heap.size 3 i0 (.int .i64 0) 1 Try.underlying23 hi hz0 hz1 .i64 .i64 _ _ n rfl rfl rfl rfl (by rw[hz2]; omega) (by unfold maxLen; omega) (Nat.le_refl _) ?_);intro w0 O0 G0;have O0:w0.ownsRow w.heap.size 3 1 (.slice (some ⟨w.heap.size,0,none⟩) n n) n ((part xs n 0).map (Value.int .i64)):=by
  rw[EH,List.map_replicate];have t:=O0;rw[toList_madeCells_one] at t;exact t
 have B0:Below w.heap.size w w0:=(Ac w).grown G0 (Nat.le_refl _) (fun k e=>by cases e);clear G0;go_wp2
 go_loopw [4] (Gn w n xs) (fun i _=>n-(RowKit.intOf i).toNat)
 case atStart=>exact⟨0,Nat.zero_le _,rfl,O0,B0⟩
 case round =>
  obtain⟨k,hk,rfl,O,B⟩:=hrel;clear O0 B0;by_cases hlt:k<n
  . obtain⟨b,off,hA,hb,hc⟩:=(I.out.step B).2 (by omega);have ck:=hc k hlt;have f4:=O.frozenAt k;have c4:∃ u,_=some u:=⟨_,(O.cellAt k (by omega)).trans (List.getElem?_eq_getElem (by rw[List.length_map,Fh hl.out hk]; exact hlt))⟩;obtain⟨u4,c4⟩:=c4;obtain⟨O5,G5⟩:=O.stored k (.int .i64 (xs.getD k 0));rw[<- List.map_set,EI hl.out hlt] at O5;have O5:=hid O5;have H:=hid (Ag B w.heap.size k (.int .i64 (xs.getD k 0)) (Nat.le_refl _));clear hc O G5 B;subst hA;generalize xs.getD k 0=z at *;go_wp2
    go_roundw
    case rel=>exact⟨k+1,by omega,by go_num,O5.out,H.out⟩
    case measure=>simp[RowKit.intOf]; omega
  . obtain rfl:k=n:=by omega
    rw[Fg hl.out] at O;have T:wr.there w.heap.size 0 (k*1):=fun j hj=>by
     rw[Nat.zero_add];refine⟨?_,O.frozenAt j⟩;rw[O.cellAt j hj,List.getElem?_eq_getElem (by rw[O.1]; exact hj)];rfl
    have hL:=(O.lt w.heap.size rfl).2;obtain⟨D,c,hv,J⟩:=Ints.of_own O;simp only[Value.slice.injEq,true_and] at hv;obtain⟨rfl,rfl⟩:=hv;have J:=hid J;have B:=hid B;have T:=hid T;clear O;go_wp2;go_ret;exact⟨w.heap.size,rfl,J.out,Nat.le_refl _,T.out,hL,B.out⟩
end Go.Proofs.Ytbeohbhhmcjokaa
