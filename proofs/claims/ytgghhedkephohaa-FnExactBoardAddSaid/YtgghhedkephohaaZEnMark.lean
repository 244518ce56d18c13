import Derived.Test.YtgghhedkephohaaZBdR
set_option linter.all false
set_option maxRecDepth 100000
set_option maxHeartbeats 8000000
open Go.Lib
namespace Go.Proofs.Ytgghhedkephohaa
open Go.RowKit
open M
theorem Kept.mineE{r:Nat}{w a:World}(h:Kept r w a)(o:Nat)(v:Value):Kept r w (a.setCell ⟨r,o,none⟩ v) :=
 ⟨h.os,h.tape,h.output,by simpa[World.setCell] using h.size,fun k hk hr=>(Below.heap_setCell a ⟨r,o,none⟩ v k hr).trans (h.block k hk hr)⟩
theorem Bq{W:World}{g n:Nat}(h:W.there g 0 n)(o:Nat)(v:Value):(W.setCell ⟨g,o,none⟩ v).there g 0 n:=fun j hj=>by
 refine⟨?_,by rw[World.frozen?_setCell]; exact(h j hj).2⟩;by_cases e:(0+j)=o
 . rw[e,World.cell?_setCell_same' _ _ _ (by have:=(h j hj).1; rw[e] at this; exact this)];rfl
 . rw[World.cell?_setCell_other _ _ _ _ (by first | (simp; done) | (simp; omega))];exact(h j hj).1
theorem FQ{W w':World}{g o n:Nat}(h:W.there g o n)(B:Below W.heap.size W w')(hg:g<W.heap.size):w'.there g o n:=fun j hj=>by
 rw[B.cell (p:=⟨g,o+j,none⟩) hg,B.frozen (p:=⟨g,o+j,none⟩) hg];exact h j hj
theorem FZ{W:World}{p:Addr}(h:(W.cell? p).isSome=true):∃ u,W.cell? p=some u:=Option.isSome_iff_exists.1 h
theorem F8{w:World}{base:Nat}{e:TypeId}{sz:Nat}{v:Value}{n:Nat}{xs:List Value}(h:w.ownsRow base e sz v n xs)(hn:0<n):∃ g cap,v=.slice (some ⟨g,0,none⟩) n cap/\base<=g/\g<w.heap.size:=by
 have h0:=h;rcases h.2 with⟨_,e⟩ | ⟨g,cap,cur,rfl,hb,_⟩
 . omega
 . exact⟨g,cap,rfl,hb,(h0.lt g rfl).2⟩
def MkE(lo:Nat)(W:World)(A:Option Addr)(n:Nat):Prop:=0<n->∃ g,A=some ⟨g,0,none⟩/\lo<=g/\g<W.heap.size/\W.there g 0 n
theorem MkE.step{lo n:Nat}{W W':World}{A:Option Addr}(h:MkE lo W A n)(B:Below W.heap.size W W'):MkE lo W' A n:=fun hn=>by
 obtain⟨g,e,h1,h2,T⟩:=h hn;exact⟨g,e,h1,Nat.lt_of_lt_of_le h2 B.size,FQ T B h2⟩
theorem MkE.of_own{W:World}{base:Nat}{e:TypeId}{sz:Nat}{A:Option Addr}{n c:Nat}{vs:List Value}(O:W.ownsRow base e sz (.slice A n c) n vs)(h1:0<sz):MkE base W A (n*sz):=fun hn=>by
 have h0:0<n:=Nat.pos_of_ne_zero (fun e=>by subst e; simp at hn);obtain⟨g,cap,e1,hb,hg⟩:=F8 O h0;cases e1
 refine⟨g,rfl,hb,hg,fun j hj=>?_⟩;rw[Nat.zero_add];refine⟨?_,O.frozenAt j⟩;rw[O.cellAt j hj,List.getElem?_eq_getElem (by rw[O.1]; exact hj)];rfl
def Gk(n:Nat)(A:Option Addr)(w w':World):Prop:=w.heap.size<=w'.heap.size/\∀ b,b<w.heap.size->(0<n->A≠some ⟨b,0,none⟩)->w'.heap[b]?=w.heap[b]?
theorem MkE.fr{m sz:Nat}{D:Option Addr}{w w':World}{A:Option Addr}{lo:Nat}(h:MkE lo w A sz)(B:Gk m D w w')(hA:0<sz->0<m->D≠A):MkE lo w' A sz:=fun hn=>by
 obtain⟨g,e,h1,h2,T⟩:=h hn;have eb:=B.2 g h2 (fun hm=>by rw[<- e]; exact hA hn hm);exact⟨g,e,h1,Nat.lt_of_lt_of_le h2 B.1,fun j hj=>by
  obtain⟨a,b⟩:=T j hj;exact⟨by rw[World.cell?_of_block (a:=⟨g,0+j,none⟩) eb]; exact a,by rw[World.frozen?_of_block (a:=⟨g,0+j,none⟩) eb]; exact b⟩⟩
theorem Gd{lo:Nat}{w W:World}(B:Below lo w W)(g o:Nat)(v:Value)(h:lo<=g):Below lo w (W.setCell ⟨g,o,none⟩ v):=B.setCell (p:=⟨g,o,none⟩) h v
theorem EnAt.other{W:World}{g o:Nat}{q:En}(h:EnAt W g o q){p:Nat}(hp:p<o\/o+1<p)(v:Value):EnAt (W.setCell ⟨g,p,none⟩ v) g o q :=
 ⟨(World.cell?_setCell_other _ _ _ _ (by first | (simp; done) | (simp; omega))).trans h.c0,(World.cell?_setCell_other _ _ _ _ (by first | (simp; done) | (simp; omega))).trans h.c1⟩
theorem Ents.fr{m:Nat}{D:Option Addr}{w w':World}{A:Option Addr}{n:Nat}{xs:List En}(h:Ents w A n xs)(B:Gk m D w w')(hA:0<n->0<m->∀ k off,A=some ⟨k,off,none⟩->D≠some ⟨k,0,none⟩):Ents w' A n xs :=
 ⟨h.1,fun hn=>by
  obtain⟨b,off,e,hb,hc⟩:=h.2 hn;exact⟨b,off,e,Nat.lt_of_lt_of_le hb B.1,fun k hk=>(hc k hk).of (B.2 b hb (fun hm=>hA hn hm b off e))⟩⟩
def FT(k j:Nat):En:=⟨((k+2*j:Nat):Int),((k+2*j+1:Nat):Int)⟩
def F0(k n:Nat):List En:=(List.range n).map (FT k)
theorem Ge(k n:Nat):(F0 k n).length=n:=by simp[F0]
theorem F1{k n j:Nat}(h:j<n):(F0 k n).getD j ez=FT k j:=by
 simp[F0,List.getD_eq_getElem?_getD,h]
def F7(lo:Nat)(w:World)(g k n:Nat)(kv iv:Value)(W:World):Prop :=
 ∃ j:Nat,j<=n/\iv=.int .i64 j/\kv=.int .i64 ((k+2*j:Nat):Int)/\W.there g 0 (n*2)/\(∀ i,i<j->EnAt W g (i*2) (FT k i))/\g<W.heap.size/\Kept g w W/\Below lo w W
theorem F9{lo:Nat}{w W:World}{g k n j:Nat}(hj:j<n)(T:W.there g 0 (n*2))(hc:∀ i,i<j->EnAt W g (i*2) (FT k i))(hg:g<W.heap.size)(hlo:lo<=g)(KK:Kept g w W)(B:Below lo w W) :
 F7 lo w g k n (.int .i64 ((k+2*(j+1):Nat):Int)) (.int .i64 ((j+1:Nat):Int)) ((W.setCell ⟨g,j*2,none⟩ (.int .i64 ((k+2*j:Nat):Int))).setCell ⟨g,j*2+1,none⟩ (.int .i64 ((k+2*j+1:Nat):Int))):=by
 have t0:=(T (j*2) (by omega)).1;rw[Nat.zero_add] at t0;have s1:=Bq T (j*2) (.int .i64 ((k+2*j:Nat):Int));refine⟨j+1,by omega,rfl,rfl,Bq s1 _ _,fun i hi=>?_,by simpa[World.setCell] using hg,(KK.mineE _ _).mineE _ _,Gd (Gd B _ _ _ hlo) _ _ _ hlo⟩;by_cases e:i=j
 . subst e;refine⟨?_,?_⟩
   . rw[World.cell?_setCell_other _ _ _ _ (by simp)];exact World.cell?_setCell_same' _ _ _ t0
   . exact World.cell?_setCell_same' _ _ _ (by have:=(s1 (i*2+1) (by omega)).1; rwa [Nat.zero_add] at this)
 . exact((hc i (by omega)).other (by omega) _).other (by omega) _
theorem FU(lo:Nat)(A:Option Addr)(n c:Nat)(k:Nat)(w:World)(M:MkE lo w A (n*2))(hn:n<=1048576)(hk:k<=100000000)(hlo:lo<=w.heap.size) :
 Calls Try.prog 40 #[.slice A n c,.int .i64 k] w fun e w'=>e=.returned (.int .i64 ((k+2*n:Nat):Int))/\Ents w' A n (F0 k n)/\MkE lo w' A (n*2)/\Gk n A w w'/\Below lo w w':=by
 by_cases h0:n=0
 . subst h0;go_enter Try.func40,Try.ntmps40;go_wp2
   go_loopw [1,5] (fun kv iv W=>kv=.int .i64 k/\iv=.int .i64 0/\w=W) (fun _ _ _=>0)
   case atStart=>exact⟨rfl,rfl,rfl⟩
   case round =>
    obtain⟨rfl,rfl,rfl⟩:=hrel;go_wp2;go_ret;exact⟨by simp,⟨by simp[F0],fun h=>absurd h (by omega)⟩,fun h=>absurd h (by omega),⟨Nat.le_refl _,fun _ _ _=>rfl⟩,Below.refl _ _⟩
 obtain⟨g,rfl,hg1,hg2,T⟩:=M (by omega);replace T:=hid T;go_enter Try.func40,Try.ntmps40;go_wp2
 go_loopw [1,5] (F7 lo w g k n) (fun _ i _=>n-(RowKit.intOf i).toNat)
 case atStart=>exact⟨0,Nat.zero_le _,rfl,rfl,T.out,fun i hi=>absurd hi (by omega),hg2,Kept.refl _ _,Below.refl _ _⟩
 case round =>
  clear T hg2;obtain⟨j,hj,rfl,rfl,T,hc,hg2,KK,B⟩:=hrel;replace KK:=hid KK;replace hc:=hid hc;replace T:=hid T;replace B:=hid B;by_cases hlt:j<n
  . skip
    obtain⟨u0,e0⟩:=Option.isSome_iff_exists.1 (T.out (j*2) (by omega)).1;have f0:=(T.out (j*2) (by omega)).2;rw[Nat.zero_add] at e0 f0;obtain⟨u1,e1⟩:=Option.isSome_iff_exists.1 (T.out (j*2+1) (by omega)).1;have f1:=(T.out (j*2+1) (by omega)).2;rw[Nat.zero_add] at e1 f1;have hnx:=hid (F9 hlt T.out hc.out hg2 hg1 KK.out B.out);have j0:(0:Int)<=(j:Int):=by omega
    have j1:(j:Int)<(n:Int):=by omega
    go_wp2
    go_roundw
    case rel=>first | exact hnx.out | (trace_state; fail)
    case measure=>simp[RowKit.intOf]; omega
  . obtain rfl:j=n:=by omega
    have J:Ents wr (some ⟨g,0,none⟩) j (F0 k j):=⟨Ge k j,fun _=>⟨g,0,rfl,hg2,fun i hi=>by rw[Nat.zero_add,F1 hi]; exact hc.out i hi⟩⟩;replace J:=hid J;go_wp2;go_ret;exact⟨by first | rfl | (congr 2; done) | simp,J.out,fun _=>⟨g,rfl,hg1,hg2,T.out⟩,⟨KK.out.size,fun b hb hne=>KK.out.block b hb (fun e=>hne (Nat.pos_of_ne_zero h0) (by rw[e]))⟩,B.out⟩
theorem FV(A:Option Addr)(n c:Nat)(k:Nat)(w:World)(I:Ents w A n (F0 k n))(hn:n<=1048576)(hk:k<=100000000) :
 Calls Try.prog 41 #[.slice A n c,.int .i64 k] w fun e w'=>e=.returned (.int .i64 ((k+2*n:Nat):Int))/\w=w':=by
 replace I:=hid I;go_enter Try.func41,Try.ntmps41;go_wp2
 go_loopw [1,5] (fun kv iv W=>∃ j:Nat,j<=n/\iv=.int .i64 j/\kv=.int .i64 ((k+2*j:Nat):Int)/\w=W) (fun _ i _=>n-(RowKit.intOf i).toNat)
 case atStart=>exact⟨0,Nat.zero_le _,rfl,rfl,rfl⟩
 case round =>
  obtain⟨j,hj,rfl,rfl,rfl⟩:=hrel;by_cases hlt:j<n
  . obtain⟨b,off,rfl,hb,hc⟩:=I.out.2 (by omega);have cx:=hc j hlt;rw[F1 hlt] at cx;clear hc;obtain⟨c0,c1⟩:=cx;simp only[FT] at c0 c1;have j0:(0:Int)<=(j:Int):=by omega
    have j1:(j:Int)<(n:Int):=by omega
    go_wp2
    go_roundw
    case rel=>exact⟨j+1,by omega,by go_num,congrArg (Value.int IntKind.i64) (by omega),trivial⟩
    case measure=>simp[RowKit.intOf]; omega
  . obtain rfl:j=n:=by omega
    go_wp2;go_ret;exact⟨by first | rfl | simp,rfl⟩
theorem EW(s p:Int)(w:World):Calls Try.prog 39 #[.agg #[.int .i64 s,.int .i64 p]] w fun e w'=>e=.returned (.agg #[.int .i64 s,.int .i64 p])/\Below w.heap.size w w':=by
 go_enter Try.func39,Try.ntmps39;go_wp2;exact bodyPost_ret (v:=.agg #[.int .i64 s,.int .i64 p]) (by simp[results,Try.results39,go_sem]) rfl ⟨rfl,(by repeat (first | exact Ac _ | refine Ad ?_ _ | refine EV ?_ _ _ _ (by omega)))⟩
theorem F5(s p:Int)(w:World):Calls Try.prog 55 #[.agg #[.int .i64 s,.int .i64 p],.agg #[.int .i64 s,.int .i64 p]] w fun e w'=>e=.returned (.bool true)/\Below w.heap.size w w':=by
 go_enter Try.func55,Try.ntmps55;go_wp2;go_ret;exact⟨rfl,Ad (Ad (Ac w) _) _⟩
def Gh(w:World)(n:Nat)(xs:List En)(e:Ending)(w':World):Prop :=
 ∃ u:Nat,e=.returned (.slice (some ⟨u,0,none⟩) n n)/\Ents w' (some ⟨u,0,none⟩) n xs/\w.heap.size<=u/\w'.there u 0 (n*2)/\u<w'.heap.size/\Below w.heap.size w w'
def Gi(w:World)(n:Nat)(xs:List En)(i:Value)(W:World):Prop :=
 ∃ k:Nat,k<=n/\i=.int .i64 k/\W.there w.heap.size 0 (n*2)/\(∀ j,j<k->EnAt W w.heap.size (j*2) (xs.getD j ez))/\w.heap.size<W.heap.size/\Below w.heap.size w W
theorem F6{w W:World}{n k:Nat}{xs:List En}{a b:Int}(hk:k<n)(T:W.there w.heap.size 0 (n*2))(hc:∀ j,j<k->EnAt W w.heap.size (j*2) (xs.getD j ez))(hq:xs.getD k ez=⟨a,b⟩)(hl:w.heap.size<W.heap.size)(B:Below w.heap.size w W) :
 Gi w n xs (.int .i64 (k+1)) ((W.setCell ⟨w.heap.size,k*2,none⟩ (.int .i64 a)).setCell ⟨w.heap.size,k*2+1,none⟩ (.int .i64 b)):=by
 have t0:=(T (k*2) (by omega)).1;rw[Nat.zero_add] at t0;have s1:=Bq T (k*2) (.int .i64 a);refine⟨k+1,by omega,by simp,Bq s1 _ _,fun j hj=>?_,by simpa[World.setCell] using hl,EV (EV B _ _ _ (Nat.le_refl _)) _ _ _ (Nat.le_refl _)⟩;by_cases e:j=k
 . subst e;rw[hq];refine⟨?_,?_⟩
   . rw[World.cell?_setCell_other _ _ _ _ (by simp)];exact World.cell?_setCell_same' _ _ _ t0
   . exact World.cell?_setCell_same' _ _ _ (by have:=(s1 (j*2+1) (by omega)).1; rwa [Nat.zero_add] at this)
 . exact((hc j (by omega)).other (by omega) _).other (by omega) _
theorem D3(A:Option Addr)(n cap:Nat)(xs:List En)(w:World)(I:Ents w A n xs)(hn:n<=1048576) :
 Calls Try.prog 37 #[.slice A n cap] w (Gh w n xs):=by
 obtain⟨i0,hi,hz0,hz1,hz2⟩:=info_parts BL;have hl:=hid I.1;have I:=hid I;go_enter Try.func37,Try.ntmps37;go_wp2_with (at_make; refine wpList_make_full _ rfl _ _ 23 rfl w.heap.size 25 i0 (.agg #[.int .i64 0,.int .i64 0]) 2 Try.underlying23 hi hz0 hz1 .i64 .i64 _ _ n rfl rfl rfl rfl (by rw[hz2]; omega) (by unfold maxLen; omega) (Nat.le_refl _) ?_);intro w0 O0 G0;have T0:w0.there w.heap.size 0 (n*2):=fun j hj=>by
  rw[Nat.zero_add];refine⟨?_,O0.frozenAt j⟩;rw[O0.cellAt j hj,List.getElem?_eq_getElem (by rw[O0.1]; exact hj)];rfl
 have L0:w.heap.size<w0.heap.size:=(O0.lt w.heap.size rfl).2;have B0:Below w.heap.size w w0:=(Ac w).grown G0 (Nat.le_refl _) (fun k e=>by cases e);clear G0 O0;go_wp2
 go_loopw [4] (Gi w n xs) (fun i _=>n-(RowKit.intOf i).toNat)
 case atStart=>exact⟨0,Nat.zero_le _,rfl,T0,fun j hj=>absurd hj (by omega),L0,B0⟩
 case round =>
  obtain⟨k,hk,rfl,T,hc,L,B⟩:=hrel;clear T0 L0 B0;by_cases hlt:k<n
  . obtain⟨b,off,hA,hb,hcell⟩:=(I.out.step B).2 (by omega);obtain⟨c0,c1⟩:=hcell k hlt;obtain⟨⟨za,zb⟩,hq⟩:∃ q,xs.getD k ez=q:=⟨_,rfl⟩;rw[hq] at c0 c1;simp only at c0 c1;have hq:=hid hq;have T:=hid T;have hc:=hid hc;have B:=hid B;subst hA;clear hcell;go_wp2_with fail;refine(EW za zb _).mono ?_;rintro e w1 ⟨rfl,B1⟩;have T1:=hid (FQ T.out B1 L);have hc1:=hid (fun j hj=>(hc.out j hj).of (B1.block _ L));have L1:=Nat.lt_of_lt_of_le L B1.size;have H1:=hid (Aa B.out B1);clear B1 T hc B L c0 c1;obtain⟨u0,e0⟩:=FZ (T1.out (k*2) (by omega)).1;obtain⟨u1,e1⟩:=FZ (T1.out (k*2+1) (by omega)).1
    have f0:=(T1.out (k*2) (by omega)).2;have f1:=(T1.out (k*2+1) (by omega)).2;rw[Nat.zero_add] at e0 e1 f0 f1;go_wp2
    go_roundw
    case rel=>exact F6 hlt T1.out hc1.out hq.out L1 H1.out
    case measure=>simp[RowKit.intOf]; omega
  . have J:Ents _ (some ⟨w.heap.size,0,none⟩) n xs:=⟨hl.out,fun _=>⟨w.heap.size,0,rfl,L,fun j hj=>by rw[Nat.zero_add]; exact hc j (by omega)⟩⟩;have J:=hid J;have B:=hid B;have T:=hid T;have hL:=L;clear hc;go_wp2;go_ret;exact⟨w.heap.size,rfl,J.out,Nat.le_refl _,T.out,hL,B.out⟩
theorem A8(A D:Option Addr)(n c d:Nat)(xs:List En)(w:World)(I:Ents w A n xs)(J:Ents w D n xs)(hn:n<=1048576) :
 Calls Try.prog 38 #[.slice A n c,.slice D n d] w fun e w'=>e=.returned (.bool true)/\Below w.heap.size w w':=by
 have I:=hid I;have J:=hid J;go_enter Try.func38,Try.ntmps38;go_wp2
 go_loopw [5] (fun i W=>∃ k:Nat,k<=n/\i=.int .i64 k/\Below w.heap.size w W) (fun i _=>n-(RowKit.intOf i).toNat)
 case atStart=>exact⟨0,Nat.zero_le _,rfl,Ac w⟩
 case round =>
  obtain⟨k,hk,rfl,B⟩:=hrel;by_cases hlt:k<n
  . obtain⟨b1,o1,rfl,hb1,hc1⟩:=(I.out.step B).2 (by omega);obtain⟨b2,o2,rfl,hb2,hc2⟩:=(J.out.step B).2 (by omega);obtain⟨z0,z1⟩:=hc1 k hlt;obtain⟨y0,y1⟩:=hc2 k hlt;have Hb:=hid B;clear hc1 hc2 B;generalize xs.getD k ez=q at *;obtain⟨za,zb⟩:=q;simp only at z0 z1 y0 y1;go_wp2_with fail;refine wp_region_held_drew (S:=fun w'=>(w'.cell? ⟨b1,o1+k*2,none⟩=some (.int .i64 za)/\w'.cell? ⟨b1,o1+k*2+1,none⟩=some (.int .i64 zb))/\w'.cell? ⟨b2,o2+k*2,none⟩=some (.int .i64 za)/\w'.cell? ⟨b2,o2+k*2+1,none⟩=some (.int .i64 zb)) (by kernel_rfl) ⟨⟨z0,z1⟩,y0,y1⟩ (fun hHeld=>?_);refine tl 0 ?_ ?_ hHeld ?_;rotate_left
    . intro w hSw
      try dsimp only at hSw
      go_simp
      all_goals with_reducible rfl
    try simp only[Act.put,sx]
    refine tl 1 ?_ ?_ hHeld ?_;rotate_left
    . intro w hSw
      try dsimp only at hSw
      go_simp
      all_goals with_reducible rfl
    try simp only[Act.put,sx]
    refine tl 2 ?_ ?_ hHeld ?_;rotate_left
    . intro w hSw
      try dsimp only at hSw
      go_simp
      all_goals with_reducible rfl
    try simp only[Act.put,sx]
    refine tl 3 ?_ ?_ hHeld ?_;rotate_left
    . intro w hSw;obtain⟨⟨z0,z1⟩,_⟩:=hSw;go_simp
      all_goals with_reducible rfl
    try simp only[Act.put,sx]
    refine tl 4 ?_ ?_ hHeld ?_;rotate_left
    . intro w hSw
      try dsimp only at hSw
      go_simp
      all_goals with_reducible rfl
    try simp only[Act.put,sx]
    refine tl 5 ?_ ?_ hHeld ?_;rotate_left
    . intro w hSw
      try dsimp only at hSw
      go_simp
      all_goals with_reducible rfl
    try simp only[Act.put,sx]
    refine tl 6 ?_ ?_ hHeld ?_;rotate_left
    . intro w hSw
      try dsimp only at hSw
      go_simp
      all_goals with_reducible rfl
    try simp only[Act.put,sx]
    refine tl 7 ?_ ?_ hHeld ?_;rotate_left
    . intro w hSw;obtain⟨_,z0,z1⟩:=hSw;go_simp
      all_goals with_reducible rfl
    try simp only[Act.put,sx]
    refine wpAnyH_ready (rs:=[8]) (by kernel_rfl) (by simp) ?_;apply AllReadyH.cons rfl ?_ AllReadyH.nil;intro K hK;go_simp
    go_at_call 55
    refine(F5 _ _ _).mono ?_;rintro e wn ⟨rfl,Bn⟩;have Kn:Below wr.heap.size wr wn:=(Ac wr).drew.trans Bn;replace z0:=(World.cell?_of_block (a:=⟨b1,o1+k*2,none⟩) (Kn.block b1 hb1)).trans z0;replace z1:=(World.cell?_of_block (a:=⟨b1,o1+k*2+1,none⟩) (Kn.block b1 hb1)).trans z1;replace y0:=(World.cell?_of_block (a:=⟨b2,o2+k*2,none⟩) (Kn.block b2 hb2)).trans y0;replace y1:=(World.cell?_of_block (a:=⟨b2,o2+k*2+1,none⟩) (Kn.block b2 hb2)).trans y1;have Hb2:=hid (Aa Hb.out Kn);clear Kn Bn hHeld;go_wp2_with fail;refine hK.out _ _ ⟨⟨z0,z1⟩,y0,y1⟩ (fun hHeld=>?_);clear hK K
    try simp only[Act.put,sx]
    refine tl 9 ?_ ?_ hHeld ?_;rotate_left
    . intro w hSw
      try dsimp only at hSw
      go_simp
      all_goals with_reducible rfl
    try simp only[Act.put,sx]
    refine wpAnyH_done (by kernel_rfl) ?_ _;go_wp2
    go_roundw
    case rel=>exact⟨k+1,by omega,by go_num,Hb2.out⟩
    case measure=>simp[RowKit.intOf]; omega
  . have B:=hid B;go_wp2;go_ret;exact⟨rfl,B.out⟩
theorem Ga(A:Option Addr)(n c:Nat)(l:Int)(w:World)(hn:n<=9223372036854775807)(l0:0<=l)(l1:l<=1048576) :
 Calls Try.prog 36 #[.slice A n c,.int .i64 l] w fun e w'=>e=.returned (.int .i64 (if l-n<0 then -1 else l-n))/\w=w':=by
 by_cases h:l-(n:Int)<0
 . rw[if_pos h];go_enter Try.func36,Try.ntmps36;go_wp2;go_ret;exact⟨rfl,rfl⟩
 . rw[if_neg h];have h':0<=l-(n:Int):=by omega
   go_enter Try.func36,Try.ntmps36;go_wp2;go_ret;exact⟨rfl,rfl⟩
end Go.Proofs.Ytgghhedkephohaa
