import Derived.Test.YtflmmdljkhdjlaaZMark
import Derived.Test.YtflmmdljkhdjlaaZToInS
import Derived.Test.YtflmmdljkhdjlaaZRepSame
set_option linter.all false
set_option maxRecDepth 100000
set_option maxHeartbeats 8000000
open Go.Lib
namespace Go.Proofs.Ytflmmdljkhdjlaa
open Go.RowKit
open M
def Mu(w:World)(n:Nat)(xs:List In)(e:Ending)(w':World):Prop :=
 ∃ u:Nat,e=.returned (.slice (some ⟨u,0,none⟩) n n)/\Inputs w' (some ⟨u,0,none⟩) n xs/\w.heap.size<=u/\w'.there u 0 (n*3)/\u<w'.heap.size/\Below w.heap.size w w'
theorem Ma(A:Option Addr)(n cap:Nat)(xs:List In)(w:World)(I:Inputs w A n xs)(hn:n<=1048576) :
 Calls Try.prog 33 #[.slice A n cap] w (Mu w n xs):=by
 obtain⟨i0,hi,hz0,hz1,hz2⟩:=info_parts Bs;have hl:=hid I.1;have I:=hid I;go_enter Try.func33,Try.ntmps33;go_wp2_with (at_make; refine wpList_make_full _ rfl _ _ 23 rfl w.heap.size 36 i0 (BH 0 0 false) 3 Try.underlying23 hi hz0 hz1 .i64 .i64 _ _ n rfl rfl rfl rfl (by rw[hz2]; omega) (by unfold maxLen; omega) (Nat.le_refl _) ?_);intro w0 O0 G0;have T0:w0.there w.heap.size 0 (n*3):=fun j hj=>by
  rw[Nat.zero_add];refine⟨?_,O0.frozenAt j⟩;rw[O0.cellAt j hj,List.getElem?_eq_getElem (by rw[O0.1]; exact hj)];rfl
 have L0:w.heap.size<w0.heap.size:=(O0.lt w.heap.size rfl).2;have B0:Below w.heap.size w w0:=(Ac w).grown G0 (Nat.le_refl _) (fun k e=>by cases e);clear G0 O0;go_wp2
 go_loopw [4] (Mt w n xs) (fun i _=>n-(intOf i).toNat)
 case atStart=>exact⟨0,Nat.zero_le _,rfl,T0,fun j hj=>absurd hj (by omega),L0,B0⟩
 case round =>
  obtain⟨k,hk,rfl,T,hc,L,B⟩:=hrel;clear T0 L0 B0;by_cases hlt:k<n
  . obtain⟨b,off,hA,hb,hcell⟩:=(I.out.step B).2 (by omega);obtain⟨c0,c1,c2⟩:=hcell k hlt;obtain⟨⟨za,zb,zc⟩,hq⟩:∃ q,xs.getD k iz=q:=⟨_,rfl⟩;rw[hq] at c0 c1 c2;simp only at c0 c1 c2;have hq:=hid hq;have T:=hid T;have hc:=hid hc;have B:=hid B;subst hA;clear hcell;go_wp2_with fail;refine(LD za zb zc _).mono ?_;rintro e w1 ⟨rfl,B1⟩;have T1:=hid (LB T.out B1 L);have hc1:=hid (fun j hj=>(hc.out j hj).of (B1.block _ L));have L1:=Nat.lt_of_lt_of_le L B1.size;have H1:=hid (Aa B.out B1);clear B1 T hc B L c0 c1 c2;obtain⟨u0,e0⟩:=Lu (T1.out (k*3) (by omega)).1;obtain⟨u1,e1⟩:=Lu (T1.out (k*3+1) (by omega)).1
    obtain⟨u2,e2⟩:=Lu (T1.out (k*3+2) (by omega)).1;have f0:=(T1.out (k*3) (by omega)).2;have f1:=(T1.out (k*3+1) (by omega)).2;have f2:=(T1.out (k*3+2) (by omega)).2;rw[Nat.zero_add] at e0 e1 e2 f0 f1 f2;go_wp2
    go_roundw
    case rel=>exact LN hlt T1.out hc1.out hq.out L1 H1.out
    case measure=>simp[intOf]; omega
  . have J:Inputs _ (some ⟨w.heap.size,0,none⟩) n xs:=⟨hl.out,fun _=>⟨w.heap.size,0,rfl,L,fun j hj=>by rw[Nat.zero_add]; exact hc j (by omega)⟩⟩;have J:=hid J;have B:=hid B;have T:=hid T;have hL:=L;clear hc;go_wp2;go_ret;exact⟨w.heap.size,rfl,J.out,Nat.le_refl _,T.out,hL,B.out⟩
theorem Md(s p:Int)(w:World):Calls Try.prog 76 #[.agg #[.int .i64 s,.int .i64 p]] w fun e w'=>e=.returned (.agg #[.int .i64 s,.int .i64 p])/\Below w.heap.size w w':=by
 go_enter Try.func76,Try.ntmps76;go_wp2;exact bodyPost_ret (v:=.agg #[.int .i64 s,.int .i64 p]) (by simp[results,Try.results76,go_sem]) rfl ⟨rfl,(by repeat (first | exact Ac _ | refine Ab ?_ _ | refine Ar ?_ _ _ _ (by omega)))⟩
theorem Mb(s p:Int)(w:World):Calls Try.prog 74 #[.agg #[.int .i64 s,.int .i64 p],.agg #[.int .i64 s,.int .i64 p]] w fun e w'=>e=.returned (.bool true)/\Below w.heap.size w w':=by
 go_enter Try.func74,Try.ntmps74;go_wp2;go_ret;exact⟨rfl,Ab (Ab (Ac w) _) _⟩
def MC(w:World)(n:Nat)(xs:List Pt)(e:Ending)(w':World):Prop :=
 ∃ u:Nat,e=.returned (.slice (some ⟨u,0,none⟩) n n)/\Parts w' (some ⟨u,0,none⟩) n xs/\w.heap.size<=u/\w'.there u 0 (n*2)/\u<w'.heap.size/\Below w.heap.size w w'
def MD(w:World)(n:Nat)(xs:List Pt)(i:Value)(W:World):Prop :=
 ∃ k:Nat,k<=n/\i=.int .i64 k/\W.there w.heap.size 0 (n*2)/\(∀ j,j<k->PtAt W w.heap.size (j*2) (xs.getD j pz))/\w.heap.size<W.heap.size/\Below w.heap.size w W
theorem Me{w W:World}{n k:Nat}{xs:List Pt}{a b:Int}(hk:k<n)(T:W.there w.heap.size 0 (n*2))(hc:∀ j,j<k->PtAt W w.heap.size (j*2) (xs.getD j pz))(hq:xs.getD k pz=⟨a,b⟩)(hl:w.heap.size<W.heap.size)(B:Below w.heap.size w W) :
 MD w n xs (.int .i64 (k+1)) ((W.setCell ⟨w.heap.size,k*2,none⟩ (.int .i64 a)).setCell ⟨w.heap.size,k*2+1,none⟩ (.int .i64 b)):=by
 have t0:=(T (k*2) (by omega)).1;rw[Nat.zero_add] at t0;have s1:=Lr T (k*2) (.int .i64 a);refine⟨k+1,by omega,by simp,Lr s1 _ _,fun j hj=>?_,by simpa[World.setCell] using hl,Ar (Ar B _ _ _ (Nat.le_refl _)) _ _ _ (Nat.le_refl _)⟩;by_cases e:j=k
 . subst e;rw[hq];refine⟨?_,?_⟩
   . rw[World.cell?_setCell_other _ _ _ _ (by simp)];exact World.cell?_setCell_same' _ _ _ t0
   . exact World.cell?_setCell_same' _ _ _ (by have:=(s1 (j*2+1) (by omega)).1; rwa [Nat.zero_add] at this)
 . exact((hc j (by omega)).other (by omega) _).other (by omega) _
theorem Lw(A:Option Addr)(n cap:Nat)(xs:List Pt)(w:World)(I:Parts w A n xs)(hn:n<=1048576) :
 Calls Try.prog 40 #[.slice A n cap] w (MC w n xs):=by
 obtain⟨i0,hi,hz0,hz1,hz2⟩:=info_parts EX;have hl:=hid I.1;have I:=hid I;go_enter Try.func40,Try.ntmps40;go_wp2_with (at_make; refine wpList_make_full _ rfl _ _ 25 rfl w.heap.size 34 i0 (.agg #[.int .i64 0,.int .i64 0]) 2 Try.underlying25 hi hz0 hz1 .i64 .i64 _ _ n rfl rfl rfl rfl (by rw[hz2]; omega) (by unfold maxLen; omega) (Nat.le_refl _) ?_);intro w0 O0 G0;have T0:w0.there w.heap.size 0 (n*2):=fun j hj=>by
  rw[Nat.zero_add];refine⟨?_,O0.frozenAt j⟩;rw[O0.cellAt j hj,List.getElem?_eq_getElem (by rw[O0.1]; exact hj)];rfl
 have L0:w.heap.size<w0.heap.size:=(O0.lt w.heap.size rfl).2;have B0:Below w.heap.size w w0:=(Ac w).grown G0 (Nat.le_refl _) (fun k e=>by cases e);clear G0 O0;go_wp2
 go_loopw [4] (MD w n xs) (fun i _=>n-(intOf i).toNat)
 case atStart=>exact⟨0,Nat.zero_le _,rfl,T0,fun j hj=>absurd hj (by omega),L0,B0⟩
 case round =>
  obtain⟨k,hk,rfl,T,hc,L,B⟩:=hrel;clear T0 L0 B0;by_cases hlt:k<n
  . obtain⟨b,off,hA,hb,hcell⟩:=(I.out.step B).2 (by omega);obtain⟨c0,c1⟩:=hcell k hlt;obtain⟨⟨za,zb⟩,hq⟩:∃ q,xs.getD k pz=q:=⟨_,rfl⟩;rw[hq] at c0 c1;simp only at c0 c1;have hq:=hid hq;have T:=hid T;have hc:=hid hc;have B:=hid B;subst hA;clear hcell;go_wp2_with fail;refine(Md za zb _).mono ?_;rintro e w1 ⟨rfl,B1⟩;have T1:=hid (LB T.out B1 L);have hc1:=hid (fun j hj=>(hc.out j hj).of (B1.block _ L));have L1:=Nat.lt_of_lt_of_le L B1.size;have H1:=hid (Aa B.out B1);clear B1 T hc B L c0 c1;obtain⟨u0,e0⟩:=Lu (T1.out (k*2) (by omega)).1;obtain⟨u1,e1⟩:=Lu (T1.out (k*2+1) (by omega)).1
    have f0:=(T1.out (k*2) (by omega)).2;have f1:=(T1.out (k*2+1) (by omega)).2;rw[Nat.zero_add] at e0 e1 f0 f1;go_wp2
    go_roundw
    case rel=>exact Me hlt T1.out hc1.out hq.out L1 H1.out
    case measure=>simp[intOf]; omega
  . have J:Parts _ (some ⟨w.heap.size,0,none⟩) n xs:=⟨hl.out,fun _=>⟨w.heap.size,0,rfl,L,fun j hj=>by rw[Nat.zero_add]; exact hc j (by omega)⟩⟩;have J:=hid J;have B:=hid B;have T:=hid T;have hL:=L;clear hc;go_wp2;go_ret;exact⟨w.heap.size,rfl,J.out,Nat.le_refl _,T.out,hL,B.out⟩
theorem Lt(A D:Option Addr)(n c d:Nat)(xs:List Pt)(w:World)(I:Parts w A n xs)(J:Parts w D n xs)(hn:n<=1048576) :
 Calls Try.prog 34 #[.slice A n c,.slice D n d] w fun e w'=>e=.returned (.bool true)/\Below w.heap.size w w':=by
 have I:=hid I;have J:=hid J;go_enter Try.func34,Try.ntmps34;go_wp2
 go_loopw [5] (fun i W=>∃ k:Nat,k<=n/\i=.int .i64 k/\Below w.heap.size w W) (fun i _=>n-(intOf i).toNat)
 case atStart=>exact⟨0,Nat.zero_le _,rfl,Ac w⟩
 case round =>
  obtain⟨k,hk,rfl,B⟩:=hrel;by_cases hlt:k<n
  . obtain⟨b1,o1,rfl,hb1,hc1⟩:=(I.out.step B).2 (by omega);obtain⟨b2,o2,rfl,hb2,hc2⟩:=(J.out.step B).2 (by omega);obtain⟨z0,z1⟩:=hc1 k hlt;obtain⟨y0,y1⟩:=hc2 k hlt;have Hb:=hid B;clear hc1 hc2 B;generalize xs.getD k pz=q at *;obtain⟨za,zb⟩:=q;simp only at z0 z1 y0 y1;go_wp2_with fail;refine wp_region_held_drew (S:=fun w'=>(w'.cell? ⟨b1,o1+k*2,none⟩=some (.int .i64 za)/\w'.cell? ⟨b1,o1+k*2+1,none⟩=some (.int .i64 zb))/\w'.cell? ⟨b2,o2+k*2,none⟩=some (.int .i64 za)/\w'.cell? ⟨b2,o2+k*2+1,none⟩=some (.int .i64 zb)) (by kernel_rfl) ⟨⟨z0,z1⟩,y0,y1⟩ (fun hHeld=>?_);refine tl 0 ?_ ?_ hHeld ?_;rotate_left
    . intro w hSw
      try dsimp only at hSw
      go_simp
      all_goals with_reducible rfl
    try simp only[Act.put,sx]
    refine tl 1 ?_ ?_ hHeld ?_;rotate_left
    . intro w hSw
      try dsimp only at hSw
      go_simp
      all_goals with_reducible rfl
    try simp only[Act.put,sx]
    refine tl 2 ?_ ?_ hHeld ?_;rotate_left
    . intro w hSw
      try dsimp only at hSw
      go_simp
      all_goals with_reducible rfl
    try simp only[Act.put,sx]
    refine tl 3 ?_ ?_ hHeld ?_;rotate_left
    . intro w hSw;obtain⟨⟨z0,z1⟩,_⟩:=hSw;go_simp
      all_goals with_reducible rfl
    try simp only[Act.put,sx]
    refine tl 4 ?_ ?_ hHeld ?_;rotate_left
    . intro w hSw
      try dsimp only at hSw
      go_simp
      all_goals with_reducible rfl
    try simp only[Act.put,sx]
    refine tl 5 ?_ ?_ hHeld ?_;rotate_left
    . intro w hSw
      try dsimp only at hSw
      go_simp
      all_goals with_reducible rfl
    try simp only[Act.put,sx]
    refine tl 6 ?_ ?_ hHeld ?_;rotate_left
    . intro w hSw
      try dsimp only at hSw
      go_simp
      all_goals with_reducible rfl
    try simp only[Act.put,sx]
    refine tl 7 ?_ ?_ hHeld ?_;rotate_left
    . intro w hSw;obtain⟨_,z0,z1⟩:=hSw;go_simp
      all_goals with_reducible rfl
    try simp only[Act.put,sx]
    refine wpAnyH_ready (rs:=[8]) (by kernel_rfl) (by simp) ?_;apply AllReadyH.cons rfl ?_ AllReadyH.nil;intro K hK;go_simp
    go_at_call 74
    refine(Mb _ _ _).mono ?_;rintro e wn ⟨rfl,Bn⟩;have Kn:Below wr.heap.size wr wn:=(Ac wr).drew.trans Bn;replace z0:=(World.cell?_of_block (a:=⟨b1,o1+k*2,none⟩) (Kn.block b1 hb1)).trans z0;replace z1:=(World.cell?_of_block (a:=⟨b1,o1+k*2+1,none⟩) (Kn.block b1 hb1)).trans z1;replace y0:=(World.cell?_of_block (a:=⟨b2,o2+k*2,none⟩) (Kn.block b2 hb2)).trans y0;replace y1:=(World.cell?_of_block (a:=⟨b2,o2+k*2+1,none⟩) (Kn.block b2 hb2)).trans y1;have Hb2:=hid (Aa Hb.out Kn);clear Kn Bn hHeld;go_wp2_with fail;refine hK.out _ _ ⟨⟨z0,z1⟩,y0,y1⟩ (fun hHeld=>?_);clear hK K
    try simp only[Act.put,sx]
    refine tl 9 ?_ ?_ hHeld ?_;rotate_left
    . intro w hSw
      try dsimp only at hSw
      go_simp
      all_goals with_reducible rfl
    try simp only[Act.put,sx]
    refine wpAnyH_done (by kernel_rfl) ?_ _;go_wp2
    go_roundw
    case rel=>exact⟨k+1,by omega,by go_num,Hb2.out⟩
    case measure=>simp[intOf]; omega
  . have B:=hid B;go_wp2;go_ret;exact⟨rfl,B.out⟩
theorem Mf(A:Option Addr)(n c:Nat)(l:Int)(w:World)(hn:n<=9223372036854775807)(l0:0<=l)(l1:l<=1048576) :
 Calls Try.prog 39 #[.slice A n c,.int .i64 l] w fun e w'=>e=.returned (.int .i64 (if l-n<0 then -1 else l-n))/\w=w':=by
 by_cases h:l-(n:Int)<0
 . rw[if_pos h];go_enter Try.func39,Try.ntmps39;go_wp2;go_ret;exact⟨rfl,rfl⟩
 . rw[if_neg h];have h':0<=l-(n:Int):=by omega
   go_enter Try.func39,Try.ntmps39;go_wp2;go_ret;exact⟨rfl,rfl⟩
end Go.Proofs.Ytflmmdljkhdjlaa
