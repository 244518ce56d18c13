import Derived.Test.YtgghhedkephohaaZEnA
set_option linter.all false
set_option maxRecDepth 100000
set_option maxHeartbeats 8000000
open Go.Lib
namespace Go.Proofs.Ytgghhedkephohaa
open Go.RowKit
open M
def C7(B:Nat)(r:Nat)(k:Int)(w:World)(e:Ending)(w':World):Prop :=
 ∃(p s:Int),((-1<=p/\p<=20)/\(-1<=s/\s<=61))/\e=.returned (.agg #[.int .i64 p,.int .i64 s])/\RdU B w' r (k+4)/\Kept r w w'
def B8(p s:Int):List Value:=[.int .i64 p,.int .i64 s]
structure EW(B r:Nat)(w:World)(xb:Nat)(vs:List Value)(k:Int)(W:World):Prop where
 X:CellsAt W xb vs
 D:CellsAt W w.heap.size (B8 0 0)
 R:RdU B W r k
 K:Kept r w W
 lo:w.heap.size<xb
 bw:B<=w.heap.size
 rB:r<B
theorem EW.kept{B r:Nat}{w:World}{xb:Nat}{vs:List Value}{k:Int}{W:World}{k':Int}{W':World}(h:EW B r w xb vs k W)(K:Kept r W W')(R:RdU B W' r k'):EW B r w xb vs k' W':=by
 have h1:=h.lo; have h2:=h.bw; have h3:=h.rB;exact⟨h.X.kept K (by omega),h.D.kept K (by omega),R,h.K.trans K,h1,h2,h3⟩
theorem EW.set{B r:Nat}{w:World}{xb:Nat}{vs:List Value}{k:Int}{W:World}(h:EW B r w xb vs k W)(o:Nat)(ho:o<vs.length)(v:Value):EW B r w xb (vs.set o v) k (W.setCell ⟨xb,o,none⟩ v):=by
 have h1:=h.lo; have h2:=h.bw; have h3:=h.rB;exact⟨h.X.set o ho v,h.D.far (by omega) _ _,h.R.set _ _ _ (by omega),h.K.set _ _ _ (by omega),h1,h2,h3⟩
theorem EW.alloc{B r:Nat}{w:World}{xb:Nat}{vs:List Value}{k:Int}{W:World}(h:EW B r w xb vs k W)(o:Obj):EW B r w xb vs k (W.alloc o) :=
 ⟨h.X.alloc o,h.D.alloc o,h.R.alloc o,h.K.alloc o,h.lo,h.bw,h.rB⟩
theorem EW.out{B r:Nat}{w:World}{xb:Nat}{vs:List Value}{k:Int}{W:World}{k0:Int}{p s:Int}{W':World}(h:EW B r w xb vs k W)(hk:k<=k0+4)(hb:(-1<=p/\p<=20)/\(-1<=s/\s<=61))(K:Kept w.heap.size W W'):C7 B r k0 w (.returned (.agg #[.int .i64 p,.int .i64 s])) W':=by
 have h1:=h.lo; have h2:=h.bw; have h3:=h.rB; have h4:=h.K.size;exact⟨p,s,hb,rfl,(h.R.mono hk).below (K.below (by omega) (by omega)),K.os.trans h.K.os,K.tape.trans h.K.tape,K.output.trans h.K.output,Nat.le_trans h4 K.size,fun j hj hr=>(K.block j (by omega) (by omega)).trans (h.K.block j hj hr)⟩
def FJ:Array Value:=#[.int .i64 (-1),.int .i64 0,.int .i64 60,.int .i64 61]
theorem FC(i:Nat)(h:i<4):∃ z:Int,(-1<=z/\z<=61)/\FJ[i]?=some (.int .i64 z):=by
 have:i=0\/i=1\/i=2\/i=3:=by omega
 rcases this with rfl | rfl | rfl | rfl
 . exact⟨-1,by omega,rfl⟩
 . exact⟨0,by omega,rfl⟩
 . exact⟨60,by omega,rfl⟩
 . exact⟨61,by omega,rfl⟩
theorem B5{B:Nat}(r:Nat)(k:Int)(w:World)(R:RdU B w r k)(hk:k<=90000) :
 Calls Try.prog 44 #[.pointer (some ⟨r,0,none⟩)] w (C7 B r k w):=by
 have hr:=R.here;have hB:=R.base;have D0:CellsAt (w.alloc (.cells #[.int .i64 0,.int .i64 0] 25)) w.heap.size (B8 0 0):=CellsAt.new w _ _ _ rfl;go_enter Try.func44,Try.ntmps44;go_wp2_with fail;refine(Ay r 7 _ _ (R.alloc _) (by omega) (by omega) (by omega)).mono ?_;rintro e w1 ⟨p,⟨p0,p1⟩,rfl,R1,K1⟩;have D1:=D0.kept K1 (by omega);have J1:=hid (((Kept.refl r w).alloc _).trans K1);have R1:=hid R1;clear K1 R D0;go_wp2_with fail;refine(Ay r 8 _ _ R1.out (by omega) (by omega) (by omega)).mono ?_;rintro e w2 ⟨s,⟨s0,s1⟩,rfl,R2,K2⟩;have D2:=D1.kept K2 (by omega);have J2:=J1.out.trans K2;have l2:=D2.lt
 have H2:EW B r w w2.heap.size (B8 p (5+s)) (k+1+1) (w2.alloc (.cells #[.int .i64 p,.int .i64 (5+s)] 25)) :=
  ⟨CellsAt.new _ _ _ _ rfl,D2.alloc _,R2.alloc _,J2.alloc _,by omega,hB,hr⟩
 have H2:=hid H2;have hs:IntKind.i64.wrap (5+s)=5+s:=IntWalk.i64_in _ (by omega);clear R2 K2 R1 D1 J1 D2 J2 l2;go_wp2_with fail;refine(Ay r 24 _ _ H2.out.R (by omega) (by omega) (by omega)).mono ?_;rintro e w3 ⟨c,⟨c0,c1⟩,rfl,R3,K3⟩;have H3:=hid (H2.out.kept K3 R3);clear R3 K3 H2;by_cases e0:c=0
 . subst e0;go_wp2_with fail;refine(Ay r 2 _ _ H3.out.R (by omega) (by omega) (by omega)).mono ?_;rintro e w4 ⟨v,⟨v0,v1⟩,rfl,R4,K4⟩;have H4:=hid (H3.out.kept K4 R4);clear R4 K4 H3;have xc:=H4.out.X.cell 0 _ rfl;have xf:=H4.out.X.fr 0;have xl:=H4.out.X.lt;have hv1:IntKind.i64.wrap (v*11)=v*11:=IntWalk.i64_in _ (by omega);have hv2:IntKind.i64.wrap (v*11-1)=v*11-1:=IntWalk.i64_in _ (by omega);go_upto_region 7 with fail;refine wp_region_lit ?_;refine Bw rfl 25 (.tmp 3) rfl w2.heap.size rfl (B8 (v*11-1) (5+s)) (H4.out.set 0 (by simp[B8]) (.int .i64 (v*11-1))).X Try.underlying25 rfl Az ?_
   refine BW rfl 25 (.tmp 2) (.tmp 27) rfl w.heap.size rfl (B8 (v*11-1) (5+s)) rfl _ (H4.out.set 0 (by simp[B8]) (.int .i64 (v*11-1))).D (by simp[B8]) Az rfl ?_;intro w9 K9 D9;go_wp2;exact bodyPost_end (v:=.agg #[.int .i64 (v*11-1),.int .i64 (5+s)]) (BV rfl w.heap.size rfl (B8 (v*11-1) (5+s)) D9 Try.underlying25 rfl Az) rfl (EW.out (H4.out.set 0 (by simp[B8]) (.int .i64 (v*11-1))) (by omega) ⟨by omega,by omega⟩ K9)
 by_cases e1:c=1
 . subst e1;have H4:=hid (H3.out.alloc (.cells FJ 3));have hz3:=H3.out.K.size;have hxl:=H3.out.X.lt;go_wp2_with fail;refine(Ay r 4 _ (w3.alloc (.cells FJ 3)) H4.out.R (by omega) (by omega) (by omega)).mono ?_;rintro e w5 ⟨v,⟨v0,v1⟩,rfl,R5,K5⟩;obtain⟨vi,rfl⟩:=Int.eq_ofNat_of_zero_le v0;obtain⟨zz,hzb,hzz⟩:=FC vi (by omega);have hcell:w5.cell? ⟨w3.heap.size,vi,none⟩=some (.int .i64 zz):=by
    rw[K5.cell (by simp) (by simp; omega),World.cell?_alloc_new]; exact hzz
   have hvi:(vi:Int)<4:=by omega
   have H5:=hid (H4.out.kept K5 R5);clear R5 K5 H4 H3 hzz;have xc:=H5.out.X.cell 1 _ rfl;have xf:=H5.out.X.fr 1;have xl:=H5.out.X.lt;go_upto_region 7 with fail;refine wp_region_lit ?_;refine Bw rfl 25 (.tmp 3) rfl w2.heap.size rfl (B8 p zz) (H5.out.set 1 (by simp[B8]) (.int .i64 zz)).X Try.underlying25 rfl Az ?_;refine BW rfl 25 (.tmp 2) (.tmp 27) rfl w.heap.size rfl (B8 p zz) rfl _ (H5.out.set 1 (by simp[B8]) (.int .i64 zz)).D (by simp[B8]) Az rfl ?_;intro w9 K9 D9;go_wp2
   exact bodyPost_end (v:=.agg #[.int .i64 p,.int .i64 zz]) (BV rfl w.heap.size rfl (B8 p zz) D9 Try.underlying25 rfl Az) rfl (EW.out (H5.out.set 1 (by simp[B8]) (.int .i64 zz)) (by omega) ⟨by omega,by omega⟩ K9)
 have d0:(c==0)=false:=beq_eq_false_iff_ne.2 e0;have d1:(c==1)=false:=beq_eq_false_iff_ne.2 e1;have xc0:=H3.out.X.cell 0 _ rfl;have xc1:=H3.out.X.cell 1 _ rfl;go_upto_region 7 with fail;refine wp_region_lit ?_;refine Bw rfl 25 (.tmp 3) rfl w2.heap.size rfl (B8 p (5+s)) (H3.out).X Try.underlying25 rfl Az ?_;refine BW rfl 25 (.tmp 2) (.tmp 27) rfl w.heap.size rfl (B8 p (5+s)) rfl _ (H3.out).D (by simp[B8]) Az rfl ?_;intro w9 K9 D9;go_wp2;exact bodyPost_end (v:=.agg #[.int .i64 p,.int .i64 (5+s)]) (BV rfl w.heap.size rfl (B8 p (5+s)) D9 Try.underlying25 rfl Az) rfl (EW.out (H3.out) (by omega) ⟨by omega,by omega⟩ K9)
def DG(B:Nat)(r:Nat)(k:Int)(w:World)(e:Ending)(w':World):Prop :=
 ∃(A:Option Addr) (N c:Nat) (xs:List En),e=.returned (.slice A N c)/\(N<=5/\N<=c)/\Ents w' A N xs/\(∀ g off,A=some ⟨g,off,none⟩->w.heap.size<=g)/\RdU B w' r (k+60)/\Kept r w w'
theorem CR{B r:Nat}{k k':Int}{w W:World}{v:Value}{N:Nat}{ys:List En}(O:W.ownsRow w.heap.size 25 2 v N (AM ys))(hN:N<=5)(R:RdU B W r k')(hk:k'<=k+60)(K:Kept r w W):DG B r k w (.returned v) W:=by
 obtain⟨A,c,rfl,I,M⟩:=Ents.of_own O;exact⟨A,N,c,ys,rfl,⟨hN,Be O⟩,I,M,R.mono hk,K⟩
theorem M.ecl_set1:∀(xs:List En) (i:Nat) (v:Int),i<xs.length->(AM xs).set (i*2+1) (.int .i64 v)=AM (xs.set i ⟨(xs.getD i ez).p,v⟩)
 | [],i,v,h=>absurd h (by simp)
 | a::xs,0,v,_=>rfl
 | a::xs,i+1,v,h=>by
  have e:(i+1)*2+1=i*2+1+1+1:=by omega
  have t:=ecl_set1 xs i v (by simpa using h);rw[e];simp only[AM,List.set_cons_succ];rw[t];simp
theorem M.badd_len{xs:List En}{e:En}(h:(Am xs e).2=0):(Am xs e).1.length<=4:=by
 unfold Am at h ⊢;split
 . simp
 . next g =>
   rw[if_neg g] at h;split
   . next g2=>rw[if_pos g2] at h; simp at h
   . next g2 =>
     rw[if_neg g2] at h;split
     . next g3=>rw[if_pos g3] at h; simp at h
     . rw[BF]; omega
def Ff(B r:Nat)(k:Int)(w:World)(N:Nat)(ov iv:Value)(W:World):Prop :=
 ∃(j:Nat) (xs:List En),j<=N/\iv=.int .i64 j/\W.ownsRow w.heap.size 25 2 ov xs.length (AM xs)/\xs.length<=4/\RdU B W r (k+1+4*j)/\Kept r w W
theorem Bc{B:Nat}(r:Nat)(k:Int)(w:World)(R:RdU B w r k)(k0:0<=k)(hk:k<=1000) :
 Calls Try.prog 43 #[.pointer (some ⟨r,0,none⟩)] w (DG B r k w):=by
 have hr:=R.here;have hB:=R.base;have O:=hid (show(w.alloc (.cells #[] 25)).ownsRow w.heap.size 25 2 (.slice (some ⟨w.heap.size,0,none⟩) 0 0) ([]:List En).length (AM []) from Ah w _ _ rfl (Nat.le_refl _));have K:=hid ((Kept.refl r w).alloc (.cells #[] 25));go_enter Try.func43,Try.ntmps43;go_wp2_with fail;refine(Ay r 8 k _ (R.alloc _) (by omega) (by omega) (by omega)).mono ?_;rintro e w1 ⟨n,⟨n0,n1⟩,rfl,R1,K1⟩;obtain⟨N,rfl⟩:=Int.eq_ofNat_of_zero_le n0
 have Q0:Ff B r k w N (.slice (some ⟨w.heap.size,0,none⟩) 0 0) (.int .i64 0) w1:=⟨0,[],Nat.zero_le _,rfl,O.out.kept K1.grows (.inr fun he=>by have:=(O.out.lt r he).1; omega),by simp,by simpa using R1,K.out.trans K1⟩;clear O K R R1 K1;go_wp2
 go_loopw [3,5] (Ff B r k w N) (fun _ i _=>N-(RowKit.intOf i).toNat)
 case atStart=>exact Q0
 case round =>
  clear Q0;obtain⟨j,xs,hj,rfl,O,hx4,R,K⟩:=hrel;obtain⟨A,c,rfl,I,_⟩:=Ents.of_own O;replace O:=hid O;replace R:=hid R;replace K:=hid K;clear I;by_cases hlt:j<N
  . have gl:decide ((j:Int)<(N:Int))=true:=decide_eq_true (by omega);go_wp2_with fail;refine(B5 r _ _ R.out (by omega)).mono ?_;rintro e w2 ⟨p,s,_,rfl,R2,K2⟩;replace O:=hid (O.out.kept K2.grows (.inr fun he=>by have:=(O.out.lt r he).1; omega));replace K:=hid (K.out.trans K2);replace R:=hid R2;have hs:=K.out.size;clear K2 R2;go_wp2_with fail;refine(C8 A xs.length c xs p s _ (by obtain⟨_,_,e,I,_⟩:=Ents.of_own O.out; cases e; exact I) (by omega)).mono ?_;rintro e w3 ⟨v,rfl,O3,B3⟩;have hcode:=Dk xs ⟨p,s⟩;have hlen:=badd_len (xs:=xs) (e:=⟨p,s⟩);replace O3:=hid (Af O3 hs);replace O:=hid (Ak O.out B3)
    replace K:=hid (K.out.trans (Kept.of_below B3));replace R:=hid (R.out.below (B3.mono R.out.base));clear B3;generalize Am xs ⟨p,s⟩=q at *;obtain⟨ys,cd⟩:=q;dsimp only at hcode hlen O3 ⊢;by_cases hc:cd=0
    . subst hc;have hl4:=hlen rfl;go_wp2
      go_roundw
      case rel=>exact⟨j+1,ys,by omega,by go_num,O3.out,hl4,by have:=R.out; refine this.mono ?_; omega,K.out⟩
      case measure=>simp[RowKit.intOf]; omega
    . have hcb:(cd==0)=false:=beq_eq_false_iff_ne.2 hc;replace hc:=hid hc;go_wp2
      go_roundw
      case rel=>exact⟨j+1,xs,by omega,by go_num,O.out,hx4,by have:=R.out; refine this.mono ?_; omega,K.out⟩
      case measure=>simp[RowKit.intOf]; omega
  . have gl:decide ((j:Int)<(N:Int))=false:=decide_eq_false (by omega);go_wp2_with fail;refine(Ay r 16 _ _ R.out (by omega) (by omega) (by omega)).mono ?_;rintro e w2 ⟨u,⟨u0,u1⟩,rfl,R2,K2⟩;replace O:=hid (O.out.kept K2.grows (.inr fun he=>by have:=(O.out.lt r he).1; omega));replace K:=hid (K.out.trans K2);replace R:=hid R2;clear K2 R2;by_cases e0:u=0
    . subst e0;go_wp2_with fail;refine(B5 r _ _ R.out (by omega)).mono ?_;rintro e w3 ⟨p,s,_,rfl,R2,K2⟩;replace O:=hid (O.out.kept K2.grows (.inr fun he=>by have:=(O.out.lt r he).1; omega));replace K:=hid (K.out.trans K2);replace R:=hid R2;have hs:=K.out.size;clear K2 R2;go_wp2_with (at_builtin; refine Al _ rfl (.tmp 30) (.tmp 33) rfl w.heap.size (.slice A xs.length c) xs.length xs rfl (O.out.alloc _) _ 1 1 [⟨p,s⟩] rfl (Ents.one _ _ p s _ (by simp)) (by omega) (by simp; omega) ?_);intro v' w9 O9 G9 _;have K9:=hid ((K.out.alloc _).grown G9 (fun g e=>(O.out.lt g e).1))
      have R9:=hid ((R.out.alloc _).grown G9 (fun g e=>by have:=(O.out.lt g e).1; omega));replace O9:=hid O9;clear G9 O K R;go_wp2;go_ret;exact CR O9.out (by omega) R9.out (by omega) K9.out
    by_cases e1:u=1
    . subst e1;by_cases h0:xs.length=0
      . have g0:decide ((0:Int)<(xs.length:Int))=false:=decide_eq_false (by omega);have g1:decide (0<xs.length)=false:=decide_eq_false (by omega);obtain rfl:xs=[]:=List.eq_nil_of_length_eq_zero h0;go_wp2;go_ret;exact CR O.out (by simp) R.out (by omega) K.out
      have g0:decide ((0:Int)<(xs.length:Int))=true:=decide_eq_true (by omega);have g1:decide (0<xs.length)=true:=decide_eq_true (by omega);obtain⟨L,hL⟩:∃ L,xs.length=L:=⟨_,rfl⟩;rw[hL] at hx4 h0 g0 g1 O;rw[hL];go_wp2_with fail;refine(Ay r L _ _ R.out (by omega) (by omega) (by omega)).mono ?_;rintro e w5 ⟨ix,⟨ix0,ix1⟩,rfl,R1,K1⟩;replace O:=hid (O.out.kept K1.grows (.inr fun he=>by have:=(O.out.lt _ he).1; omega));replace K:=hid (K.out.trans K1);replace R:=hid R1;clear K1 R1;obtain⟨ix,rfl⟩:=Int.eq_ofNat_of_zero_le ix0;have hix:ix<L:=by omega
      go_wp2_with fail;refine(Ay r 20 _ _ R.out (by omega) (by omega) (by omega)).mono ?_;rintro e w6 ⟨v,⟨v0,v1⟩,rfl,R1,K1⟩;replace O:=hid (O.out.kept K1.grows (.inr fun he=>by have:=(O.out.lt _ he).1; omega));replace K:=hid (K.out.trans K1);replace R:=hid R1;clear K1 R1;obtain⟨gb,rfl⟩:∃ gb,A=some ⟨gb,0,none⟩:=by
       rcases O.out.2 with⟨_,h⟩ | ⟨g,cap,cur,h,_⟩
       . exact absurd h h0
       . cases h
         exact⟨g,rfl⟩
      have ci:=O.out.cellAt (ix*2+1) (by omega);rw[CU xs ix 1 (by omega) (by omega)] at ci;have fi:=O.out.frozenAt (ix*2+1);have gB:=(O.out.lt gb rfl).1;have gl':=(O.out.lt gb rfl).2;have O5:=hid (show World.ownsRow (World.setCell _ ⟨gb,ix*2+1,none⟩ (.int .i64 v)) _ 25 2 (.slice (some ⟨gb,0,none⟩) L c) L (AM (xs.set ix ⟨(xs.getD ix ez).p,v⟩)) from ecl_set1 xs ix v (by omega)▸(O.out.stored (ix*2+1) _).1);have K5:=hid (K.out.set gb (ix*2+1) (.int .i64 v) gB);have R5:=hid (R.out.set gb (ix*2+1) (.int .i64 v) (by omega));clear O K R;generalize DJ (xs.getD ix ez) 1=q0 at *;go_wp2;go_ret;exact CR O5.out (by omega) R5.out (by omega) K5.out
    have d0:(u==0)=false:=beq_eq_false_iff_ne.2 e0;have d1:(u==1)=false:=beq_eq_false_iff_ne.2 e1;clear e0 e1;go_wp2;go_ret;exact CR O.out (by omega) R.out (by omega) K.out
end Go.Proofs.Ytgghhedkephohaa
