import Derived.Deep.DeepCutAuto
import Derived.Test.YtgbiagonfbnooaaGreatDoorZInRow
import Derived.Deep.Cut
set_option linter.all false
set_option maxRecDepth 100000
set_option maxHeartbeats 8000000
open Go.Lib
namespace Go.Proofs.YtgbiagonfbnooaaGreatDoor
open Go.RowKit
open M
open Go.RowKit
open M
open Go.RowKit
open M
open Go.RowKit
open M
def Hy(B:Nat)(r:Nat)(k:Int)(w:World)(e:Ending)(w':World):Prop :=
 ∃(s p:Int) (z:Bool),((-3<=s/\s<=3)/\(-3<=p/\p<=5))/\e=.returned (BK s p z)/\RdU B w' r (k+4)/\Kept r w w'
theorem Af:(Tryz.prog.info? 89).map (·.size)=some 3:=by kernel_rfl
theorem Nr{n:Int}(h0:0<=n)(h1:n<10):(-3<=F5 n/\F5 n<=3)/\(-3<=F6 n/\F6 n<=5):=by
 unfold F5 F6;split<;>omega
structure IW(B r:Nat)(w:World)(xb:Nat)(vs:List Value)(k:Int)(W:World):Prop where
 X:CellsAt W xb vs
 D:CellsAt W w.heap.size (AF 0 0 false)
 R:RdU B W r k
 K:Kept r w W
 lo:w.heap.size<xb
 bw:B<=w.heap.size
 rB:r<B
theorem IW.kept{B r:Nat}{w:World}{xb:Nat}{vs:List Value}{k:Int}{W:World}{k':Int}{W':World}(h:IW B r w xb vs k W)(K:Kept r W W')(R:RdU B W' r k'):IW B r w xb vs k' W':=by
 have h1:=h.lo; have h2:=h.bw; have h3:=h.rB;exact⟨h.X.kept K (by omega),h.D.kept K (by omega),R,h.K.trans K,h1,h2,h3⟩
theorem IW.set{B r:Nat}{w:World}{xb:Nat}{vs:List Value}{k:Int}{W:World}(h:IW B r w xb vs k W)(o:Nat)(ho:o<vs.length)(v:Value):IW B r w xb (vs.set o v) k (W.setCell ⟨xb,o,none⟩ v):=by
 have h1:=h.lo; have h2:=h.bw; have h3:=h.rB;exact⟨h.X.set o ho v,h.D.far (by omega) _ _,h.R.set _ _ _ (by omega),h.K.set _ _ _ (by omega),h1,h2,h3⟩
theorem IW.out{B r:Nat}{w:World}{xb:Nat}{vs:List Value}{k:Int}{W:World}{k0:Int}{s p:Int}{z:Bool}{W':World}(h:IW B r w xb vs k W)(hk:k<=k0+4)(hb:(-3<=s/\s<=3)/\(-3<=p/\p<=5))(K:Kept w.heap.size W W'):Hy B r k0 w (.returned (BK s p z)) W':=by
 have h1:=h.lo; have h2:=h.bw; have h3:=h.rB; have h4:=h.K.size;exact⟨s,p,z,hb,rfl,(h.R.mono hk).below (K.below (by omega) (by omega)),K.os.trans h.K.os,K.tape.trans h.K.tape,K.output.trans h.K.output,Nat.le_trans h4 K.size,fun j hj hr=>(K.block j (by omega) (by omega)).trans (h.K.block j hj hr)⟩
theorem F9{B:Nat}(r:Nat)(k:Int)(w:World)(R:RdU B w r k)(hk:k<=90000) :
 Calls Tryz.prog 58 #[.pointer (some ⟨r,0,none⟩)] w (Hy B r k w):=by
 have hr:=R.here;have hB:=R.base;have D0:CellsAt (w.alloc (.cells #[.int .i64 0,.int .i64 0,.bool false] 89)) w.heap.size (AF 0 0 false):=CellsAt.new w _ _ _ rfl;go_enter Tryz.func58,Tryz.ntmps58;go_wp2_with fail;refine(Aj r 10 k _ (R.alloc _) (by omega) (by omega) (by omega)).mono ?_;rintro e w1 ⟨n,⟨n0,n1⟩,rfl,R1,K1⟩;have D1:=D0.kept K1 (by omega);have J1:=hid (((Kept.refl r w).alloc _).trans K1);have R1:=hid R1;clear K1 R D0;go_wp2_with fail;refine(HJ n _).mono ?_;rintro e w2 ⟨rfl,B2⟩;have l1:=D1.lt;have z2:=B2.size
 have H2:IW B r w w2.heap.size (AF (F5 n) (F6 n) (G4 n)) (k+1) (w2.alloc (.cells #[.int .i64 (F5 n),.int .i64 (F6 n),.bool (G4 n)] 89)) :=
  ⟨CellsAt.new _ _ _ _ rfl,(D1.step B2).alloc _,(R1.out.below (B2.mono R1.out.base)).alloc _,(J1.out.trans (Kept.of_below B2)).alloc _,by omega,hB,hr⟩
 have H2:=hid H2;have hb:=Nr n0 n1;clear B2 R1 D1 J1;generalize F5 n=s at *;generalize F6 n=p at *;generalize G4 n=z at *;go_wp2_with fail;refine(Aj r 24 _ _ H2.out.R (by omega) (by omega) (by omega)).mono ?_;rintro e w3 ⟨c,⟨c0,c1⟩,rfl,R3,K3⟩;have H3:=hid (H2.out.kept K3 R3);clear R3 K3 H2;by_cases e0:c=0
 . subst e0;go_wp2_with fail;refine(Aj r 5 _ _ H3.out.R (by omega) (by omega) (by omega)).mono ?_;rintro e w4 ⟨v,⟨v0,v1⟩,rfl,R4,K4⟩;have H4:=hid (H3.out.kept K4 R4);clear R4 K4 H3;have xc:=H4.out.X.cell 0 _ rfl;have xf:=H4.out.X.fr 0;have xl:=H4.out.X.lt;go_upto_region 9 with fail;refine wp_region_lit ?_;refine Ag rfl 89 (.tmp 3) rfl w2.heap.size rfl (AF (v-2) p z) (H4.out.set 0 (by simp) (.int .i64 (v-2))).X Tryz.underlying89 rfl Af ?_;refine Ah rfl 89 (.tmp 2) (.tmp 28) rfl w.heap.size rfl (AF (v-2) p z) rfl _ (H4.out.set 0 (by simp) (.int .i64 (v-2))).D (by simp) Af rfl ?_;intro w9 K9 D9;go_wp2
   exact bodyPost_ret (v:=BK (v-2) p z) (Ai rfl w.heap.size rfl (AF (v-2) p z) D9 Tryz.underlying89 rfl Af) rfl (IW.out (H4.out.set 0 (by simp) (.int .i64 (v-2))) (by omega) (by omega) K9)
 by_cases e1:c=1
 . subst e1;go_wp2_with fail;refine(Aj r 5 _ _ H3.out.R (by omega) (by omega) (by omega)).mono ?_;rintro e w4 ⟨v,⟨v0,v1⟩,rfl,R4,K4⟩;have H4:=hid (H3.out.kept K4 R4);clear R4 K4 H3;have xc:=H4.out.X.cell 1 _ rfl;have xf:=H4.out.X.fr 1;have xl:=H4.out.X.lt;go_upto_region 9 with fail;refine wp_region_lit ?_;refine Ag rfl 89 (.tmp 3) rfl w2.heap.size rfl (AF s (v-1) z) (H4.out.set 1 (by simp) (.int .i64 (v-1))).X Tryz.underlying89 rfl Af ?_;refine Ah rfl 89 (.tmp 2) (.tmp 28) rfl w.heap.size rfl (AF s (v-1) z) rfl _ (H4.out.set 1 (by simp) (.int .i64 (v-1))).D (by simp) Af rfl ?_;intro w9 K9 D9;go_wp2
   exact bodyPost_ret (v:=BK s (v-1) z) (Ai rfl w.heap.size rfl (AF s (v-1) z) D9 Tryz.underlying89 rfl Af) rfl (IW.out (H4.out.set 1 (by simp) (.int .i64 (v-1))) (by omega) (by omega) K9)
 by_cases e2:c=2
 . subst e2;have xc:=H3.out.X.cell 2 _ rfl;have xf:=H3.out.X.fr 2;have xl:=H3.out.X.lt;go_upto_region 9 with fail;refine wp_region_lit ?_;refine Ag rfl 89 (.tmp 3) rfl w2.heap.size rfl (AF s p true) (H3.out.set 2 (by simp) (.bool true)).X Tryz.underlying89 rfl Af ?_;refine Ah rfl 89 (.tmp 2) (.tmp 28) rfl w.heap.size rfl (AF s p true) rfl _ (H3.out.set 2 (by simp) (.bool true)).D (by simp) Af rfl ?_;intro w9 K9 D9;go_wp2;exact bodyPost_ret (v:=BK s p true) (Ai rfl w.heap.size rfl (AF s p true) D9 Tryz.underlying89 rfl Af) rfl (IW.out (H3.out.set 2 (by simp) (.bool true)) (by omega) (by omega) K9)
 have d0:(c==0)=false:=beq_eq_false_iff_ne.2 e0;have d1:(c==1)=false:=beq_eq_false_iff_ne.2 e1;have d2:(c==2)=false:=beq_eq_false_iff_ne.2 e2;clear e0 e1 e2;go_upto_region 9 with fail;refine wp_region_lit ?_;refine Ag rfl 89 (.tmp 3) rfl w2.heap.size rfl (AF s p z) (H3.out).X Tryz.underlying89 rfl Af ?_;refine Ah rfl 89 (.tmp 2) (.tmp 28) rfl w.heap.size rfl (AF s p z) rfl _ (H3.out).D (by simp) Af rfl ?_;intro w9 K9 D9;go_wp2;exact bodyPost_ret (v:=BK s p z) (Ai rfl w.heap.size rfl (AF s p z) D9 Tryz.underlying89 rfl Af) rfl (IW.out (H3.out) (by omega) (by omega) K9)
open Go.RowKit
open M
theorem BR{P:Program}{code:Code}{Q:Exit->Act->World->Prop}{a:Act}{W:World}(S:World->Prop)(hS:S W)(h:∀ W',S W'->code.wp P Q a W'):code.wp P Q a W:=h W hS
def Fh(B:Nat)(r:Nat)(k:Int)(w:World)(e:Ending)(w':World):Prop :=
 ∃(s p:Int) (z:Bool),e=.returned (BK s p z)/\RdU B w' r (k+3)/\Kept r w w'
structure NW(B r:Nat)(w:World)(l q d x:List Value)(k:Int)(W:World):Prop where
 L:CellsAt W w.heap.size l
 Q:CellsAt W (w.heap.size+1) q
 D:CellsAt W (w.heap.size+1+1) d
 X:CellsAt W (w.heap.size+1+1+1) x
 R:RdU B W r k
 K:Kept r w W
 bw:B<=w.heap.size
 rB:r<B
theorem NW.kept{B r:Nat}{w:World}{l q d x:List Value}{k:Int}{W:World}{k':Int}{W':World}(h:NW B r w l q d x k W)(K:Kept r W W')(R:RdU B W' r k'):NW B r w l q d x k' W':=by
 have h2:=h.bw; have h3:=h.rB;exact⟨h.L.kept K (by omega),h.Q.kept K (by omega),h.D.kept K (by omega),h.X.kept K (by omega),R,h.K.trans K,h2,h3⟩
theorem NW.step{B r:Nat}{w:World}{l q d x:List Value}{k:Int}{W:World}{W':World}(h:NW B r w l q d x k W)(S:Below W.heap.size W W'):NW B r w l q d x k W':=h.kept (Kept.of_below S) (h.R.below (S.mono h.R.base))
theorem NW.set{B r:Nat}{w:World}{l q d x:List Value}{k:Int}{W:World}(h:NW B r w l q d x k W)(o:Nat)(ho:o<x.length)(v:Value):NW B r w l q d (x.set o v) k (W.setCell ⟨w.heap.size+1+1+1,o,none⟩ v):=by
 have h2:=h.bw; have h3:=h.rB;exact⟨h.L.far (by omega) _ _,h.Q.far (by omega) _ _,h.D.far (by omega) _ _,h.X.set o ho v,h.R.set _ _ _ (by omega),h.K.set _ _ _ (by omega),h2,h3⟩
theorem NW.all{B r:Nat}{w:World}{l q d x:List Value}{k:Int}{W:World}{y:List Value}{W':World}(h:NW B r w l q d x k W)(K:Kept (w.heap.size+1+1+1) W W')(N:CellsAt W' (w.heap.size+1+1+1) y):NW B r w l q d y k W':=by
 have h2:=h.bw; have h3:=h.rB;have h5:=h.K.size;exact⟨h.L.kept K (by omega),h.Q.kept K (by omega),h.D.kept K (by omega),N,h.R.below (K.below (by omega) (by omega)),⟨K.os.trans h.K.os,K.tape.trans h.K.tape,K.output.trans h.K.output,Nat.le_trans h5 K.size,fun j hj hr=>(K.block j (by omega) (by omega)).trans (h.K.block j hj hr)⟩,h2,h3⟩
theorem NW.out{B r:Nat}{w:World}{l q d x:List Value}{k:Int}{W:World}{k0:Int}{s p:Int}{z:Bool}{W':World}(h:NW B r w l q d x k W)(hk:k<=k0+3)(K:Kept (w.heap.size+1+1) W W'):Fh B r k0 w (.returned (BK s p z)) W':=by
 have h2:=h.bw; have h3:=h.rB; have h5:=h.K.size;exact⟨s,p,z,rfl,(h.R.mono hk).below (K.below (by omega) (by omega)),K.os.trans h.K.os,K.tape.trans h.K.tape,K.output.trans h.K.output,Nat.le_trans h5 K.size,fun j hj hr=>(K.block j (by omega) (by omega)).trans (h.K.block j hj hr)⟩
theorem GX{B:Nat}(r:Nat)(k:Int)(i t x y:Int)(A:Option Addr)(n c:Nat)(G:Option Addr)(m kk:Nat)(fp fq fs fz b:Int)(s0 p0:Int)(z0:Bool)(w:World)(R:RdU B w r k)(hk:k<=90000)(b0:0<=b)(b3:b<=3)(s1:-1<=s0)(s2:s0<=1) :
 Calls Tryz.prog 85 #[.pointer (some ⟨r,0,none⟩),Fq i t x y A n c G m kk fp fq fs fz b,BK s0 p0 z0] w (Fh B r k w):=by
 have hr:=R.here;have hB:=R.base
 have H:NW B r w (AW i t x y A n c G m kk fp fq fs fz b) (AF s0 p0 z0) (AF 0 0 false) (AF 0 1 false) (k) ((((w.alloc (.cells #[.int .i64 i,.int .i64 t,.int .i64 x,.int .i64 y,.slice A n c,.slice G m kk,.int .i64 fp,.int .i64 fq,.int .i64 fs,.int .i64 fz,.int .i64 b] 62)).alloc (.cells #[.int .i64 s0,.int .i64 p0,.bool z0] 89)).alloc (.cells #[.int .i64 0,.int .i64 0,.bool false] 89)).alloc (.cells #[.int .i64 0,.int .i64 1,.bool false] 89)):=⟨(((CellsAt.new w _ _ _ rfl).alloc _).alloc _).alloc _,((CellsAt.new _ _ _ _ (by simp)).alloc _).alloc _,(CellsAt.new _ _ _ _ (by simp)).alloc _,CellsAt.new _ _ _ _ (by simp),(((R.alloc _).alloc _).alloc _).alloc _,((((Kept.refl r w).alloc _).alloc _).alloc _).alloc _,hB,hr⟩
 have H:=hid H;clear R;go_enter Tryz.func85,Tryz.ntmps85;go_wp2_with fail;refine(Aj r 12 _ _ H.out.R (by omega) (by omega) (by omega)).mono ?_;rintro e w1 ⟨c0,⟨c1,c2⟩,rfl,R1,K1⟩;replace H:=hid (H.out.kept K1 R1);clear K1 R1;by_cases e0:c0=0
 . subst e0;go_wp2_with fail;refine(Aj r 3 _ _ H.out.R (by omega) (by omega) (by omega)).mono ?_;rintro e w2 ⟨v,⟨v0,v1⟩,rfl,R1,K1⟩;replace H:=hid (H.out.kept K1 R1);clear K1 R1;have xc:=H.out.X.cell 1 _ rfl;have xf:=H.out.X.fr 1;have xl:=H.out.X.lt;go_upto_region 10 with fail;refine BR (NW B r w (AW i t x y A n c G m kk fp fq fs fz b) (AF s0 p0 z0) (AF 0 0 false) (AF 0 v false) (k+1+1)) (H.out.set 1 (by simp) _) ?_;clear H xc xf xl;intro w4 H;replace H:=hid H;have C:=fun W=>BZ i t x y A n c G m kk fp fq fs fz b s0 p0 z0 0 v false W b0 b3 s1 s2;generalize Er b s0 0 v false=bb at *;replace C:=hid C
   obtain⟨Lc0,Lc1,Lc2,Lc3,Lc4,Lc5,Lc6,Lc7,Lc8,Lc9,Lc10⟩:=Bb H.out.L;have Ll:=H.out.L.lt;obtain⟨Qc0,Qc1,Qc2⟩:=BL H.out.Q;have Ql:=H.out.Q.lt;obtain⟨Xc0,Xc1,Xc2⟩:=BL H.out.X;have Xl:=H.out.X.lt;go_wp2_with fail;refine(C.out _).mono ?_;rintro e w5 ⟨rfl,S⟩;replace H:=hid (H.out.step S);clear S C Lc0 Lc1 Lc2 Lc3 Lc4 Lc5 Lc6 Lc7 Lc8 Lc9 Lc10 Ll Qc0 Qc1 Qc2 Ql Xc0 Xc1 Xc2 Xl;cases bb
   . go_wp2_with (refine Ah rfl 89 (.tmp 6) (.tmp 36) rfl (w.heap.size+1+1) rfl (AF 0 1 false) rfl _ H.out.D (by simp) Af rfl ?_);intro w6 K6 N6;go_wp2;exact bodyPost_ret (v:=BK 0 1 false) (Ai rfl (w.heap.size+1+1) rfl (AF 0 1 false) N6 Tryz.underlying89 rfl Af) rfl (NW.out H.out (by omega) K6)
   . go_upto_region 12 with fail;refine wp_region_lit ?_;refine Ag rfl 89 (.tmp 7) rfl (w.heap.size+1+1+1) rfl (AF 0 v false) H.out.X Tryz.underlying89 rfl Af ?_;refine Ah rfl 89 (.tmp 6) (.tmp 37) rfl (w.heap.size+1+1) rfl (AF 0 v false) rfl _ H.out.D (by simp) Af rfl ?_;intro w6 K6 N6;go_wp2;exact bodyPost_ret (v:=BK 0 v false) (Ai rfl (w.heap.size+1+1) rfl (AF 0 v false) N6 Tryz.underlying89 rfl Af) rfl (NW.out H.out (by omega) K6)
 by_cases e1:c0=1
 . subst e1;go_wp2_with fail;refine(Aj r 3 _ _ H.out.R (by omega) (by omega) (by omega)).mono ?_;rintro e w2 ⟨v,⟨v0,v1⟩,rfl,R1,K1⟩;replace H:=hid (H.out.kept K1 R1);clear K1 R1;have xc:=H.out.X.cell 0 _ rfl;have xf:=H.out.X.fr 0;have xl:=H.out.X.lt;go_upto_region 10 with fail;refine BR (NW B r w (AW i t x y A n c G m kk fp fq fs fz b) (AF s0 p0 z0) (AF 0 0 false) (AF (v-1) 1 false) (k+1+1)) (H.out.set 0 (by simp) _) ?_;clear H xc xf xl;intro w4 H;replace H:=hid H;have C:=fun W=>BZ i t x y A n c G m kk fp fq fs fz b s0 p0 z0 (v-1) 1 false W b0 b3 s1 s2;generalize Er b s0 (v-1) 1 false=bb at *;replace C:=hid C
   obtain⟨Lc0,Lc1,Lc2,Lc3,Lc4,Lc5,Lc6,Lc7,Lc8,Lc9,Lc10⟩:=Bb H.out.L;have Ll:=H.out.L.lt;obtain⟨Qc0,Qc1,Qc2⟩:=BL H.out.Q;have Ql:=H.out.Q.lt;obtain⟨Xc0,Xc1,Xc2⟩:=BL H.out.X;have Xl:=H.out.X.lt;go_wp2_with fail;refine(C.out _).mono ?_;rintro e w5 ⟨rfl,S⟩;replace H:=hid (H.out.step S);clear S C Lc0 Lc1 Lc2 Lc3 Lc4 Lc5 Lc6 Lc7 Lc8 Lc9 Lc10 Ll Qc0 Qc1 Qc2 Ql Xc0 Xc1 Xc2 Xl;cases bb
   . go_wp2_with (refine Ah rfl 89 (.tmp 6) (.tmp 36) rfl (w.heap.size+1+1) rfl (AF 0 1 false) rfl _ H.out.D (by simp) Af rfl ?_);intro w6 K6 N6;go_wp2;exact bodyPost_ret (v:=BK 0 1 false) (Ai rfl (w.heap.size+1+1) rfl (AF 0 1 false) N6 Tryz.underlying89 rfl Af) rfl (NW.out H.out (by omega) K6)
   . go_upto_region 12 with fail;refine wp_region_lit ?_;refine Ag rfl 89 (.tmp 7) rfl (w.heap.size+1+1+1) rfl (AF (v-1) 1 false) H.out.X Tryz.underlying89 rfl Af ?_;refine Ah rfl 89 (.tmp 6) (.tmp 37) rfl (w.heap.size+1+1) rfl (AF (v-1) 1 false) rfl _ H.out.D (by simp) Af rfl ?_;intro w6 K6 N6;go_wp2;exact bodyPost_ret (v:=BK (v-1) 1 false) (Ai rfl (w.heap.size+1+1) rfl (AF (v-1) 1 false) N6 Tryz.underlying89 rfl Af) rfl (NW.out H.out (by omega) K6)
 by_cases e2:c0=2
 . subst e2;go_wp2_with fail;refine(Aj r 3 _ _ H.out.R (by omega) (by omega) (by omega)).mono ?_;rintro e w2 ⟨v,⟨v0,v1⟩,rfl,R1,K1⟩;replace H:=hid (H.out.kept K1 R1);clear K1 R1;have xc:=H.out.X.cell 0 _ rfl;have xf:=H.out.X.fr 0;have xl:=H.out.X.lt;go_upto_region 10 with fail;refine BR (NW B r w (AW i t x y A n c G m kk fp fq fs fz b) (AF s0 p0 z0) (AF 0 0 false) (AF (v-1) 1 false) (k+1+1)) (H.out.set 0 (by simp) _) ?_;clear H xc xf xl;intro w4 H;replace H:=hid H;have C:=fun W=>BZ i t x y A n c G m kk fp fq fs fz b s0 p0 z0 (v-1) 1 false W b0 b3 s1 s2;generalize Er b s0 (v-1) 1 false=bb at *;replace C:=hid C
   obtain⟨Lc0,Lc1,Lc2,Lc3,Lc4,Lc5,Lc6,Lc7,Lc8,Lc9,Lc10⟩:=Bb H.out.L;have Ll:=H.out.L.lt;obtain⟨Qc0,Qc1,Qc2⟩:=BL H.out.Q;have Ql:=H.out.Q.lt;obtain⟨Xc0,Xc1,Xc2⟩:=BL H.out.X;have Xl:=H.out.X.lt;go_wp2_with fail;refine(C.out _).mono ?_;rintro e w5 ⟨rfl,S⟩;replace H:=hid (H.out.step S);clear S C Lc0 Lc1 Lc2 Lc3 Lc4 Lc5 Lc6 Lc7 Lc8 Lc9 Lc10 Ll Qc0 Qc1 Qc2 Ql Xc0 Xc1 Xc2 Xl;cases bb
   . go_wp2_with (refine Ah rfl 89 (.tmp 6) (.tmp 36) rfl (w.heap.size+1+1) rfl (AF 0 1 false) rfl _ H.out.D (by simp) Af rfl ?_);intro w6 K6 N6;go_wp2;exact bodyPost_ret (v:=BK 0 1 false) (Ai rfl (w.heap.size+1+1) rfl (AF 0 1 false) N6 Tryz.underlying89 rfl Af) rfl (NW.out H.out (by omega) K6)
   . go_upto_region 12 with fail;refine wp_region_lit ?_;refine Ag rfl 89 (.tmp 7) rfl (w.heap.size+1+1+1) rfl (AF (v-1) 1 false) H.out.X Tryz.underlying89 rfl Af ?_;refine Ah rfl 89 (.tmp 6) (.tmp 37) rfl (w.heap.size+1+1) rfl (AF (v-1) 1 false) rfl _ H.out.D (by simp) Af rfl ?_;intro w6 K6 N6;go_wp2;exact bodyPost_ret (v:=BK (v-1) 1 false) (Ai rfl (w.heap.size+1+1) rfl (AF (v-1) 1 false) N6 Tryz.underlying89 rfl Af) rfl (NW.out H.out (by omega) K6)
 by_cases e3:c0=3
 . subst e3;go_wp2_with fail;refine(Aj r 10 _ _ H.out.R (by omega) (by omega) (by omega)).mono ?_;rintro e w2 ⟨v,⟨v0,v1⟩,rfl,R1,K1⟩;replace H:=hid (H.out.kept K1 R1);clear K1 R1;go_wp2_with fail;refine(HJ v _).mono ?_;rintro e w3 ⟨rfl,S⟩;replace H:=hid (H.out.step S);clear S;generalize F5 v=xs at *;generalize F6 v=xp at *;generalize G4 v=xz at *;go_wp2_with (refine Ah rfl 89 (.tmp 7) (.tmp 29) rfl (w.heap.size+1+1+1) rfl (AF xs xp xz) rfl _ H.out.X (by simp) Af rfl ?_);intro w4 K4 N4;replace H:=hid (H.out.all K4 N4);clear K4 N4;have C:=fun W=>BZ i t x y A n c G m kk fp fq fs fz b s0 p0 z0 xs xp xz W b0 b3 s1 s2
   generalize Er b s0 xs xp xz=bb at *;replace C:=hid C;obtain⟨Lc0,Lc1,Lc2,Lc3,Lc4,Lc5,Lc6,Lc7,Lc8,Lc9,Lc10⟩:=Bb H.out.L;have Ll:=H.out.L.lt;obtain⟨Qc0,Qc1,Qc2⟩:=BL H.out.Q;have Ql:=H.out.Q.lt;obtain⟨Xc0,Xc1,Xc2⟩:=BL H.out.X;have Xl:=H.out.X.lt;go_wp2_with fail;refine(C.out _).mono ?_;rintro e w5 ⟨rfl,S⟩;replace H:=hid (H.out.step S);clear S C Lc0 Lc1 Lc2 Lc3 Lc4 Lc5 Lc6 Lc7 Lc8 Lc9 Lc10 Ll Qc0 Qc1 Qc2 Ql Xc0 Xc1 Xc2 Xl;cases bb
   . go_wp2_with (refine Ah rfl 89 (.tmp 6) (.tmp 36) rfl (w.heap.size+1+1) rfl (AF 0 1 false) rfl _ H.out.D (by simp) Af rfl ?_);intro w6 K6 N6;go_wp2;exact bodyPost_ret (v:=BK 0 1 false) (Ai rfl (w.heap.size+1+1) rfl (AF 0 1 false) N6 Tryz.underlying89 rfl Af) rfl (NW.out H.out (by omega) K6)
   . go_upto_region 12 with fail;refine wp_region_lit ?_;refine Ag rfl 89 (.tmp 7) rfl (w.heap.size+1+1+1) rfl (AF xs xp xz) H.out.X Tryz.underlying89 rfl Af ?_;refine Ah rfl 89 (.tmp 6) (.tmp 37) rfl (w.heap.size+1+1) rfl (AF xs xp xz) rfl _ H.out.D (by simp) Af rfl ?_;intro w6 K6 N6;go_wp2;exact bodyPost_ret (v:=BK xs xp xz) (Ai rfl (w.heap.size+1+1) rfl (AF xs xp xz) N6 Tryz.underlying89 rfl Af) rfl (NW.out H.out (by omega) K6)
 have d0:(c0==0)=false:=beq_eq_false_iff_ne.2 e0;have d1:(c0==1)=false:=beq_eq_false_iff_ne.2 e1;have d2:(c0==2)=false:=beq_eq_false_iff_ne.2 e2;have d3:(c0==3)=false:=beq_eq_false_iff_ne.2 e3;clear e0 e1 e2 e3;have C:=fun W=>BZ i t x y A n c G m kk fp fq fs fz b s0 p0 z0 0 1 false W b0 b3 s1 s2;generalize Er b s0 0 1 false=bb at *;replace C:=hid C;obtain⟨Lc0,Lc1,Lc2,Lc3,Lc4,Lc5,Lc6,Lc7,Lc8,Lc9,Lc10⟩:=Bb H.out.L;have Ll:=H.out.L.lt;obtain⟨Qc0,Qc1,Qc2⟩:=BL H.out.Q;have Ql:=H.out.Q.lt;obtain⟨Xc0,Xc1,Xc2⟩:=BL H.out.X;have Xl:=H.out.X.lt;go_wp2_with fail;refine(C.out _).mono ?_;rintro e w5 ⟨rfl,S⟩
 replace H:=hid (H.out.step S);clear S C Lc0 Lc1 Lc2 Lc3 Lc4 Lc5 Lc6 Lc7 Lc8 Lc9 Lc10 Ll Qc0 Qc1 Qc2 Ql Xc0 Xc1 Xc2 Xl;cases bb
 . go_wp2_with (refine Ah rfl 89 (.tmp 6) (.tmp 36) rfl (w.heap.size+1+1) rfl (AF 0 1 false) rfl _ H.out.D (by simp) Af rfl ?_);intro w6 K6 N6;go_wp2;exact bodyPost_ret (v:=BK 0 1 false) (Ai rfl (w.heap.size+1+1) rfl (AF 0 1 false) N6 Tryz.underlying89 rfl Af) rfl (NW.out H.out (by omega) K6)
 . go_upto_region 12 with fail;refine wp_region_lit ?_;refine Ag rfl 89 (.tmp 7) rfl (w.heap.size+1+1+1) rfl (AF 0 1 false) H.out.X Tryz.underlying89 rfl Af ?_;refine Ah rfl 89 (.tmp 6) (.tmp 37) rfl (w.heap.size+1+1) rfl (AF 0 1 false) rfl _ H.out.D (by simp) Af rfl ?_;intro w6 K6 N6;go_wp2;exact bodyPost_ret (v:=BK 0 1 false) (Ai rfl (w.heap.size+1+1) rfl (AF 0 1 false) N6 Tryz.underlying89 rfl Af) rfl (NW.out H.out (by omega) K6)
end Go.Proofs.YtgbiagonfbnooaaGreatDoor
namespace Go.Proofs.YtgbiagonfbnooaaGreatDoor
open Go.RowKit
open Go.RowKit
theorem RdU.ne{B:Nat}{w:World}{r:Nat}{k:Int}(R:RdU B w r k):w.heap.size≠r:=by have:=R.here; have:=R.base; omega
theorem Kept.sets{r:Nat}{w a:World}(h:Kept r w a){b:Nat}(hb:w.heap.size<=b)(v0 v1 v2 v3:Value):Kept r w ((((a.setCell ⟨b,0,none⟩ v0).setCell ⟨b,1,none⟩ v1).setCell ⟨b,2,none⟩ v2).setCell ⟨b,3,none⟩ v3):=(((h.set _ _ _ hb).set _ _ _ hb).set _ _ _ hb).set _ _ _ hb
theorem RdU.sets{B:Nat}{w:World}{r:Nat}{k:Int}(R:RdU B w r k){b:Nat}(hb:B<=b)(v0 v1 v2 v3:Value):RdU B ((((w.setCell ⟨b,0,none⟩ v0).setCell ⟨b,1,none⟩ v1).setCell ⟨b,2,none⟩ v2).setCell ⟨b,3,none⟩ v3) r k:=(((R.set _ _ _ hb).set _ _ _ hb).set _ _ _ hb).set _ _ _ hb
theorem AU{W:World}{b:Nat}{x y:Int}(h:PCell W b x y):W.cell? ⟨b,0,none⟩=some (.int .i64 x)/\W.cell? ⟨b,1,none⟩=some (.int .i64 y):=⟨h.c0,h.c1⟩
end Go.Proofs.YtgbiagonfbnooaaGreatDoor
