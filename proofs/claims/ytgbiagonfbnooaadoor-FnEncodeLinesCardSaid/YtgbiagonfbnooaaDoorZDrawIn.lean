import Derived.Deep.DeepCutAuto
import Derived.Test.YtgbiagonfbnooaaDoorZInRow
set_option linter.all false
set_option maxRecDepth 100000
set_option maxHeartbeats 8000000
open Go.Lib
namespace Go.Proofs.YtgbiagonfbnooaaDoor
open Go.RowKit
open M
open Go.RowKit
open M
open Go.RowKit
open M
open Go.RowKit
open M
def Gr(B:Nat)(r:Nat)(k:Int)(w:World)(e:Ending)(w':World):Prop :=
 ∃(s p:Int) (z:Bool),((-3<=s/\s<=3)/\(-3<=p/\p<=5))/\e=.returned (Bw s p z)/\RdU B w' r (k+4)/\Kept r w w'
theorem Ae:(Tryd.prog.info? 89).map (·.size)=some 3:=by kernel_rfl
theorem Lx{n:Int}(h0:0<=n)(h1:n<10):(-3<=Hk n/\Hk n<=3)/\(-3<=Hl n/\Hl n<=5):=by
 unfold Hk Hl;split<;>omega
structure IW(B r:Nat)(w:World)(xb:Nat)(vs:List Value)(k:Int)(W:World):Prop where
 X:CellsAt W xb vs
 D:CellsAt W w.heap.size (AD 0 0 false)
 R:RdU B W r k
 K:Kept r w W
 lo:w.heap.size<xb
 bw:B<=w.heap.size
 rB:r<B
theorem IW.kept{B r:Nat}{w:World}{xb:Nat}{vs:List Value}{k:Int}{W:World}{k':Int}{W':World}(h:IW B r w xb vs k W)(K:Kept r W W')(R:RdU B W' r k'):IW B r w xb vs k' W':=by
 have h1:=h.lo; have h2:=h.bw; have h3:=h.rB;exact⟨h.X.kept K (by omega),h.D.kept K (by omega),R,h.K.trans K,h1,h2,h3⟩
theorem IW.set{B r:Nat}{w:World}{xb:Nat}{vs:List Value}{k:Int}{W:World}(h:IW B r w xb vs k W)(o:Nat)(ho:o<vs.length)(v:Value):IW B r w xb (vs.set o v) k (W.setCell ⟨xb,o,none⟩ v):=by
 have h1:=h.lo; have h2:=h.bw; have h3:=h.rB;exact⟨h.X.set o ho v,h.D.far (by omega) _ _,h.R.set _ _ _ (by omega),h.K.set _ _ _ (by omega),h1,h2,h3⟩
theorem IW.out{B r:Nat}{w:World}{xb:Nat}{vs:List Value}{k:Int}{W:World}{k0:Int}{s p:Int}{z:Bool}{W':World}(h:IW B r w xb vs k W)(hk:k<=k0+4)(hb:(-3<=s/\s<=3)/\(-3<=p/\p<=5))(K:Kept w.heap.size W W'):Gr B r k0 w (.returned (Bw s p z)) W':=by
 have h1:=h.lo; have h2:=h.bw; have h3:=h.rB; have h4:=h.K.size;exact⟨s,p,z,hb,rfl,(h.R.mono hk).below (K.below (by omega) (by omega)),K.os.trans h.K.os,K.tape.trans h.K.tape,K.output.trans h.K.output,Nat.le_trans h4 K.size,fun j hj hr=>(K.block j (by omega) (by omega)).trans (h.K.block j hj hr)⟩
theorem Fg{B:Nat}(r:Nat)(k:Int)(w:World)(R:RdU B w r k)(hk:k<=90000) :
 Calls Tryd.prog 70 #[.pointer (some ⟨r,0,none⟩)] w (Gr B r k w):=by
 have hr:=R.here;have hB:=R.base;have D0:CellsAt (w.alloc (.cells #[.int .i64 0,.int .i64 0,.bool false] 89)) w.heap.size (AD 0 0 false):=CellsAt.new w _ _ _ rfl;go_enter Tryd.func70,Tryd.ntmps70;go_wp2_with fail;refine(Aj r 10 k _ (R.alloc _) (by omega) (by omega) (by omega)).mono ?_;rintro e w1 ⟨n,⟨n0,n1⟩,rfl,R1,K1⟩;have D1:=D0.kept K1 (by omega);have J1:=hid (((Kept.refl r w).alloc _).trans K1);have R1:=hid R1;clear K1 R D0;go_wp2_with fail;refine(GB n _).mono ?_;rintro e w2 ⟨rfl,B2⟩;have l1:=D1.lt;have z2:=B2.size
 have H2:IW B r w w2.heap.size (AD (Hk n) (Hl n) (JF n)) (k+1) (w2.alloc (.cells #[.int .i64 (Hk n),.int .i64 (Hl n),.bool (JF n)] 89)) :=
  ⟨CellsAt.new _ _ _ _ rfl,(D1.step B2).alloc _,(R1.out.below (B2.mono R1.out.base)).alloc _,(J1.out.trans (Kept.of_below B2)).alloc _,by omega,hB,hr⟩
 have H2:=hid H2;have hb:=Lx n0 n1;clear B2 R1 D1 J1;generalize Hk n=s at *;generalize Hl n=p at *;generalize JF n=z at *;go_wp2_with fail;refine(Aj r 24 _ _ H2.out.R (by omega) (by omega) (by omega)).mono ?_;rintro e w3 ⟨c,⟨c0,c1⟩,rfl,R3,K3⟩;have H3:=hid (H2.out.kept K3 R3);clear R3 K3 H2;by_cases e0:c=0
 . subst e0;go_wp2_with fail;refine(Aj r 5 _ _ H3.out.R (by omega) (by omega) (by omega)).mono ?_;rintro e w4 ⟨v,⟨v0,v1⟩,rfl,R4,K4⟩;have H4:=hid (H3.out.kept K4 R4);clear R4 K4 H3;have xc:=H4.out.X.cell 0 _ rfl;have xf:=H4.out.X.fr 0;have xl:=H4.out.X.lt;go_upto_region 9 with fail;refine wp_region_lit ?_;refine Af rfl 89 (.tmp 3) rfl w2.heap.size rfl (AD (v-2) p z) (H4.out.set 0 (by simp) (.int .i64 (v-2))).X Tryd.underlying89 rfl Ae ?_;refine Ah rfl 89 (.tmp 2) (.tmp 28) rfl w.heap.size rfl (AD (v-2) p z) rfl _ (H4.out.set 0 (by simp) (.int .i64 (v-2))).D (by simp) Ae rfl ?_;intro w9 K9 D9;go_wp2
   exact bodyPost_ret (v:=Bw (v-2) p z) (Ag rfl w.heap.size rfl (AD (v-2) p z) D9 Tryd.underlying89 rfl Ae) rfl (IW.out (H4.out.set 0 (by simp) (.int .i64 (v-2))) (by omega) (by omega) K9)
 by_cases e1:c=1
 . subst e1;go_wp2_with fail;refine(Aj r 5 _ _ H3.out.R (by omega) (by omega) (by omega)).mono ?_;rintro e w4 ⟨v,⟨v0,v1⟩,rfl,R4,K4⟩;have H4:=hid (H3.out.kept K4 R4);clear R4 K4 H3;have xc:=H4.out.X.cell 1 _ rfl;have xf:=H4.out.X.fr 1;have xl:=H4.out.X.lt;go_upto_region 9 with fail;refine wp_region_lit ?_;refine Af rfl 89 (.tmp 3) rfl w2.heap.size rfl (AD s (v-1) z) (H4.out.set 1 (by simp) (.int .i64 (v-1))).X Tryd.underlying89 rfl Ae ?_;refine Ah rfl 89 (.tmp 2) (.tmp 28) rfl w.heap.size rfl (AD s (v-1) z) rfl _ (H4.out.set 1 (by simp) (.int .i64 (v-1))).D (by simp) Ae rfl ?_;intro w9 K9 D9;go_wp2
   exact bodyPost_ret (v:=Bw s (v-1) z) (Ag rfl w.heap.size rfl (AD s (v-1) z) D9 Tryd.underlying89 rfl Ae) rfl (IW.out (H4.out.set 1 (by simp) (.int .i64 (v-1))) (by omega) (by omega) K9)
 by_cases e2:c=2
 . subst e2;have xc:=H3.out.X.cell 2 _ rfl;have xf:=H3.out.X.fr 2;have xl:=H3.out.X.lt;go_upto_region 9 with fail;refine wp_region_lit ?_;refine Af rfl 89 (.tmp 3) rfl w2.heap.size rfl (AD s p true) (H3.out.set 2 (by simp) (.bool true)).X Tryd.underlying89 rfl Ae ?_;refine Ah rfl 89 (.tmp 2) (.tmp 28) rfl w.heap.size rfl (AD s p true) rfl _ (H3.out.set 2 (by simp) (.bool true)).D (by simp) Ae rfl ?_;intro w9 K9 D9;go_wp2;exact bodyPost_ret (v:=Bw s p true) (Ag rfl w.heap.size rfl (AD s p true) D9 Tryd.underlying89 rfl Ae) rfl (IW.out (H3.out.set 2 (by simp) (.bool true)) (by omega) (by omega) K9)
 have d0:(c==0)=false:=beq_eq_false_iff_ne.2 e0;have d1:(c==1)=false:=beq_eq_false_iff_ne.2 e1;have d2:(c==2)=false:=beq_eq_false_iff_ne.2 e2;clear e0 e1 e2;go_upto_region 9 with fail;refine wp_region_lit ?_;refine Af rfl 89 (.tmp 3) rfl w2.heap.size rfl (AD s p z) (H3.out).X Tryd.underlying89 rfl Ae ?_;refine Ah rfl 89 (.tmp 2) (.tmp 28) rfl w.heap.size rfl (AD s p z) rfl _ (H3.out).D (by simp) Ae rfl ?_;intro w9 K9 D9;go_wp2;exact bodyPost_ret (v:=Bw s p z) (Ag rfl w.heap.size rfl (AD s p z) D9 Tryd.underlying89 rfl Ae) rfl (IW.out (H3.out) (by omega) (by omega) K9)
end Go.Proofs.YtgbiagonfbnooaaDoor
namespace Go.Proofs.YtgbiagonfbnooaaDoor
open Go.RowKit
open Go.RowKit
theorem RdU.ne{B:Nat}{w:World}{r:Nat}{k:Int}(R:RdU B w r k):w.heap.size≠r:=by have:=R.here; have:=R.base; omega
theorem AQ{W:World}{b:Nat}{x y:Int}(h:PCell W b x y):W.cell? ⟨b,0,none⟩=some (.int .i64 x)/\W.cell? ⟨b,1,none⟩=some (.int .i64 y):=⟨h.c0,h.c1⟩
open Go.RowKit
open Go.RowKit
open M
open Go.RowKit
open M
end Go.Proofs.YtgbiagonfbnooaaDoor
