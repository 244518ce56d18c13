import Derived.Test.YtkpogcflgghfiaaDoorZLevS
import Derived.Deep.MidRow
import Derived.Test.YtkpogcflgghfiaaDoorZInS
import Derived.Test.YtkpogcflgghfiaaDoorZRdS
import Derived.Deep.DeepCutAuto
set_option linter.all false
set_option maxRecDepth 100000
set_option maxHeartbeats 8000000
open Go.Lib
namespace Go.Proofs.YtkpogcflgghfiaaDoor
open Go.RowKit
theorem CellsAt.range {W:World} {b:Nat} {vs:List Value} (h:CellsAt W b vs):W.rangeAt b 0 vs:=fun j v hj=>by rw [Nat.zero_add]; exact h.cell j v hj
theorem CellsAt.there {W:World} {b:Nat} {vs:List Value} (h:CellsAt W b vs) {n:Nat} (hn:n≤vs.length):W.there b 0 n:=fun j hj=>by
 rw [Nat.zero_add];exact ⟨by rw [h.cell j _ (List.getElem?_eq_getElem (by omega))]; rfl,h.fr j⟩
theorem N3 {b:Nat} {W A:World} (h:Kept b W A) (o:Nat) (v:Value):Kept b W (A.setCell ⟨b,o,none⟩ v):=h.trans (Kept.step A b v o 0)
theorem El {b:Nat} {W:World}:∀ (vs:List Value) (o:Nat) {A:World},Kept b W A→Kept b W (A.setCells b o vs)
 | [],_,_,h=>h
 | v::vs,o,_,h=>El vs (o+1) (N3 h o v)
theorem CellsAt.all {W:World} {b:Nat} {us:List Value} (h:CellsAt W b us) (vs:List Value) (hl:vs.length≤us.length):CellsAt (W.setCells b 0 vs) b vs :=
 ⟨fun j v hj=>by have:=World.rangeAt_setCells_same W b 0 vs (h.there hl) j v hj; rwa [Nat.zero_add] at this,fun j=>by rw [World.frozen?_setCells]; exact h.fr j,Nat.lt_of_lt_of_le h.lt (El vs 0 (Kept.refl b W)).size⟩
theorem Kept.sets' {r:Nat} {w a:World} (h:Kept r w a) {b:Nat} (hb:w.heap.size≤b) (o:Nat) (vs:List Value):Kept r w (a.setCells b o vs) :=
 have K:=El vs o (Kept.refl b a)
 ⟨K.os.trans h.os,K.tape.trans h.tape,K.output.trans h.output,Nat.le_trans h.size K.size,fun j hj hr=>(K.block j (Nat.lt_of_lt_of_le hj h.size) (by omega)).trans (h.block j hj hr)⟩
theorem RdU.sets' {B:Nat} {w:World} {r:Nat} {k:Int} (R:RdU B w r k) {b:Nat} (hb:B≤b) (o:Nat) (vs:List Value):RdU B (w.setCells b o vs) r k :=
 R.below ((El vs o (Kept.refl b w)).below R.base hb)
theorem Af {P:Program} {ops:Array Oper} {rest:List Oper} {o:Oper} {a:Act} {w:World} {Q:Exit→Act→World→Prop} (hgd:o.guard=none) (ty:TypeId) (x:Operand) (ho:o.op=.load ty x)
 (b:Nat) (hx:a.eval x=.pointer (some ⟨b,0,none⟩)) (vs:List Value) (L:CellsAt w b vs) {d:TypeDesc} (hu:P.underlying ty=some d) (hd:d.isRow=true) (hi:(P.info? ty).map (·.size)=some vs.length)
 (h:wpList P ops Q rest (a.put o.dst (.agg vs.toArray)) w):wpList P ops Q (o::rest) a w :=
 wpList_load_mid hgd ty x ho b 0 hx vs d L.range hu hd hi h
theorem Bq {P:Program} {ops:Array Oper} {rest:List Oper} {o:Oper} {a:Act} {w:World} {Q:Exit→Act→World→Prop} (hgd:o.guard=none) (ty:TypeId) (x y:Operand) (ho:o.op=.store ty x y)
 (b:Nat) (hx:a.eval x=.pointer (some ⟨b,0,none⟩)) (vs:List Value) (hy:a.eval y=.agg vs.toArray) (us:List Value) (D:CellsAt w b us) (hl:vs.length≤us.length) (hi:(P.info? ty).map (·.size)=some vs.length) (h1:vs.all (·.oneCell')=true)
 (h:wpList P ops Q rest (a.put o.dst undef) (w.setCells b 0 vs)):wpList P ops Q (o::rest) a w :=
 wpList_store_mid hgd ty x y ho b 0 vs.toArray hx hy (by simpa using D.there hl) (by simpa using hi) (by rw [List.all_toArray]; exact h1) (by simpa using h)
theorem M3 {P:Program} {ops:Array Oper} {o:Oper} {a:Act} {w:World} {K:Act→World→Prop} {Q:Exit→Act→World→Prop} {E:Prop} (hgd:o.guard=none) (ty:TypeId) (x y:Operand) (ho:o.op=.store ty x y)
 (b:Nat) (hx:a.eval x=.pointer (some ⟨b,0,none⟩)) (vs:List Value) (hy:a.eval y=.agg vs.toArray) (us:List Value) (D:CellsAt w b us) (hl:vs.length≤us.length) (hi:(P.info? ty).map (·.size)=some vs.length) (h1:vs.all (·.oneCell')=true)
 (h:K (a.put o.dst undef) (w.setCells b 0 vs)):if Region.wanted o (yielded ops a.tmps)=true then Oper.wp P o a w K Q else E:=by
 have hw:Region.wanted o (yielded ops a.tmps)=true:=by simp [Region.wanted,hgd]
 rw [if_pos hw];exact wp_store_mid ty x y ho b 0 vs.toArray hx hy (by simpa using D.there hl) (by simpa using hi) (by rw [List.all_toArray]; exact h1) (by simpa using h)
theorem CellsAt.farAll {W:World} {b:Nat} {vs:List Value} (h:CellsAt W b vs) {b':Nat} (hne:b≠b') (o:Nat) (us:List Value):CellsAt (W.setCells b' o us) b vs:=h.kept (El us o (Kept.refl b' W)) hne
theorem PCell.farAll {W:World} {b:Nat} {x y:Int} (h:PCell W b x y) {b':Nat} (hne:b≠b') (o:Nat) (us:List Value):PCell (W.setCells b' o us) b x y:=h.kept (El us o (Kept.refl b' W)) hne
theorem Aj {P:Program} {fn:Func} {p:Tmp} {ty:TypeId} {tmps:Array Value} {w:World} (h:fn.results=#[.cell p ty]) (b:Nat) (hp:tmps[p]?.getD undef=.pointer (some ⟨b,0,none⟩)) (vs:List Value) (L:CellsAt w b vs) {d:TypeDesc}
 (hu:P.underlying ty=some d) (hd:d.isRow=true) (hi:(P.info? ty).map (·.size)=some vs.length):(results fn tmps).run P w=.ok (.agg vs.toArray) w:=by
 simp [results,h,hp,asAddr,run_loadVar_mid w b 0 ty vs d L.range hu hd hi]
theorem RX {P:Program} {fn:Func} {p p':Tmp} {ty ty':TypeId} {tmps:Array Value} {w:World} (h:fn.results=#[.cell p ty,.cell p' ty']) (b b':Nat) (hp:tmps[p]?.getD undef=.pointer (some ⟨b,0,none⟩)) (hp':tmps[p']?.getD undef=.pointer (some ⟨b',0,none⟩)) (vs us:List Value) (L:CellsAt w b vs) (L':CellsAt w b' us) {d d':TypeDesc}
 (hu:P.underlying ty=some d) (hd:d.isRow=true) (hi:(P.info? ty).map (·.size)=some vs.length) (hu':P.underlying ty'=some d') (hd':d'.isRow=true) (hi':(P.info? ty').map (·.size)=some us.length):(results fn tmps).run P w=.ok (.tuple #[.agg vs.toArray,.agg us.toArray]) w:=by
 simp [results,h,hp,hp',asAddr,run_loadVar_mid w b 0 ty vs d L.range hu hd hi,run_loadVar_mid w b' 0 ty' us d' L'.range hu' hd' hi']
theorem A4 {P:Program} {fn:Func} {p q:Tmp} {ty:TypeId} {tmps:Array Value} {w:World} (h:fn.results=#[.cell p ty,.tmp q]) (b:Nat) (hp:tmps[p]?.getD undef=.pointer (some ⟨b,0,none⟩)) (vs:List Value) (L:CellsAt w b vs) (v:Value) (hq:tmps[q]?.getD undef=v) {d:TypeDesc}
 (hu:P.underlying ty=some d) (hd:d.isRow=true) (hi:(P.info? ty).map (·.size)=some vs.length):(results fn tmps).run P w=.ok (.tuple #[.agg vs.toArray,v]) w:=by
 simp [results,h,hp,hq,asAddr,run_loadVar_mid w b 0 ty vs d L.range hu hd hi]
theorem BW:(Tryd.prog.info? 24).map (·.size)=some 2:=by kernel_rfl
theorem Ag:(Tryd.prog.info? 29).map (·.size)=some 11:=by kernel_rfl
end Go.Proofs.YtkpogcflgghfiaaDoor
namespace Go.Proofs.YtkpogcflgghfiaaDoor
open Go.RowKit
theorem Hg {P:Program} {o:Oper} {a:Act} {w:World} {K:Act→World→Prop} {Q:Exit→Act→World→Prop} (ty:TypeId) (x y:Operand) (ho:o.op=.store ty x y)
 (b:Nat) (hx:a.eval x=.pointer (some ⟨b,0,none⟩)) (vs:List Value) (hy:a.eval y=.agg vs.toArray) (us:List Value) (D:CellsAt w b us) (hl:vs.length≤us.length) (hi:(P.info? ty).map (·.size)=some vs.length) (h1:vs.all (·.oneCell')=true)
 (h:K (a.put o.dst undef) (w.setCells b 0 vs)):o.wp P a w K Q :=
 wp_store_mid ty x y ho b 0 vs.toArray hx hy (by simpa using D.there hl) (by simpa using hi) (by rw [List.all_toArray]; exact h1) (by simpa using h)
theorem An {P:Program} {o:Oper} {a:Act} {w:World} {K:Act→World→Prop} {Q:Exit→Act→World→Prop} (ty:TypeId) (x y:Operand) (ho:o.op=.store ty x y)
 (b:Nat) (hx:a.eval x=.pointer (some ⟨b,0,none⟩)) (vs:List Value) (hy:a.eval y=.agg vs.toArray) (us:List Value) (D:CellsAt w b us) (hl:vs.length≤us.length) (hi:(P.info? ty).map (·.size)=some vs.length) (h1:vs.all (·.oneCell')=true)
 (h:∀ w',Kept b w w'→CellsAt w' b vs→K (a.put o.dst undef) w'):o.wp P a w K Q :=
 Hg ty x y ho b hx vs hy us D hl hi h1 (h _ (El vs 0 (Kept.refl b w)) (D.all vs hl))
theorem Ah {P:Program} {ops:Array Oper} {rest:List Oper} {o:Oper} {a:Act} {w:World} {Q:Exit→Act→World→Prop} (hgd:o.guard=none) (ty:TypeId) (x y:Operand) (ho:o.op=.store ty x y)
 (b:Nat) (hx:a.eval x=.pointer (some ⟨b,0,none⟩)) (vs:List Value) (hy:a.eval y=.agg vs.toArray) (us:List Value) (D:CellsAt w b us) (hl:vs.length≤us.length) (hi:(P.info? ty).map (·.size)=some vs.length) (h1:vs.all (·.oneCell')=true)
 (h:∀ w',Kept b w w'→CellsAt w' b vs→wpList P ops Q rest (a.put o.dst undef) w'):wpList P ops Q (o::rest) a w :=
 Bq hgd ty x y ho b hx vs hy us D hl hi h1 (h _ (El vs 0 (Kept.refl b w)) (D.all vs hl))
end Go.Proofs.YtkpogcflgghfiaaDoor
namespace Go.Proofs.YtkpogcflgghfiaaDoor
open Go.RowKit
open M
def L5 (B:Nat) (r:Nat) (k:Int) (w:World) (e:Ending) (w':World):Prop :=
 ∃ (s p:Int) (z:Bool),((-3≤s∧s≤3)∧(-3≤p∧p≤5))∧e=.returned (Dx s p z)∧RdU B w' r (k+4)∧Kept r w w'
theorem Aq:(Tryd.prog.info? 39).map (·.size)=some 3:=by kernel_rfl
theorem Tv {n:Int} (h0:0≤n) (h1:n<10):(-3≤Qg n∧Qg n≤3)∧(-3≤Qh n∧Qh n≤5):=by
 unfold Qg Qh;split<;>omega
structure IW (B r:Nat) (w:World) (xb:Nat) (vs:List Value) (k:Int) (W:World):Prop where
 X:CellsAt W xb vs
 D:CellsAt W w.heap.size (ins 0 0 false)
 R:RdU B W r k
 K:Kept r w W
 lo:w.heap.size<xb
 bw:B≤w.heap.size
 rB:r<B
theorem IW.kept {B r:Nat} {w:World} {xb:Nat} {vs:List Value} {k:Int} {W:World} {k':Int} {W':World} (h:IW B r w xb vs k W) (K:Kept r W W') (R:RdU B W' r k'):IW B r w xb vs k' W':=by
 have h1:=h.lo; have h2:=h.bw; have h3:=h.rB;exact ⟨h.X.kept K (by omega),h.D.kept K (by omega),R,h.K.trans K,h1,h2,h3⟩
theorem IW.set {B r:Nat} {w:World} {xb:Nat} {vs:List Value} {k:Int} {W:World} (h:IW B r w xb vs k W) (o:Nat) (ho:o<vs.length) (v:Value):IW B r w xb (vs.set o v) k (W.setCell ⟨xb,o,none⟩ v):=by
 have h1:=h.lo; have h2:=h.bw; have h3:=h.rB;exact ⟨h.X.set o ho v,h.D.far (by omega) _ _,h.R.set _ _ _ (by omega),h.K.set _ _ _ (by omega),h1,h2,h3⟩
theorem IW.out {B r:Nat} {w:World} {xb:Nat} {vs:List Value} {k:Int} {W:World} {k0:Int} {s p:Int} {z:Bool} {W':World} (h:IW B r w xb vs k W) (hk:k≤k0+4) (hb:(-3≤s∧s≤3)∧(-3≤p∧p≤5)) (K:Kept w.heap.size W W'):L5 B r k0 w (.returned (Dx s p z)) W':=by
 have h1:=h.lo; have h2:=h.bw; have h3:=h.rB; have h4:=h.K.size;exact ⟨s,p,z,hb,rfl,(h.R.mono hk).below (K.below (by omega) (by omega)),K.os.trans h.K.os,K.tape.trans h.K.tape,K.output.trans h.K.output,Nat.le_trans h4 K.size,fun j hj hr=>(K.block j (by omega) (by omega)).trans (h.K.block j hj hr)⟩
theorem Dp {B:Nat} (r:Nat) (k:Int) (w:World) (R:RdU B w r k) (hk:k≤90000) :
 Calls Tryd.prog 29 #[.pointer (some ⟨r,0,none⟩)] w (L5 B r k w):=by
 have hr:=R.here;have hB:=R.base;have D0:CellsAt (w.alloc (.cells #[.int .i64 0,.int .i64 0,.bool false] 39)) w.heap.size (ins 0 0 false):=CellsAt.new w _ _ _ rfl;go_enter Tryd.func29,Tryd.ntmps29;go_wp2_with fail;refine (Av r 10 k _ (R.alloc _) (by omega) (by omega) (by omega)).mono ?_;rintro e w1 ⟨n,⟨n0,n1⟩,rfl,R1,K1⟩;have D1:=D0.kept K1 (by omega);have J1:=hid (((Kept.refl r w).alloc _).trans K1);have R1:=hid R1;clear K1 R D0;go_wp2_with fail;refine (Mj n _).mono ?_;rintro e w2 ⟨rfl,B2⟩;have l1:=D1.lt;have z2:=B2.size
 have H2:IW B r w w2.heap.size (ins (Qg n) (Qh n) (Sp n)) (k+1) (w2.alloc (.cells #[.int .i64 (Qg n),.int .i64 (Qh n),.bool (Sp n)] 39)) :=
  ⟨CellsAt.new _ _ _ _ rfl,(D1.step B2).alloc _,(R1.out.below (B2.mono R1.out.base)).alloc _,(J1.out.trans (Kept.of_below B2)).alloc _,by omega,hB,hr⟩
 have H2:=hid H2;have hb:=Tv n0 n1;clear B2 R1 D1 J1;generalize Qg n=s at *;generalize Qh n=p at *;generalize Sp n=z at *;go_wp2_with fail;refine (Av r 24 _ _ H2.out.R (by omega) (by omega) (by omega)).mono ?_;rintro e w3 ⟨c,⟨c0,c1⟩,rfl,R3,K3⟩;have H3:=hid (H2.out.kept K3 R3);clear R3 K3 H2;by_cases e0:c=0
 · subst e0;go_wp2_with fail;refine (Av r 5 _ _ H3.out.R (by omega) (by omega) (by omega)).mono ?_;rintro e w4 ⟨v,⟨v0,v1⟩,rfl,R4,K4⟩;have H4:=hid (H3.out.kept K4 R4);clear R4 K4 H3;have xc:=H4.out.X.cell 0 _ rfl;have xf:=H4.out.X.fr 0;have xl:=H4.out.X.lt;go_upto_region 9 with fail;refine wp_region_lit ?_;refine Af rfl 39 (.tmp 3) rfl w2.heap.size rfl (ins (v-2) p z) (H4.out.set 0 (by simp) (.int .i64 (v-2))).X Tryd.underlying39 rfl Aq ?_;refine Ah rfl 39 (.tmp 2) (.tmp 28) rfl w.heap.size rfl (ins (v-2) p z) rfl _ (H4.out.set 0 (by simp) (.int .i64 (v-2))).D (by simp) Aq rfl ?_;intro w9 K9 D9;go_wp2
   exact bodyPost_ret (v:=Dx (v-2) p z) (Aj rfl w.heap.size rfl (ins (v-2) p z) D9 Tryd.underlying39 rfl Aq) rfl (IW.out (H4.out.set 0 (by simp) (.int .i64 (v-2))) (by omega) (by omega) K9)
 by_cases e1:c=1
 · subst e1;go_wp2_with fail;refine (Av r 5 _ _ H3.out.R (by omega) (by omega) (by omega)).mono ?_;rintro e w4 ⟨v,⟨v0,v1⟩,rfl,R4,K4⟩;have H4:=hid (H3.out.kept K4 R4);clear R4 K4 H3;have xc:=H4.out.X.cell 1 _ rfl;have xf:=H4.out.X.fr 1;have xl:=H4.out.X.lt;go_upto_region 9 with fail;refine wp_region_lit ?_;refine Af rfl 39 (.tmp 3) rfl w2.heap.size rfl (ins s (v-1) z) (H4.out.set 1 (by simp) (.int .i64 (v-1))).X Tryd.underlying39 rfl Aq ?_;refine Ah rfl 39 (.tmp 2) (.tmp 28) rfl w.heap.size rfl (ins s (v-1) z) rfl _ (H4.out.set 1 (by simp) (.int .i64 (v-1))).D (by simp) Aq rfl ?_;intro w9 K9 D9;go_wp2
   exact bodyPost_ret (v:=Dx s (v-1) z) (Aj rfl w.heap.size rfl (ins s (v-1) z) D9 Tryd.underlying39 rfl Aq) rfl (IW.out (H4.out.set 1 (by simp) (.int .i64 (v-1))) (by omega) (by omega) K9)
 by_cases e2:c=2
 · subst e2;have xc:=H3.out.X.cell 2 _ rfl;have xf:=H3.out.X.fr 2;have xl:=H3.out.X.lt;go_upto_region 9 with fail;refine wp_region_lit ?_;refine Af rfl 39 (.tmp 3) rfl w2.heap.size rfl (ins s p true) (H3.out.set 2 (by simp) (.bool true)).X Tryd.underlying39 rfl Aq ?_;refine Ah rfl 39 (.tmp 2) (.tmp 28) rfl w.heap.size rfl (ins s p true) rfl _ (H3.out.set 2 (by simp) (.bool true)).D (by simp) Aq rfl ?_;intro w9 K9 D9;go_wp2;exact bodyPost_ret (v:=Dx s p true) (Aj rfl w.heap.size rfl (ins s p true) D9 Tryd.underlying39 rfl Aq) rfl (IW.out (H3.out.set 2 (by simp) (.bool true)) (by omega) (by omega) K9)
 have d0:(c==0)=false:=beq_eq_false_iff_ne.2 e0;have d1:(c==1)=false:=beq_eq_false_iff_ne.2 e1;have d2:(c==2)=false:=beq_eq_false_iff_ne.2 e2;clear e0 e1 e2;go_upto_region 9 with fail;refine wp_region_lit ?_;refine Af rfl 39 (.tmp 3) rfl w2.heap.size rfl (ins s p z) (H3.out).X Tryd.underlying39 rfl Aq ?_;refine Ah rfl 39 (.tmp 2) (.tmp 28) rfl w.heap.size rfl (ins s p z) rfl _ (H3.out).D (by simp) Aq rfl ?_;intro w9 K9 D9;go_wp2;exact bodyPost_ret (v:=Dx s p z) (Aj rfl w.heap.size rfl (ins s p z) D9 Tryd.underlying39 rfl Aq) rfl (IW.out (H3.out) (by omega) (by omega) K9)
end Go.Proofs.YtkpogcflgghfiaaDoor
