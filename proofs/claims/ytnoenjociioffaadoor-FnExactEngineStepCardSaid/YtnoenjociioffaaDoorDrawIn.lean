/-
  The inputs that the model draws: whatever they are, nothing that was there before the call is written, but the reader.
-/
import Derived.Test.YtnoenjociioffaaDoorInS
import Derived.Test.YtnoenjociioffaaDoorRdS
import Derived.Test.YtnoenjociioffaaDoorCelS
import Derived.Deep.DeepCutAuto
namespace Go.Proofs.YtnoenjociioffaaDoor
open Go.RowKit
open M

/-- A drawn input. -/
def InDrawn (B : Nat) (r : Nat) (k : Int) (w : World) (e : Ending) (w' : World) : Prop :=
  ∃ (s p : Int) (z : Bool), ((-3 ≤ s ∧ s ≤ 3) ∧ (-3 ≤ p ∧ p ≤ 5)) ∧ e = .returned (inp s p z) ∧ RdU B w' r (k + 4) ∧ Kept r w w'
theorem input_size : (Tryd.prog.info? 33).map (·.size) = some 3 := by kernel_rfl
theorem of_bd {n : Int} (h0 : 0 ≤ n) (h1 : n < 10) : (-3 ≤ ofS n ∧ ofS n ≤ 3) ∧ (-3 ≤ ofP n ∧ ofP n ≤ 5) := by
  unfold ofS ofP
  split <;> omega
/-- An input under way: its variable xb, and the result's variable (the first block that the call made). -/
structure IW (B r : Nat) (w : World) (xb : Nat) (vs : List Value) (k : Int) (W : World) : Prop where
  X : CellsAt W xb vs
  D : CellsAt W w.heap.size (ins 0 0 false)
  R : RdU B W r k
  K : Kept r w W
  lo : w.heap.size < xb
  bw : B ≤ w.heap.size
  rB : r < B
theorem IW.kept {B r : Nat} {w : World} {xb : Nat} {vs : List Value} {k : Int} {W : World} {k' : Int} {W' : World} (h : IW B r w xb vs k W) (K : Kept r W W') (R : RdU B W' r k') : IW B r w xb vs k' W' := by
  have h1 := h.lo; have h2 := h.bw; have h3 := h.rB
  exact ⟨h.X.kept K (by omega), h.D.kept K (by omega), R, h.K.trans K, h1, h2, h3⟩
theorem IW.set {B r : Nat} {w : World} {xb : Nat} {vs : List Value} {k : Int} {W : World} (h : IW B r w xb vs k W) (o : Nat) (ho : o < vs.length) (v : Value) : IW B r w xb (vs.set o v) k (W.setCell ⟨xb, o, none⟩ v) := by
  have h1 := h.lo; have h2 := h.bw; have h3 := h.rB
  exact ⟨h.X.set o ho v, h.D.far (by omega) _ _, h.R.set _ _ _ (by omega), h.K.set _ _ _ (by omega), h1, h2, h3⟩
theorem IW.out {B r : Nat} {w : World} {xb : Nat} {vs : List Value} {k : Int} {W : World} {k0 : Int} {s p : Int} {z : Bool} {W' : World} (h : IW B r w xb vs k W) (hk : k ≤ k0 + 4) (hb : (-3 ≤ s ∧ s ≤ 3) ∧ (-3 ≤ p ∧ p ≤ 5)) (K : Kept w.heap.size W W') : InDrawn B r k0 w (.returned (inp s p z)) W' := by
  have h1 := h.lo; have h2 := h.bw; have h3 := h.rB; have h4 := h.K.size
  exact ⟨s, p, z, hb, rfl, (h.R.mono hk).below (K.below (by omega) (by omega)), K.os.trans h.K.os, K.tape.trans h.K.tape, K.output.trans h.K.output, Nat.le_trans h4 K.size, fun j hj hr => (K.block j (by omega) (by omega)).trans (h.K.block j hj hr)⟩

set_option maxRecDepth 100000 in
set_option maxHeartbeats 4000000 in
theorem input_drawn {B : Nat} (r : Nat) (k : Int) (w : World) (R : RdU B w r k) (hk : k ≤ 90000) :
    Calls Tryd.prog 44 #[.pointer (some ⟨r, 0, none⟩)] w (InDrawn B r k w) := by
  have hr := R.here
  have hB := R.base
  have D0 : CellsAt (w.alloc (.cells #[.int .i64 0, .int .i64 0, .bool false] 33)) w.heap.size (ins 0 0 false) := CellsAt.new w _ _ _ rfl
  go_enter Tryd.func44, Tryd.ntmps44
  go_wp2_with fail
  refine (pick_any r 10 k _ (R.alloc _) (by omega) (by omega) (by omega)).mono ?_
  rintro e w1 ⟨n, ⟨n0, n1⟩, rfl, R1, K1⟩
  have D1 := D0.kept K1 (by omega)
  have J1 := Lib.hid (((Kept.refl r w).alloc _).trans K1)
  have R1 := Lib.hid R1
  clear K1 R D0
  go_wp2_with fail
  refine (specIOf n _).mono ?_
  rintro e w2 ⟨rfl, B2⟩
  have l1 := D1.lt
  have z2 := B2.size
  have H2 : IW B r w w2.heap.size (ins (ofS n) (ofP n) (ofZ n)) (k + 1) (w2.alloc (.cells #[.int .i64 (ofS n), .int .i64 (ofP n), .bool (ofZ n)] 33)) :=
    ⟨CellsAt.new _ _ _ _ rfl, (D1.step B2).alloc _, (R1.out.below (B2.mono R1.out.base)).alloc _, (J1.out.trans (Kept.of_below B2)).alloc _, by omega, hB, hr⟩
  have H2 := Lib.hid H2
  have hb := of_bd n0 n1
  clear B2 R1 D1 J1
  generalize ofS n = s at *
  generalize ofP n = p at *
  generalize ofZ n = z at *
  go_wp2_with fail
  refine (pick_any r 24 _ _ H2.out.R (by omega) (by omega) (by omega)).mono ?_
  rintro e w3 ⟨c, ⟨c0, c1⟩, rfl, R3, K3⟩
  have H3 := Lib.hid (H2.out.kept K3 R3)
  clear R3 K3 H2
  by_cases e0 : c = 0
  · subst e0
    go_wp2_with fail
    refine (pick_any r 5 _ _ H3.out.R (by omega) (by omega) (by omega)).mono ?_
    rintro e w4 ⟨v, ⟨v0, v1⟩, rfl, R4, K4⟩
    have H4 := Lib.hid (H3.out.kept K4 R4)
    clear R4 K4 H3
    have xc := H4.out.X.cell 0 _ rfl
    have xf := H4.out.X.fr 0
    have xl := H4.out.X.lt
    go_upto_region 9 with fail
    refine wp_region_lit ?_
    refine load_cells rfl 33 (.tmp 3) rfl w2.heap.size rfl (ins (v - 2) p z) (H4.out.set 0 (by simp) (.int .i64 (v - 2))).X Tryd.underlying33 rfl input_size ?_
    refine store_new rfl 33 (.tmp 2) (.tmp 28) rfl w.heap.size rfl (ins (v - 2) p z) rfl _ (H4.out.set 0 (by simp) (.int .i64 (v - 2))).D (by simp) input_size rfl ?_
    intro w9 K9 D9
    go_wp2
    exact bodyPost_ret (v := inp (v - 2) p z) (res_cells rfl w.heap.size rfl (ins (v - 2) p z) D9 Tryd.underlying33 rfl input_size) rfl (IW.out (H4.out.set 0 (by simp) (.int .i64 (v - 2))) (by omega) (by omega) K9)
  by_cases e1 : c = 1
  · subst e1
    go_wp2_with fail
    refine (pick_any r 5 _ _ H3.out.R (by omega) (by omega) (by omega)).mono ?_
    rintro e w4 ⟨v, ⟨v0, v1⟩, rfl, R4, K4⟩
    have H4 := Lib.hid (H3.out.kept K4 R4)
    clear R4 K4 H3
    have xc := H4.out.X.cell 1 _ rfl
    have xf := H4.out.X.fr 1
    have xl := H4.out.X.lt
    go_upto_region 9 with fail
    refine wp_region_lit ?_
    refine load_cells rfl 33 (.tmp 3) rfl w2.heap.size rfl (ins s (v - 1) z) (H4.out.set 1 (by simp) (.int .i64 (v - 1))).X Tryd.underlying33 rfl input_size ?_
    refine store_new rfl 33 (.tmp 2) (.tmp 28) rfl w.heap.size rfl (ins s (v - 1) z) rfl _ (H4.out.set 1 (by simp) (.int .i64 (v - 1))).D (by simp) input_size rfl ?_
    intro w9 K9 D9
    go_wp2
    exact bodyPost_ret (v := inp s (v - 1) z) (res_cells rfl w.heap.size rfl (ins s (v - 1) z) D9 Tryd.underlying33 rfl input_size) rfl (IW.out (H4.out.set 1 (by simp) (.int .i64 (v - 1))) (by omega) (by omega) K9)
  by_cases e2 : c = 2
  · subst e2
    have xc := H3.out.X.cell 2 _ rfl
    have xf := H3.out.X.fr 2
    have xl := H3.out.X.lt
    go_upto_region 9 with fail
    refine wp_region_lit ?_
    refine load_cells rfl 33 (.tmp 3) rfl w2.heap.size rfl (ins s p true) (H3.out.set 2 (by simp) (.bool true)).X Tryd.underlying33 rfl input_size ?_
    refine store_new rfl 33 (.tmp 2) (.tmp 28) rfl w.heap.size rfl (ins s p true) rfl _ (H3.out.set 2 (by simp) (.bool true)).D (by simp) input_size rfl ?_
    intro w9 K9 D9
    go_wp2
    exact bodyPost_ret (v := inp s p true) (res_cells rfl w.heap.size rfl (ins s p true) D9 Tryd.underlying33 rfl input_size) rfl (IW.out (H3.out.set 2 (by simp) (.bool true)) (by omega) (by omega) K9)
  have d0 : (c == 0) = false := beq_eq_false_iff_ne.2 e0
  have d1 : (c == 1) = false := beq_eq_false_iff_ne.2 e1
  have d2 : (c == 2) = false := beq_eq_false_iff_ne.2 e2
  clear e0 e1 e2
  go_upto_region 9 with fail
  refine wp_region_lit ?_
  refine load_cells rfl 33 (.tmp 3) rfl w2.heap.size rfl (ins s p z) (H3.out).X Tryd.underlying33 rfl input_size ?_
  refine store_new rfl 33 (.tmp 2) (.tmp 28) rfl w.heap.size rfl (ins s p z) rfl _ (H3.out).D (by simp) input_size rfl ?_
  intro w9 K9 D9
  go_wp2
  exact bodyPost_ret (v := inp s p z) (res_cells rfl w.heap.size rfl (ins s p z) D9 Tryd.underlying33 rfl input_size) rfl (IW.out (H3.out) (by omega) (by omega) K9)

def DrawnIn (w : World) (e : Ending) (w' : World) : Prop := ∃ (s p : Int) (z : Bool), ((-3 ≤ s ∧ s ≤ 3) ∧ (-3 ≤ p ∧ p ≤ 5)) ∧ e = .returned (inp s p z) ∧ Below w.heap.size w w'
def DrawnN (w : World) (e : Ending) (w' : World) : Prop := ∃ n : Int, (-1 ≤ n ∧ n ≤ 10) ∧ e = .returned (.int .i64 n) ∧ Below w.heap.size w w'

end Go.Proofs.YtnoenjociioffaaDoor
