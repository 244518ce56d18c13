/-
  The next input that the model draws: whatever it is, nothing that was there before the call is written, but the reader.
-/
import Derived.Test.YtnoenjociioffaaDoorInS
import Derived.Test.YtnoenjociioffaaDoorDrawIn
import Derived.Test.YtnoenjociioffaaDoorInRow
import Derived.Deep.Cut
namespace Go.Proofs.YtnoenjociioffaaDoor
open Go.RowKit
open M

theorem wp_let {P : Program} {code : Code} {Q : Exit → Act → World → Prop} {a : Act} {W : World} (S : World → Prop) (hS : S W) (h : ∀ W', S W' → code.wp P Q a W') : code.wp P Q a W := h W hS
/-- A drawn input, of whatever parts. -/
def NextDrawn (B : Nat) (r : Nat) (k : Int) (w : World) (e : Ending) (w' : World) : Prop :=
  ∃ (s p : Int) (z : Bool), e = .returned (inp s p z) ∧ RdU B w' r (k + 3) ∧ Kept r w w'
/-- Under way: the level, the input ahead, the result's variable, the new input. -/
structure NW (B r : Nat) (w : World) (l q d x : List Value) (k : Int) (W : World) : Prop where
  L : CellsAt W w.heap.size l
  Q : CellsAt W (w.heap.size + 1) q
  D : CellsAt W (w.heap.size + 1 + 1) d
  X : CellsAt W (w.heap.size + 1 + 1 + 1) x
  R : RdU B W r k
  K : Kept r w W
  bw : B ≤ w.heap.size
  rB : r < B
theorem NW.kept {B r : Nat} {w : World} {l q d x : List Value} {k : Int} {W : World} {k' : Int} {W' : World} (h : NW B r w l q d x k W) (K : Kept r W W') (R : RdU B W' r k') : NW B r w l q d x k' W' := by
  have h2 := h.bw; have h3 := h.rB
  exact ⟨h.L.kept K (by omega), h.Q.kept K (by omega), h.D.kept K (by omega), h.X.kept K (by omega), R, h.K.trans K, h2, h3⟩
theorem NW.step {B r : Nat} {w : World} {l q d x : List Value} {k : Int} {W : World} {W' : World} (h : NW B r w l q d x k W) (S : Below W.heap.size W W') : NW B r w l q d x k W' := h.kept (Kept.of_below S) (h.R.below (S.mono h.R.base))
theorem NW.set {B r : Nat} {w : World} {l q d x : List Value} {k : Int} {W : World} (h : NW B r w l q d x k W) (o : Nat) (ho : o < x.length) (v : Value) : NW B r w l q d (x.set o v) k (W.setCell ⟨w.heap.size + 1 + 1 + 1, o, none⟩ v) := by
  have h2 := h.bw; have h3 := h.rB
  exact ⟨h.L.far (by omega) _ _, h.Q.far (by omega) _ _, h.D.far (by omega) _ _, h.X.set o ho v, h.R.set _ _ _ (by omega), h.K.set _ _ _ (by omega), h2, h3⟩
theorem NW.all {B r : Nat} {w : World} {l q d x : List Value} {k : Int} {W : World} {y : List Value} {W' : World} (h : NW B r w l q d x k W) (K : Kept (w.heap.size + 1 + 1 + 1) W W') (N : CellsAt W' (w.heap.size + 1 + 1 + 1) y) : NW B r w l q d y k W' := by
  have h2 := h.bw; have h3 := h.rB
  have h5 := h.K.size
  exact ⟨h.L.kept K (by omega), h.Q.kept K (by omega), h.D.kept K (by omega), N, h.R.below (K.below (by omega) (by omega)), ⟨K.os.trans h.K.os, K.tape.trans h.K.tape, K.output.trans h.K.output, Nat.le_trans h5 K.size, fun j hj hr => (K.block j (by omega) (by omega)).trans (h.K.block j hj hr)⟩, h2, h3⟩
theorem NW.out {B r : Nat} {w : World} {l q d x : List Value} {k : Int} {W : World} {k0 : Int} {s p : Int} {z : Bool} {W' : World} (h : NW B r w l q d x k W) (hk : k ≤ k0 + 3) (K : Kept (w.heap.size + 1 + 1) W W') : NextDrawn B r k0 w (.returned (inp s p z)) W' := by
  have h2 := h.bw; have h3 := h.rB; have h5 := h.K.size
  exact ⟨s, p, z, rfl, (h.R.mono hk).below (K.below (by omega) (by omega)), K.os.trans h.K.os, K.tape.trans h.K.tape, K.output.trans h.K.output, Nat.le_trans h5 K.size, fun j hj hr => (K.block j (by omega) (by omega)).trans (h.K.block j hj hr)⟩

set_option maxRecDepth 100000 in
set_option maxHeartbeats 4000000 in
theorem next_drawn {B : Nat} (r : Nat) (k : Int) (i t x y : Int) (A : Option Addr) (n c : Nat) (G : Option Addr) (m kk : Nat) (fp fq fs fz b : Int) (s0 p0 : Int) (z0 : Bool) (w : World) (R : RdU B w r k) (hk : k ≤ 90000) (b0 : 0 ≤ b) (b3 : b ≤ 3) (s1 : -1 ≤ s0) (s2 : s0 ≤ 1) :
    Calls Tryd.prog 101 #[.pointer (some ⟨r, 0, none⟩), lev i t x y A n c G m kk fp fq fs fz b, inp s0 p0 z0] w (NextDrawn B r k w) := by
  have hr := R.here
  have hB := R.base
  have H : NW B r w (lvs i t x y A n c G m kk fp fq fs fz b) (ins s0 p0 z0) (ins 0 0 false) (ins 0 1 false) (k) ((((w.alloc (.cells #[.int .i64 i, .int .i64 t, .int .i64 x, .int .i64 y, .slice A n c, .slice G m kk, .int .i64 fp, .int .i64 fq, .int .i64 fs, .int .i64 fz, .int .i64 b] 29)).alloc (.cells #[.int .i64 s0, .int .i64 p0, .bool z0] 33)).alloc (.cells #[.int .i64 0, .int .i64 0, .bool false] 33)).alloc (.cells #[.int .i64 0, .int .i64 1, .bool false] 33)) := ⟨(((CellsAt.new w _ _ _ rfl).alloc _).alloc _).alloc _, ((CellsAt.new _ _ _ _ (by simp)).alloc _).alloc _, (CellsAt.new _ _ _ _ (by simp)).alloc _, CellsAt.new _ _ _ _ (by simp), (((R.alloc _).alloc _).alloc _).alloc _, ((((Kept.refl r w).alloc _).alloc _).alloc _).alloc _, hB, hr⟩
  have H := Lib.hid H
  clear R
  go_enter Tryd.func101, Tryd.ntmps101
  go_wp2_with fail
  refine (pick_any r 12 _ _ H.out.R (by omega) (by omega) (by omega)).mono ?_
  rintro e w1 ⟨c0, ⟨c1, c2⟩, rfl, R1, K1⟩
  replace H := Lib.hid (H.out.kept K1 R1)
  clear K1 R1
  by_cases e0 : c0 = 0
  · subst e0
    go_wp2_with fail
    refine (pick_any r 3 _ _ H.out.R (by omega) (by omega) (by omega)).mono ?_
    rintro e w2 ⟨v, ⟨v0, v1⟩, rfl, R1, K1⟩
    replace H := Lib.hid (H.out.kept K1 R1)
    clear K1 R1
    have xc := H.out.X.cell 1 _ rfl
    have xf := H.out.X.fr 1
    have xl := H.out.X.lt
    go_upto_region 10 with fail
    refine wp_let (NW B r w (lvs i t x y A n c G m kk fp fq fs fz b) (ins s0 p0 z0) (ins 0 0 false) (ins 0 v false) (k + 1 + 1)) (H.out.set 1 (by simp) _) ?_
    clear H xc xf xl
    intro w4 H
    replace H := Lib.hid H
    have C := fun W => specFol0 i t x y A n c G m kk fp fq fs fz b s0 p0 z0 0 v false W b0 b3 s1 s2
    generalize flB b s0 0 v false = bb at *
    replace C := Lib.hid C
    have Lc0 := H.out.L.cell 0 _ rfl
    have Lc1 := H.out.L.cell 1 _ rfl
    have Lc2 := H.out.L.cell 2 _ rfl
    have Lc3 := H.out.L.cell 3 _ rfl
    have Lc4 := H.out.L.cell 4 _ rfl
    have Lc5 := H.out.L.cell 5 _ rfl
    have Lc6 := H.out.L.cell 6 _ rfl
    have Lc7 := H.out.L.cell 7 _ rfl
    have Lc8 := H.out.L.cell 8 _ rfl
    have Lc9 := H.out.L.cell 9 _ rfl
    have Lc10 := H.out.L.cell 10 _ rfl
    have Ll := H.out.L.lt
    have Qc0 := H.out.Q.cell 0 _ rfl
    have Qc1 := H.out.Q.cell 1 _ rfl
    have Qc2 := H.out.Q.cell 2 _ rfl
    have Ql := H.out.Q.lt
    have Xc0 := H.out.X.cell 0 _ rfl
    have Xc1 := H.out.X.cell 1 _ rfl
    have Xc2 := H.out.X.cell 2 _ rfl
    have Xl := H.out.X.lt
    go_wp2_with fail
    refine (C.out _).mono ?_
    rintro e w5 ⟨rfl, S⟩
    replace H := Lib.hid (H.out.step S)
    clear S C Lc0 Lc1 Lc2 Lc3 Lc4 Lc5 Lc6 Lc7 Lc8 Lc9 Lc10 Ll Qc0 Qc1 Qc2 Ql Xc0 Xc1 Xc2 Xl
    cases bb
    · go_wp2_with (refine store_new rfl 33 (.tmp 6) (.tmp 36) rfl (w.heap.size + 1 + 1) rfl (ins 0 1 false) rfl _ H.out.D (by simp) input_size rfl ?_)
      intro w6 K6 N6
      go_wp2
      exact bodyPost_ret (v := inp 0 1 false) (res_cells rfl (w.heap.size + 1 + 1) rfl (ins 0 1 false) N6 Tryd.underlying33 rfl input_size) rfl (NW.out H.out (by omega) K6)
    · go_upto_region 12 with fail
      refine wp_region_lit ?_
      refine load_cells rfl 33 (.tmp 7) rfl (w.heap.size + 1 + 1 + 1) rfl (ins 0 v false) H.out.X Tryd.underlying33 rfl input_size ?_
      refine store_new rfl 33 (.tmp 6) (.tmp 37) rfl (w.heap.size + 1 + 1) rfl (ins 0 v false) rfl _ H.out.D (by simp) input_size rfl ?_
      intro w6 K6 N6
      go_wp2
      exact bodyPost_ret (v := inp 0 v false) (res_cells rfl (w.heap.size + 1 + 1) rfl (ins 0 v false) N6 Tryd.underlying33 rfl input_size) rfl (NW.out H.out (by omega) K6)
  by_cases e1 : c0 = 1
  · subst e1
    go_wp2_with fail
    refine (pick_any r 3 _ _ H.out.R (by omega) (by omega) (by omega)).mono ?_
    rintro e w2 ⟨v, ⟨v0, v1⟩, rfl, R1, K1⟩
    replace H := Lib.hid (H.out.kept K1 R1)
    clear K1 R1
    have xc := H.out.X.cell 0 _ rfl
    have xf := H.out.X.fr 0
    have xl := H.out.X.lt
    go_upto_region 10 with fail
    refine wp_let (NW B r w (lvs i t x y A n c G m kk fp fq fs fz b) (ins s0 p0 z0) (ins 0 0 false) (ins (v - 1) 1 false) (k + 1 + 1)) (H.out.set 0 (by simp) _) ?_
    clear H xc xf xl
    intro w4 H
    replace H := Lib.hid H
    have C := fun W => specFol0 i t x y A n c G m kk fp fq fs fz b s0 p0 z0 (v - 1) 1 false W b0 b3 s1 s2
    generalize flB b s0 (v - 1) 1 false = bb at *
    replace C := Lib.hid C
    have Lc0 := H.out.L.cell 0 _ rfl
    have Lc1 := H.out.L.cell 1 _ rfl
    have Lc2 := H.out.L.cell 2 _ rfl
    have Lc3 := H.out.L.cell 3 _ rfl
    have Lc4 := H.out.L.cell 4 _ rfl
    have Lc5 := H.out.L.cell 5 _ rfl
    have Lc6 := H.out.L.cell 6 _ rfl
    have Lc7 := H.out.L.cell 7 _ rfl
    have Lc8 := H.out.L.cell 8 _ rfl
    have Lc9 := H.out.L.cell 9 _ rfl
    have Lc10 := H.out.L.cell 10 _ rfl
    have Ll := H.out.L.lt
    have Qc0 := H.out.Q.cell 0 _ rfl
    have Qc1 := H.out.Q.cell 1 _ rfl
    have Qc2 := H.out.Q.cell 2 _ rfl
    have Ql := H.out.Q.lt
    have Xc0 := H.out.X.cell 0 _ rfl
    have Xc1 := H.out.X.cell 1 _ rfl
    have Xc2 := H.out.X.cell 2 _ rfl
    have Xl := H.out.X.lt
    go_wp2_with fail
    refine (C.out _).mono ?_
    rintro e w5 ⟨rfl, S⟩
    replace H := Lib.hid (H.out.step S)
    clear S C Lc0 Lc1 Lc2 Lc3 Lc4 Lc5 Lc6 Lc7 Lc8 Lc9 Lc10 Ll Qc0 Qc1 Qc2 Ql Xc0 Xc1 Xc2 Xl
    cases bb
    · go_wp2_with (refine store_new rfl 33 (.tmp 6) (.tmp 36) rfl (w.heap.size + 1 + 1) rfl (ins 0 1 false) rfl _ H.out.D (by simp) input_size rfl ?_)
      intro w6 K6 N6
      go_wp2
      exact bodyPost_ret (v := inp 0 1 false) (res_cells rfl (w.heap.size + 1 + 1) rfl (ins 0 1 false) N6 Tryd.underlying33 rfl input_size) rfl (NW.out H.out (by omega) K6)
    · go_upto_region 12 with fail
      refine wp_region_lit ?_
      refine load_cells rfl 33 (.tmp 7) rfl (w.heap.size + 1 + 1 + 1) rfl (ins (v - 1) 1 false) H.out.X Tryd.underlying33 rfl input_size ?_
      refine store_new rfl 33 (.tmp 6) (.tmp 37) rfl (w.heap.size + 1 + 1) rfl (ins (v - 1) 1 false) rfl _ H.out.D (by simp) input_size rfl ?_
      intro w6 K6 N6
      go_wp2
      exact bodyPost_ret (v := inp (v - 1) 1 false) (res_cells rfl (w.heap.size + 1 + 1) rfl (ins (v - 1) 1 false) N6 Tryd.underlying33 rfl input_size) rfl (NW.out H.out (by omega) K6)
  by_cases e2 : c0 = 2
  · subst e2
    go_wp2_with fail
    refine (pick_any r 3 _ _ H.out.R (by omega) (by omega) (by omega)).mono ?_
    rintro e w2 ⟨v, ⟨v0, v1⟩, rfl, R1, K1⟩
    replace H := Lib.hid (H.out.kept K1 R1)
    clear K1 R1
    have xc := H.out.X.cell 0 _ rfl
    have xf := H.out.X.fr 0
    have xl := H.out.X.lt
    go_upto_region 10 with fail
    refine wp_let (NW B r w (lvs i t x y A n c G m kk fp fq fs fz b) (ins s0 p0 z0) (ins 0 0 false) (ins (v - 1) 1 false) (k + 1 + 1)) (H.out.set 0 (by simp) _) ?_
    clear H xc xf xl
    intro w4 H
    replace H := Lib.hid H
    have C := fun W => specFol0 i t x y A n c G m kk fp fq fs fz b s0 p0 z0 (v - 1) 1 false W b0 b3 s1 s2
    generalize flB b s0 (v - 1) 1 false = bb at *
    replace C := Lib.hid C
    have Lc0 := H.out.L.cell 0 _ rfl
    have Lc1 := H.out.L.cell 1 _ rfl
    have Lc2 := H.out.L.cell 2 _ rfl
    have Lc3 := H.out.L.cell 3 _ rfl
    have Lc4 := H.out.L.cell 4 _ rfl
    have Lc5 := H.out.L.cell 5 _ rfl
    have Lc6 := H.out.L.cell 6 _ rfl
    have Lc7 := H.out.L.cell 7 _ rfl
    have Lc8 := H.out.L.cell 8 _ rfl
    have Lc9 := H.out.L.cell 9 _ rfl
    have Lc10 := H.out.L.cell 10 _ rfl
    have Ll := H.out.L.lt
    have Qc0 := H.out.Q.cell 0 _ rfl
    have Qc1 := H.out.Q.cell 1 _ rfl
    have Qc2 := H.out.Q.cell 2 _ rfl
    have Ql := H.out.Q.lt
    have Xc0 := H.out.X.cell 0 _ rfl
    have Xc1 := H.out.X.cell 1 _ rfl
    have Xc2 := H.out.X.cell 2 _ rfl
    have Xl := H.out.X.lt
    go_wp2_with fail
    refine (C.out _).mono ?_
    rintro e w5 ⟨rfl, S⟩
    replace H := Lib.hid (H.out.step S)
    clear S C Lc0 Lc1 Lc2 Lc3 Lc4 Lc5 Lc6 Lc7 Lc8 Lc9 Lc10 Ll Qc0 Qc1 Qc2 Ql Xc0 Xc1 Xc2 Xl
    cases bb
    · go_wp2_with (refine store_new rfl 33 (.tmp 6) (.tmp 36) rfl (w.heap.size + 1 + 1) rfl (ins 0 1 false) rfl _ H.out.D (by simp) input_size rfl ?_)
      intro w6 K6 N6
      go_wp2
      exact bodyPost_ret (v := inp 0 1 false) (res_cells rfl (w.heap.size + 1 + 1) rfl (ins 0 1 false) N6 Tryd.underlying33 rfl input_size) rfl (NW.out H.out (by omega) K6)
    · go_upto_region 12 with fail
      refine wp_region_lit ?_
      refine load_cells rfl 33 (.tmp 7) rfl (w.heap.size + 1 + 1 + 1) rfl (ins (v - 1) 1 false) H.out.X Tryd.underlying33 rfl input_size ?_
      refine store_new rfl 33 (.tmp 6) (.tmp 37) rfl (w.heap.size + 1 + 1) rfl (ins (v - 1) 1 false) rfl _ H.out.D (by simp) input_size rfl ?_
      intro w6 K6 N6
      go_wp2
      exact bodyPost_ret (v := inp (v - 1) 1 false) (res_cells rfl (w.heap.size + 1 + 1) rfl (ins (v - 1) 1 false) N6 Tryd.underlying33 rfl input_size) rfl (NW.out H.out (by omega) K6)
  by_cases e3 : c0 = 3
  · subst e3
    go_wp2_with fail
    refine (pick_any r 10 _ _ H.out.R (by omega) (by omega) (by omega)).mono ?_
    rintro e w2 ⟨v, ⟨v0, v1⟩, rfl, R1, K1⟩
    replace H := Lib.hid (H.out.kept K1 R1)
    clear K1 R1
    go_wp2_with fail
    refine (specIOf v _).mono ?_
    rintro e w3 ⟨rfl, S⟩
    replace H := Lib.hid (H.out.step S)
    clear S
    generalize ofS v = xs at *
    generalize ofP v = xp at *
    generalize ofZ v = xz at *
    go_wp2_with (refine store_new rfl 33 (.tmp 7) (.tmp 29) rfl (w.heap.size + 1 + 1 + 1) rfl (ins xs xp xz) rfl _ H.out.X (by simp) input_size rfl ?_)
    intro w4 K4 N4
    replace H := Lib.hid (H.out.all K4 N4)
    clear K4 N4
    have C := fun W => specFol0 i t x y A n c G m kk fp fq fs fz b s0 p0 z0 xs xp xz W b0 b3 s1 s2
    generalize flB b s0 xs xp xz = bb at *
    replace C := Lib.hid C
    have Lc0 := H.out.L.cell 0 _ rfl
    have Lc1 := H.out.L.cell 1 _ rfl
    have Lc2 := H.out.L.cell 2 _ rfl
    have Lc3 := H.out.L.cell 3 _ rfl
    have Lc4 := H.out.L.cell 4 _ rfl
    have Lc5 := H.out.L.cell 5 _ rfl
    have Lc6 := H.out.L.cell 6 _ rfl
    have Lc7 := H.out.L.cell 7 _ rfl
    have Lc8 := H.out.L.cell 8 _ rfl
    have Lc9 := H.out.L.cell 9 _ rfl
    have Lc10 := H.out.L.cell 10 _ rfl
    have Ll := H.out.L.lt
    have Qc0 := H.out.Q.cell 0 _ rfl
    have Qc1 := H.out.Q.cell 1 _ rfl
    have Qc2 := H.out.Q.cell 2 _ rfl
    have Ql := H.out.Q.lt
    have Xc0 := H.out.X.cell 0 _ rfl
    have Xc1 := H.out.X.cell 1 _ rfl
    have Xc2 := H.out.X.cell 2 _ rfl
    have Xl := H.out.X.lt
    go_wp2_with fail
    refine (C.out _).mono ?_
    rintro e w5 ⟨rfl, S⟩
    replace H := Lib.hid (H.out.step S)
    clear S C Lc0 Lc1 Lc2 Lc3 Lc4 Lc5 Lc6 Lc7 Lc8 Lc9 Lc10 Ll Qc0 Qc1 Qc2 Ql Xc0 Xc1 Xc2 Xl
    cases bb
    · go_wp2_with (refine store_new rfl 33 (.tmp 6) (.tmp 36) rfl (w.heap.size + 1 + 1) rfl (ins 0 1 false) rfl _ H.out.D (by simp) input_size rfl ?_)
      intro w6 K6 N6
      go_wp2
      exact bodyPost_ret (v := inp 0 1 false) (res_cells rfl (w.heap.size + 1 + 1) rfl (ins 0 1 false) N6 Tryd.underlying33 rfl input_size) rfl (NW.out H.out (by omega) K6)
    · go_upto_region 12 with fail
      refine wp_region_lit ?_
      refine load_cells rfl 33 (.tmp 7) rfl (w.heap.size + 1 + 1 + 1) rfl (ins xs xp xz) H.out.X Tryd.underlying33 rfl input_size ?_
      refine store_new rfl 33 (.tmp 6) (.tmp 37) rfl (w.heap.size + 1 + 1) rfl (ins xs xp xz) rfl _ H.out.D (by simp) input_size rfl ?_
      intro w6 K6 N6
      go_wp2
      exact bodyPost_ret (v := inp xs xp xz) (res_cells rfl (w.heap.size + 1 + 1) rfl (ins xs xp xz) N6 Tryd.underlying33 rfl input_size) rfl (NW.out H.out (by omega) K6)
  have d0 : (c0 == 0) = false := beq_eq_false_iff_ne.2 e0
  have d1 : (c0 == 1) = false := beq_eq_false_iff_ne.2 e1
  have d2 : (c0 == 2) = false := beq_eq_false_iff_ne.2 e2
  have d3 : (c0 == 3) = false := beq_eq_false_iff_ne.2 e3
  clear e0 e1 e2 e3
  have C := fun W => specFol0 i t x y A n c G m kk fp fq fs fz b s0 p0 z0 0 1 false W b0 b3 s1 s2
  generalize flB b s0 0 1 false = bb at *
  replace C := Lib.hid C
  have Lc0 := H.out.L.cell 0 _ rfl
  have Lc1 := H.out.L.cell 1 _ rfl
  have Lc2 := H.out.L.cell 2 _ rfl
  have Lc3 := H.out.L.cell 3 _ rfl
  have Lc4 := H.out.L.cell 4 _ rfl
  have Lc5 := H.out.L.cell 5 _ rfl
  have Lc6 := H.out.L.cell 6 _ rfl
  have Lc7 := H.out.L.cell 7 _ rfl
  have Lc8 := H.out.L.cell 8 _ rfl
  have Lc9 := H.out.L.cell 9 _ rfl
  have Lc10 := H.out.L.cell 10 _ rfl
  have Ll := H.out.L.lt
  have Qc0 := H.out.Q.cell 0 _ rfl
  have Qc1 := H.out.Q.cell 1 _ rfl
  have Qc2 := H.out.Q.cell 2 _ rfl
  have Ql := H.out.Q.lt
  have Xc0 := H.out.X.cell 0 _ rfl
  have Xc1 := H.out.X.cell 1 _ rfl
  have Xc2 := H.out.X.cell 2 _ rfl
  have Xl := H.out.X.lt
  go_wp2_with fail
  refine (C.out _).mono ?_
  rintro e w5 ⟨rfl, S⟩
  replace H := Lib.hid (H.out.step S)
  clear S C Lc0 Lc1 Lc2 Lc3 Lc4 Lc5 Lc6 Lc7 Lc8 Lc9 Lc10 Ll Qc0 Qc1 Qc2 Ql Xc0 Xc1 Xc2 Xl
  cases bb
  · go_wp2_with (refine store_new rfl 33 (.tmp 6) (.tmp 36) rfl (w.heap.size + 1 + 1) rfl (ins 0 1 false) rfl _ H.out.D (by simp) input_size rfl ?_)
    intro w6 K6 N6
    go_wp2
    exact bodyPost_ret (v := inp 0 1 false) (res_cells rfl (w.heap.size + 1 + 1) rfl (ins 0 1 false) N6 Tryd.underlying33 rfl input_size) rfl (NW.out H.out (by omega) K6)
  · go_upto_region 12 with fail
    refine wp_region_lit ?_
    refine load_cells rfl 33 (.tmp 7) rfl (w.heap.size + 1 + 1 + 1) rfl (ins 0 1 false) H.out.X Tryd.underlying33 rfl input_size ?_
    refine store_new rfl 33 (.tmp 6) (.tmp 37) rfl (w.heap.size + 1 + 1) rfl (ins 0 1 false) rfl _ H.out.D (by simp) input_size rfl ?_
    intro w6 K6 N6
    go_wp2
    exact bodyPost_ret (v := inp 0 1 false) (res_cells rfl (w.heap.size + 1 + 1) rfl (ins 0 1 false) N6 Tryd.underlying33 rfl input_size) rfl (NW.out H.out (by omega) K6)

end Go.Proofs.YtnoenjociioffaaDoor
