/-
  The inputs that the model draws: whatever they are, nothing that was there before the call is written, but the reader.
-/
import Derived.Test.YtnoenjociioffabInS
import Derived.Test.YtnoenjociioffabRdS
import Derived.Test.YtnoenjociioffabCelS
import Derived.Deep.DeepCutAuto
namespace Go.Proofs.Ytnoenjociioffab
open Go.RowKit
open M

/-- A drawn input. -/
def InDrawn (B : Nat) (r : Nat) (k : Int) (w : World) (e : Ending) (w' : World) : Prop :=
  ∃ (s p : Int) (z : Bool), ((-3 ≤ s ∧ s ≤ 3) ∧ (-3 ≤ p ∧ p ≤ 5)) ∧ e = .returned (inp s p z) ∧ RdU B w' r (k + 4) ∧ Kept r w w'
theorem input_size : (Try.prog.info? 107).map (·.size) = some 3 := by kernel_rfl
theorem of_bd {n : Int} (h0 : 0 ≤ n) (h1 : n < 10) : (-3 ≤ ofS n ∧ ofS n ≤ 3) ∧ (-3 ≤ ofP n ∧ ofP n ≤ 5) := by
  unfold ofS ofP
  split <;> omega
/-- An input under way: its variable xb, and the result's variable (the first block that the call made). -/
structure IW (B r : Nat) (w : World) (xb : Nat) (vs : List Value) (k : Int) (W : World) : Prop where
  X : CellsAt W xb vs
  D : CellsAt W w.heap.size (ins 0 0 false)
  R : RdU B W r k
  K : Kept r w W
  lo : w.heap.size < xb
  bw : B ≤ w.heap.size
  rB : r < B
theorem IW.kept {B r : Nat} {w : World} {xb : Nat} {vs : List Value} {k : Int} {W : World} {k' : Int} {W' : World} (h : IW B r w xb vs k W) (K : Kept r W W') (R : RdU B W' r k') : IW B r w xb vs k' W' := by
  have h1 := h.lo; have h2 := h.bw; have h3 := h.rB
  exact ⟨h.X.kept K (by omega), h.D.kept K (by omega), R, h.K.trans K, h1, h2, h3⟩
theorem IW.set {B r : Nat} {w : World} {xb : Nat} {vs : List Value} {k : Int} {W : World} (h : IW B r w xb vs k W) (o : Nat) (ho : o < vs.length) (v : Value) : IW B r w xb (vs.set o v) k (W.setCell ⟨xb, o, none⟩ v) := by
  have h1 := h.lo; have h2 := h.bw; have h3 := h.rB
  exact ⟨h.X.set o ho v, h.D.far (by omega) _ _, h.R.set _ _ _ (by omega), h.K.set _ _ _ (by omega), h1, h2, h3⟩
theorem IW.out {B r : Nat} {w : World} {xb : Nat} {vs : List Value} {k : Int} {W : World} {k0 : Int} {s p : Int} {z : Bool} {W' : World} (h : IW B r w xb vs k W) (hk : k ≤ k0 + 4) (hb : (-3 ≤ s ∧ s ≤ 3) ∧ (-3 ≤ p ∧ p ≤ 5)) (K : Kept w.heap.size W W') : InDrawn B r k0 w (.returned (inp s p z)) W' := by
  have h1 := h.lo; have h2 := h.bw; have h3 := h.rB; have h4 := h.K.size
  exact ⟨s, p, z, hb, rfl, (h.R.mono hk).below (K.below (by omega) (by omega)), K.os.trans h.K.os, K.tape.trans h.K.tape, K.output.trans h.K.output, Nat.le_trans h4 K.size, fun j hj hr => (K.block j (by omega) (by omega)).trans (h.K.block j hj hr)⟩

def DrawnIn (w : World) (e : Ending) (w' : World) : Prop := ∃ (s p : Int) (z : Bool), ((-3 ≤ s ∧ s ≤ 3) ∧ (-3 ≤ p ∧ p ≤ 5)) ∧ e = .returned (inp s p z) ∧ Below w.heap.size w w'
def DrawnN (w : World) (e : Ending) (w' : World) : Prop := ∃ n : Int, (-1 ≤ n ∧ n ≤ 10) ∧ e = .returned (.int .i64 n) ∧ Below w.heap.size w w'

end Go.Proofs.Ytnoenjociioffab
