/-
  A box that came in as an argument is four integers.
-/
import Derived.Test.YtnoenjociioffabBoxS
import Derived.ProofKit
import Derived.OpenShut
import Derived.Lib.SmallJoins
namespace Go.Proofs.Ytnoenjociioffab
open Go.ChangeShapes Go.WideShapes Go.ChangeAt Go.RowKit Go.Joins

theorem cellsLB : Try.prog.cellsOf 46 = 4 := by kernel_rfl
theorem cellsLV : Try.prog.cellsOf 43 = 2 := by kernel_rfl
theorem cellsLI : Try.prog.cellsOf 3 = 1 := by kernel_rfl
theorem ints_of_vec {H : Type} {enc : TypeId × Value → H} {W : World} {base : Nat} {sp : Nat → Bool} {held : Bool} {n : Nat} {c0 c1 : Value} {y : DataW H × List MemPlace}
    (h : DataW.trod enc Try.prog W base sp held n 43 [c0, c1] = some y) : ∃ x z : Int, c0 = .int .i64 x ∧ c1 = .int .i64 z := by
  obtain ⟨y0, y1, m, _, _, h0, h1⟩ := trod_struct2 Try.underlying43 h
  simp [cellsLI] at h0 h1
  obtain ⟨x, e0, _⟩ := DataW.trod_int Try.underlying3 h0
  obtain ⟨z, e1, _⟩ := DataW.trod_int Try.underlying3 h1
  simp at e0 e1
  exact ⟨x, z, e0, e1⟩
set_option maxRecDepth 100000 in
theorem open_box {H : Type} {enc : TypeId × Value → H} {W : World} {r : Reach} {b0 base : Nat} {sp : Nat → Bool} {held : Bool} {v : Value} {d : DataW H} {p : List MemPlace}
    (hv : Value.okWide Try.prog W r b0 46 v) (h : DataW.Trod enc Try.prog W base sp held 46 v d p) : ∃ x y z t : Int, v = box x y z t := by
  obtain ⟨cs, rfl, hsz⟩ := okWide_struct Try.underlying46 hv
  rw [cellsLB] at hsz
  obtain ⟨l⟩ := cs
  obtain ⟨c0, c1, c2, c3, rfl⟩ : ∃ c0 c1 c2 c3, l = [c0, c1, c2, c3] := by
    match l, hsz with
    | [a, b, c, d], _ => exact ⟨a, b, c, d, rfl⟩
  obtain ⟨fuel, hf⟩ := h
  obtain ⟨y0, y1, n, _, _, h0, h1⟩ := trod_struct2 Try.underlying46 hf
  simp [cellsLV, Value.cells] at h0 h1
  obtain ⟨x, y, rfl, rfl⟩ := ints_of_vec h0
  obtain ⟨z, t, rfl, rfl⟩ := ints_of_vec h1
  exact ⟨x, y, z, t, rfl⟩

end Go.Proofs.Ytnoenjociioffab
