/-
  A state that came in as an argument: nine cells.
-/
import Derived.Test.YtnoenjociioffabEng
import Derived.Test.YtnoenjociioffabOpenIn
namespace Go.Proofs.Ytnoenjociioffab
open Go.ChangeShapes Go.WideShapes Go.ChangeAt Go.RowKit Go.Joins Go.Deep
open M

theorem cellsSS : Try.prog.cellsOf 55 = 9 := by kernel_rfl
set_option maxRecDepth 100000 in
/-- A state that came in. -/
theorem open_state {H : Type} {enc : TypeId × Value → H} {W : World} {r : Reach} {b0 base : Nat} {sp : Nat → Bool} {held : Bool} {v : Value} {d : DataW H} {p : List MemPlace}
    (hv : Value.okWide Try.prog W r b0 55 v) (h : DataW.Trod enc Try.prog W base sp held 55 v d p) :
    ∃ (k ax ay fx fy u g : Int) (d o : Bool), v = sta k ax ay fx fy u g d o := by
  obtain ⟨cs, rfl, hsz⟩ := okWide_struct Try.underlying55 hv
  rw [cellsSS] at hsz
  obtain ⟨l⟩ := cs
  obtain ⟨c0, c1, c2, c3, c4, c5, c6, c7, c8, rfl⟩ : ∃ c0 c1 c2 c3 c4 c5 c6 c7 c8, l = [c0, c1, c2, c3, c4, c5, c6, c7, c8] := by
    match l, hsz with
    | [c0, c1, c2, c3, c4, c5, c6, c7, c8], _ => exact ⟨c0, c1, c2, c3, c4, c5, c6, c7, c8, rfl⟩
  obtain ⟨fuel, hf⟩ := h
  obtain ⟨xs, n, _, _, _, hlen, hg⟩ := DataW.trod_struct Try.underlying55 hf
  match xs, hlen with
  | [y0, y1, y2, y3, y4, y5, y6], _ =>
    have h0 := hg 0 _ rfl
    have h1 := hg 1 _ rfl
    have h2 := hg 2 _ rfl
    have h3 := hg 3 _ rfl
    have h4 := hg 4 _ rfl
    have h5 := hg 5 _ rfl
    have h6 := hg 6 _ rfl
    simp [cellsLI, Value.cells] at h0 h3 h4
    simp [cellsLV, Value.cells] at h1 h2
    simp [cellsLO, Value.cells] at h5 h6
    obtain ⟨k, e0, _⟩ := DataW.trod_int Try.underlying3 h0
    obtain ⟨u, e3, _⟩ := DataW.trod_int Try.underlying3 h3
    obtain ⟨g, e4, _⟩ := DataW.trod_int Try.underlying3 h4
    obtain ⟨d, e5, _⟩ := DataW.trod_bool Try.underlying4 h5
    obtain ⟨o, e6, _⟩ := DataW.trod_bool Try.underlying4 h6
    simp at e0 e3 e4 e5 e6
    obtain ⟨ax, ay, rfl, rfl⟩ := ints_of_vec h1
    obtain ⟨fx, fy, rfl, rfl⟩ := ints_of_vec h2
    subst e0 e3 e4 e5 e6
    exact ⟨k, ax, ay, fx, fy, u, g, d, o, rfl⟩

end Go.Proofs.Ytnoenjociioffab
