/-
  What the model's EngineStep returns, at every argument.
-/
import Derived.Test.YtnoenjociioffabEngVal
namespace Go.Proofs.Ytnoenjociioffab
open Go.RowKit
open M

/-- A tick is possible. -/
def M.eoB (i t x y : Int) (ws gs : List Bx) (fp fq fs fz b : Int) (k ax ay fx fy u g : Int) (d o : Bool) (s p : Int) (z : Bool) : Bool := evB i t x y ws gs fp fq fs fz b k ax ay fx fy u g d o && (inV s p z && !(decide (t ≤ k) && (!d && !o)))
def M.esS (i t x y : Int) (ws gs : List Bx) (fp fq fs fz b : Int) (k ax ay fx fy u g : Int) (d o : Bool) (s p : Int) (z : Bool) : St := if eoB i t x y ws gs fp fq fs fz b k ax ay fx fy u g d o s p z then stS ws gs fp fq fs fz ⟨k, ax, ay, fx, fy, u, g, d, o⟩ ⟨s, p, z⟩ else ⟨0, 0, 0, 0, 0, 0, 0, false, false⟩
theorem ev_all {i t x y : Int} {ws gs : List Bx} {fp fq fs fz b : Int} {k ax ay fx fy u g : Int} {d o : Bool} (h : evB i t x y ws gs fp fq fs fz b k ax ay fx fy u g d o = true) : lvB i t x y ws gs fp fq fs fz b = true ∧ ownB k ax ay fx fy u g d o = true ∧ g ≤ gs.length ∧ frB ws ax ay = true := by
  simp only [evB, Bool.and_eq_true, decide_eq_true_eq] at h
  exact ⟨h.1, h.2.1, h.2.2.2.1, h.2.2.2.2.1⟩
theorem ev_st {i t x y : Int} {ws gs : List Bx} {fp fq fs fz b : Int} {k ax ay fx fy u g : Int} {d o : Bool} {m : Nat} (h : evB i t x y ws gs fp fq fs fz b k ax ay fx fy u g d o = true) (hm : gs.length = m) : StB m ⟨k, ax, ay, fx, fy, u, g, d, o⟩ := by
  obtain ⟨_, h2, h3, _⟩ := ev_all h
  have h2' := h2
  simp only [ownB, Bool.and_eq_true, decide_eq_true_eq] at h2
  obtain ⟨k1, a1, f1, l1, u1, g1, _⟩ := h2
  obtain ⟨q, e, _, m1, m2, _⟩ := vl_side f1
  rw [vl_yes f1] at e
  have k2 : 0 ≤ k ∧ k ≤ 60 := by simpa [inB] using k1
  have u2 : 0 ≤ u ∧ u ≤ 15 := by simpa [inB] using u1
  have g2 : 0 ≤ g ∧ g ≤ 3 := by simpa [inB] using g1
  exact ⟨(vok_iff ax ay).1 a1, ⟨⟨by show -2000 ≤ fx; omega, by show fx ≤ 2000; omega⟩, by show -2000 ≤ fy; omega, by show fy ≤ 2000; omega⟩, u2, ⟨g2.1, by show g ≤ (m : Int); omega⟩, by show 0 ≤ k; omega, by show k ≤ 1000000; omega⟩

end Go.Proofs.Ytnoenjociioffab
