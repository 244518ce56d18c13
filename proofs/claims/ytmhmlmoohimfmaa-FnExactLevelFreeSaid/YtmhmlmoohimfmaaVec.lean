/-
  What the functions of chapter 2 return in the model, at every argument: the contracts. A vector is a pair of integers; the calls make memory of their own and write nothing that was there.
-/
import Derived.Test.YtmhmlmoohimfmaaRoot
import Derived.Test.YtmhmlmoohimfmaaVecMath
import Derived.Below
import Derived.Deep.RegionWith
import Derived.RegionTactic
import Derived.BigQuiet
import Derived.Deep.QuietTactic
namespace Go.Proofs.Ytmhmlmoohimfmaa
open Go.RowKit
open M

/-- A vector as a value. -/
abbrev vec (x y : Int) : Value := .agg #[.int .i64 x, .int .i64 y]

theorem bcell {W w1 : World} (hb : Below W.heap.size W w1) : (∀ b o, b < W.heap.size → w1.cell? ⟨b, o, none⟩ = W.cell? ⟨b, o, none⟩) ∧ (∀ b o, b < W.heap.size → w1.frozen? ⟨b, o, none⟩ = W.frozen? ⟨b, o, none⟩) :=
  ⟨fun b o h => hb.cell (p := ⟨b, o, none⟩) h, fun b o h => hb.frozen (p := ⟨b, o, none⟩) h⟩
theorem bl_alloc {w a : World} (h : Below w.heap.size w a) (o : Obj) : Below w.heap.size w (a.alloc o) := h.alloc h.size o
theorem bl_set {w a : World} (h : Below w.heap.size w a) (b o : Nat) (v : Value) (hp : w.heap.size ≤ b) : Below w.heap.size w (a.setCell ⟨b, o, none⟩ v) := h.setCell (p := ⟨b, o, none⟩) hp v
theorem bl_trans {w a b : World} (h : Below w.heap.size w a) (k : Below a.heap.size a b) : Below w.heap.size w b := h.trans (k.mono h.size)
theorem bl_drew {w a : World} (h : Below w.heap.size w a) (n : Nat) : Below w.heap.size w (a.drewN n) := h.trans ⟨rfl, rfl, rfl, Nat.le_refl _, fun _ _ => rfl⟩
theorem bl_refl (w : World) : Below w.heap.size w w := Below.refl _ _

theorem quietL {P : Program} {f : FuncId} {args : Array Value} {w : World} {n : Nat} {v : Value} (h : Calls P f args (w.drewN n) fun e w' => e = .returned v ∧ w.drewN n = w') :
    Calls P f args (w.drewN n) fun e w'' => e = .returned v ∧ ∃ m, w'' = w.drewN m := h.mono fun _ _ ⟨he, hm⟩ => ⟨he, n, hm.symm⟩
theorem ret_vb {x y x' y' : Int} {c d : Bool} (h1 : x = x') (h2 : y = y') (g : c = d) : Ending.returned (.tuple #[.agg #[.int .i64 x, .int .i64 y], .bool c]) = .returned (.tuple #[vec x' y', .bool d]) := by rw [h1, h2, g]
theorem ret_v {x y x' y' : Int} (h1 : x = x') (h2 : y = y') : Ending.returned (.agg #[.int .i64 x, .int .i64 y]) = .returned (vec x' y') := by rw [h1, h2]

theorem specVecOk (x y : Int) (w : World) : Calls Try.prog 21 #[vec x y] w fun e w' => e = .returned (.bool (vokB x y)) ∧ Below w.heap.size w w' := by
  cases hx : inB x (-1000000) 1000000
  · have E := Lib.hid (vok_no1 (y := y) hx)
    go_enter Try.func21, Try.ntmps21
    go_wp2_with (go_at_call 41; refine (in_any _ _ _ _).mono ?_; rintro e w' ⟨rfl, rfl⟩)
    go_ret
    exact ⟨ret_b (by rw [E.out]), bl_alloc (Below.refl _ _) _⟩
  · have E := Lib.hid (vok_yes1 (y := y) hx)
    go_enter Try.func21, Try.ntmps21
    go_wp2_with (go_at_call 41; refine (in_any _ _ _ _).mono ?_; rintro e w' ⟨rfl, rfl⟩)
    go_ret
    exact ⟨ret_b (by rw [E.out]), bl_alloc (Below.refl _ _) _⟩

end Go.Proofs.Ytmhmlmoohimfmaa
