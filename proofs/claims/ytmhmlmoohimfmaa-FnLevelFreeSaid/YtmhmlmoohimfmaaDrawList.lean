/-
  The lists of numbers and the keys that the model draws: each number fits; nothing that was there before the call is written, but the reader.
-/
import Derived.Test.YtmhmlmoohimfmaaHash
import Derived.Test.YtmhmlmoohimfmaaDrawFix
import Derived.Maps.AppendAt
import Derived.OwnWalk
import Derived.Laws.OwnMore
namespace Go.Proofs.Ytmhmlmoohimfmaa
open Go.RowKit
open M

theorem Kept.grows {r : Nat} {w w' : World} (K : Kept r w w') : w.grownBy w' (some r) := ⟨K.os, K.tape, K.output, K.size, fun k hk hne => K.block k hk (fun e => hne (by rw [e]))⟩
theorem Kept.grown {r : Nat} {w a b : World} {row : Option Nat} (K : Kept r w a) (hg : a.grownBy b row) (hr : ∀ g, row = some g → w.heap.size ≤ g) : Kept r w b :=
  ⟨hg.os.trans K.os, hg.tape.trans K.tape, hg.output.trans K.output, Nat.le_trans K.size hg.size, fun k hk hne => (hg.block k (Nat.lt_of_lt_of_le hk K.size) (fun e => by have := hr k e.symm; omega)).trans (K.block k hk hne)⟩
theorem RdU.grown {B : Nat} {a b : World} {r : Nat} {k : Int} {row : Option Nat} (R : RdU B a r k) (hg : a.grownBy b row) (hr : ∀ g, row = some g → B ≤ g) : RdU B b r k :=
  R.below ((Below.refl _ _).grown hg R.base hr)
theorem own_kept {w w' : World} {base : Nat} {e : TypeId} {v : Value} {n r : Nat} {xs : List Value} (h : w.ownsRow base e 1 v n xs) (K : Kept r w w') (hr : r < base) : w'.ownsRow base e 1 v n xs :=
  h.kept K.grows (.inr fun he => by have := (h.lt r he).1; omega)
theorem Ints.of_own {w : World} {base : Nat} {e : TypeId} {v : Value} {n : Nat} {xs : List Int} (h : w.ownsRow base e 1 v n (xs.map (Value.int .i64))) : ∃ A cap, v = .slice A n cap ∧ Ints w A n xs := by
  have hl : xs.length = n := by simpa using h.1
  have h0 := h
  rcases h0.2 with ⟨rfl, rfl⟩ | ⟨g, cap, cur, rfl, _, hh, _⟩
  · exact ⟨none, 0, rfl, hl, fun hn => by omega⟩
  · refine ⟨_, _, rfl, hl, fun _ => ⟨g, 0, rfl, ?_, fun k hk => ?_⟩⟩
    · exact (h.lt g rfl).2
    · rw [Nat.zero_add, h.cellAt k (by omega), List.getElem?_map, List.getD_eq_getElem?_getD, List.getElem?_eq_getElem (by omega)]
      rfl
/-- Every number fits. -/
def Fits (xs : List Int) : Prop := ∀ x ∈ xs, -2000000001 ≤ x ∧ x ≤ 2000000001
theorem Fits.snoc {xs : List Int} (h : Fits xs) {x : Int} (hx : -2000000001 ≤ x ∧ x ≤ 2000000001) : Fits (xs ++ [x]) := fun y hy => by
  rcases List.mem_append.1 hy with g | g
  · exact h y g
  · rw [List.mem_singleton.1 g]; exact hx
theorem Fits.set {xs : List Int} (h : Fits xs) (j : Nat) {x : Int} (hx : -2000000001 ≤ x ∧ x ≤ 2000000001) : Fits (xs.set j x) := fun y hy => by
  rcases List.mem_or_eq_of_mem_set hy with g | rfl
  · exact h y g
  · exact hx
/-- A drawn list. -/
def ListDrawn (B : Nat) (r : Nat) (k : Int) (w : World) (e : Ending) (w' : World) : Prop :=
  ∃ (A : Option Addr) (n cap : Nat) (xs : List Int), n ≤ 201 ∧ Fits xs ∧ e = .returned (.slice A n cap) ∧ Ints w' A n xs ∧ RdU B w' r (k + 700) ∧ Kept r w w'
/-- At a round's head. -/
def ListRel (B : Nat) (r : Nat) (k : Int) (w : World) (n : Nat) (v i : Value) (W : World) : Prop :=
  ∃ (j : Nat) (xs : List Int), j ≤ n ∧ i = .int .i64 j ∧ Fits xs ∧ W.ownsRow w.heap.size 3 1 v j (xs.map (Value.int .i64)) ∧ RdU B W r (k + 3 + 3 * j) ∧ Kept r w W
theorem list_next {B r : Nat} {k : Int} {w W w1 : World} {n j : Nat} {v v' : Value} {xs : List Int} {z : Int} (hj : j < n) (F : Fits xs) (hz : -2000000001 ≤ z ∧ z ≤ 2000000001)
    (h : w1.ownsRow w.heap.size 3 1 v' (j + 1) (xs.map (Value.int .i64) ++ [.int .i64 z])) (R : RdU B W r (k + 3 + 3 * j + 3)) (K : Kept r w W) (hg : W.grownBy w1 v.ownBlock) (hb : ∀ g, v.ownBlock = some g → w.heap.size ≤ g) (hB : B ≤ w.heap.size) :
    ListRel B r k w n v' (.int .i64 (j + 1)) w1 :=
  ⟨j + 1, xs ++ [z], by omega, by simp, F.snoc hz, by simpa using h, (R.grown hg (fun g e => Nat.le_trans hB (hb g e))).mono (by omega), K.grown hg hb⟩
theorem int_info : (Try.prog.info? 3).map (fun i => (i.zero, i.size, i.bytes)) = some (some (.int .i64 0), 1, 8) := by kernel_rfl

/-- A drawn key. -/
def KeyDrawn (B : Nat) (r : Nat) (k : Int) (w : World) (e : Ending) (w' : World) : Prop :=
  ∃ x : Int, (-1 ≤ x ∧ x ≤ 10000) ∧ e = .returned (.int .i64 x) ∧ RdU B w' r (k + 3) ∧ Kept r w w'

/-- A list has been drawn. -/
def DrawnList (w : World) (e : Ending) (w' : World) : Prop :=
  ∃ (A : Option Addr) (n cap : Nat) (xs : List Int), n ≤ 201 ∧ Fits xs ∧ e = .returned (.slice A n cap) ∧ Ints w' A n xs ∧ Below w.heap.size w w'
/-- A key and a list have been drawn. -/
def DrawnTag (w : World) (e : Ending) (w' : World) : Prop :=
  ∃ (k : Int) (A : Option Addr) (n cap : Nat) (xs : List Int), (-1 ≤ k ∧ k ≤ 10000) ∧ n ≤ 201 ∧ Fits xs ∧ e = .returned (.tuple #[.int .i64 k, .slice A n cap]) ∧ Ints w' A n xs ∧ Below w.heap.size w w'

end Go.Proofs.Ytmhmlmoohimfmaa
