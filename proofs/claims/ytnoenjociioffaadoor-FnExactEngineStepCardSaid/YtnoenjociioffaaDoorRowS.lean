/-
  The lists of numbers and the keys that the model draws: each number fits; nothing that was there before the call is written, but the reader.
  Slices of integers that a call makes.
-/
import Derived.Test.YtnoenjociioffaaDoorHashS
import Derived.Test.YtnoenjociioffaaDoorRdS
import Derived.Maps.AppendAt
import Derived.OwnWalk
import Derived.Laws.OwnMore
namespace Go.Proofs.YtnoenjociioffaaDoor
open Go.RowKit
open M

theorem Kept.grows {r : Nat} {w w' : World} (K : Kept r w w') : w.grownBy w' (some r) := ⟨K.os, K.tape, K.output, K.size, fun k hk hne => K.block k hk (fun e => hne (by rw [e]))⟩
theorem Kept.grown {r : Nat} {w a b : World} {row : Option Nat} (K : Kept r w a) (hg : a.grownBy b row) (hr : ∀ g, row = some g → w.heap.size ≤ g) : Kept r w b :=
  ⟨hg.os.trans K.os, hg.tape.trans K.tape, hg.output.trans K.output, Nat.le_trans K.size hg.size, fun k hk hne => (hg.block k (Nat.lt_of_lt_of_le hk K.size) (fun e => by have := hr k e.symm; omega)).trans (K.block k hk hne)⟩
theorem RdU.grown {B : Nat} {a b : World} {r : Nat} {k : Int} {row : Option Nat} (R : RdU B a r k) (hg : a.grownBy b row) (hr : ∀ g, row = some g → B ≤ g) : RdU B b r k :=
  R.below ((Below.refl _ _).grown hg R.base hr)
theorem own_kept {w w' : World} {base : Nat} {e : TypeId} {v : Value} {n r : Nat} {xs : List Value} (h : w.ownsRow base e 1 v n xs) (K : Kept r w w') (hr : r < base) : w'.ownsRow base e 1 v n xs :=
  h.kept K.grows (.inr fun he => by have := (h.lt r he).1; omega)
theorem Ints.of_own {w : World} {base : Nat} {e : TypeId} {v : Value} {n : Nat} {xs : List Int} (h : w.ownsRow base e 1 v n (xs.map (Value.int .i64))) : ∃ A cap, v = .slice A n cap ∧ Ints w A n xs := by
  have hl : xs.length = n := by simpa using h.1
  have h0 := h
  rcases h0.2 with ⟨rfl, rfl⟩ | ⟨g, cap, cur, rfl, _, hh, _⟩
  · exact ⟨none, 0, rfl, hl, fun hn => by omega⟩
  · refine ⟨_, _, rfl, hl, fun _ => ⟨g, 0, rfl, ?_, fun k hk => ?_⟩⟩
    · exact (h.lt g rfl).2
    · rw [Nat.zero_add, h.cellAt k (by omega), List.getElem?_map, List.getD_eq_getElem?_getD, List.getElem?_eq_getElem (by omega)]
      rfl
/-- Every number fits. -/
def Fits (xs : List Int) : Prop := ∀ x ∈ xs, -2000000001 ≤ x ∧ x ≤ 2000000001
theorem Fits.snoc {xs : List Int} (h : Fits xs) {x : Int} (hx : -2000000001 ≤ x ∧ x ≤ 2000000001) : Fits (xs ++ [x]) := fun y hy => by
  rcases List.mem_append.1 hy with g | g
  · exact h y g
  · rw [List.mem_singleton.1 g]; exact hx
theorem Fits.set {xs : List Int} (h : Fits xs) (j : Nat) {x : Int} (hx : -2000000001 ≤ x ∧ x ≤ 2000000001) : Fits (xs.set j x) := fun y hy => by
  rcases List.mem_or_eq_of_mem_set hy with g | rfl
  · exact h y g
  · exact hx
/-- A drawn list. -/
def ListDrawn (B : Nat) (r : Nat) (k : Int) (w : World) (e : Ending) (w' : World) : Prop :=
  ∃ (A : Option Addr) (n cap : Nat) (xs : List Int), n ≤ 201 ∧ Fits xs ∧ e = .returned (.slice A n cap) ∧ Ints w' A n xs ∧ RdU B w' r (k + 700) ∧ Kept r w w'
/-- At a round's head. -/
def ListRel (B : Nat) (r : Nat) (k : Int) (w : World) (n : Nat) (v i : Value) (W : World) : Prop :=
  ∃ (j : Nat) (xs : List Int), j ≤ n ∧ i = .int .i64 j ∧ Fits xs ∧ W.ownsRow w.heap.size 3 1 v j (xs.map (Value.int .i64)) ∧ RdU B W r (k + 3 + 3 * j) ∧ Kept r w W
theorem list_next {B r : Nat} {k : Int} {w W w1 : World} {n j : Nat} {v v' : Value} {xs : List Int} {z : Int} (hj : j < n) (F : Fits xs) (hz : -2000000001 ≤ z ∧ z ≤ 2000000001)
    (h : w1.ownsRow w.heap.size 3 1 v' (j + 1) (xs.map (Value.int .i64) ++ [.int .i64 z])) (R : RdU B W r (k + 3 + 3 * j + 3)) (K : Kept r w W) (hg : W.grownBy w1 v.ownBlock) (hb : ∀ g, v.ownBlock = some g → w.heap.size ≤ g) (hB : B ≤ w.heap.size) :
    ListRel B r k w n v' (.int .i64 (j + 1)) w1 :=
  ⟨j + 1, xs ++ [z], by omega, by simp, F.snoc hz, by simpa using h, (R.grown hg (fun g e => Nat.le_trans hB (hb g e))).mono (by omega), K.grown hg hb⟩
theorem int_info : (Tryd.prog.info? 3).map (fun i => (i.zero, i.size, i.bytes)) = some (some (.int .i64 0), 1, 8) := by kernel_rfl

/-- A drawn key. -/
def KeyDrawn (B : Nat) (r : Nat) (k : Int) (w : World) (e : Ending) (w' : World) : Prop :=
  ∃ x : Int, (-1 ≤ x ∧ x ≤ 10000) ∧ e = .returned (.int .i64 x) ∧ RdU B w' r (k + 3) ∧ Kept r w w'

/-- A list has been drawn. -/
def DrawnList (w : World) (e : Ending) (w' : World) : Prop :=
  ∃ (A : Option Addr) (n cap : Nat) (xs : List Int), n ≤ 201 ∧ Fits xs ∧ e = .returned (.slice A n cap) ∧ Ints w' A n xs ∧ Below w.heap.size w w'
/-- A key and a list have been drawn. -/
def DrawnTag (w : World) (e : Ending) (w' : World) : Prop :=
  ∃ (k : Int) (A : Option Addr) (n cap : Nat) (xs : List Int), (-1 ≤ k ∧ k ≤ 10000) ∧ n ≤ 201 ∧ Fits xs ∧ e = .returned (.tuple #[.int .i64 k, .slice A n cap]) ∧ Ints w' A n xs ∧ Below w.heap.size w w'

end Go.Proofs.YtnoenjociioffaaDoor

namespace Go.Proofs.YtnoenjociioffaaDoor
open Go.RowKit
open M

theorem Ints.nil (w : World) (A : Option Addr) : Ints w A 0 [] := ⟨rfl, fun h => absurd h (by omega)⟩
theorem Ints.drew {w : World} {A : Option Addr} {n : Nat} {xs : List Int} (h : Ints w A n xs) : Ints w.drew A n xs := h
theorem Ints.one (w : World) (a : Int) (t : TypeId) : Ints (w.alloc (.cells #[.int .i64 a] t)) (some ⟨w.heap.size, 0, none⟩) 1 [a] :=
  ⟨rfl, fun _ => ⟨w.heap.size, 0, rfl, by simp, fun k hk => by
    match k, hk with
    | 0, _ => simp⟩⟩
theorem Ints.two (w : World) (a b : Int) (t : TypeId) : Ints (w.alloc (.cells #[.int .i64 a, .int .i64 b] t)) (some ⟨w.heap.size, 0, none⟩) 2 [a, b] :=
  ⟨rfl, fun _ => ⟨w.heap.size, 0, rfl, by simp, fun k hk => by
    match k, hk with
    | 0, _ => simp
    | 1, _ => simp⟩⟩
theorem Ints.news {w : World} {b off m : Nat} {ys : List Int} (I : Ints w (some ⟨b, off, Option.none⟩) m ys) : ∀ j u, (ys.map (Value.int .i64))[j]? = some u → w.cell? ((⟨b, off, Option.none⟩ : Addr).add j) = some u := by
  intro j u hj
  rw [List.getElem?_map] at hj
  have hl : j < ys.length := by
    rcases Nat.lt_or_ge j ys.length with h | h
    · exact h
    · rw [List.getElem?_eq_none h] at hj; cases hj
  obtain ⟨b', off', e, _, hc⟩ := I.2 (by have := I.1; omega)
  cases e
  rw [List.getElem?_eq_getElem hl] at hj
  cases hj
  rw [Addr.add_lit, hc j (by have := I.1; omega), List.getD_eq_getElem?_getD, List.getElem?_eq_getElem hl]
  rfl
/-- An append of nothing. -/
theorem append_nothing (w : World) (base : Nat) (ty : TypeId) (v : Value) (n : Nat) (xs : List Value) (hown : w.ownsRow base 3 1 v n xs) (A : Option Addr) (c : Nat) (h0 : ∀ ad, A = some ad → False) :
    (Builtin.append_ #[104, 104] ty #[v, .slice A 0 c]).run Tryd.prog w = .ok v w := by
  obtain ⟨i0, hi, hz0, hz1, hz2⟩ := info_parts int_info
  cases A with
  | some ad => exact (h0 ad rfl).elim
  | none =>
    rcases hown.2 with ⟨rfl, rfl⟩ | ⟨g, cap, cur, rfl, _, _, hnc, _⟩
    · simp [Builtin.append_, run_underlying Tryd.underlying104, sizeOf, typeInfo, hi, Builtin.lenOf, Builtin.firstCells]
    · simp [Builtin.append_, run_underlying Tryd.underlying104, sizeOf, typeInfo, hi, Builtin.lenOf, Builtin.firstCells, hnc, storeCells]
theorem run_append_ints (w : World) (base : Nat) (ty : TypeId) (v : Value) (n : Nat) (xs : List Int) (hown : w.ownsRow base 3 1 v n (xs.map (Value.int .i64))) (A : Option Addr) (m c : Nat) (ys : List Int) (I : Ints w A m ys)
    (hn : n + m ≤ 1000000) (hb : base ≤ w.heap.size) :
    ∃ v' w', (Builtin.append_ #[104, 104] ty #[v, .slice A m c]).run Tryd.prog w = .ok v' w' ∧ w'.ownsRow base 3 1 v' (n + m) ((xs ++ ys).map (Value.int .i64)) ∧ w.grownBy w' v.ownBlock ∧ (v'.ownBlock = v.ownBlock ∨ v'.ownBlock = some w.heap.size) := by
  obtain ⟨i0, hi, hz0, hz1, hz2⟩ := info_parts int_info
  by_cases h : ∃ b off, A = some ⟨b, off, Option.none⟩
  · obtain ⟨b, off, rfl⟩ := h
    obtain ⟨v', w', hr, h2, h3, _, h5⟩ := run_append_own_at (P := Tryd.prog) w base 104 ty 3 i0 (.int .i64 0) 1 8 Tryd.underlying104 hi hz0 hz1 hz2 rfl (by decide) v n _ hown ⟨b, off, Option.none⟩ m c (ys.map (Value.int .i64)) (by have := I.1; simp; omega) I.news (ints_oneCell _ _) (by unfold maxLen; omega) (by omega) hb
    exact ⟨v', w', hr, by simpa using h2, h3, h5⟩
  · have hm : m = 0 := by
      rcases Nat.eq_zero_or_pos m with h0 | h0
      · exact h0
      · obtain ⟨b, off, e, _⟩ := I.2 h0
        exact (h ⟨b, off, e⟩).elim
    subst hm
    have hy : ys = [] := List.eq_nil_of_length_eq_zero I.1
    subst hy
    cases A with
    | none => exact ⟨v, w, append_nothing w base ty v n _ hown _ c (fun _ e => by cases e), by simpa using hown, World.grownBy.refl w _, .inl rfl⟩
    | some ad =>
      obtain ⟨v', w', hr, h2, h3, _, h5⟩ := run_append_own_at (P := Tryd.prog) w base 104 ty 3 i0 (.int .i64 0) 1 8 Tryd.underlying104 hi hz0 hz1 hz2 rfl (by decide) v n _ hown ad 0 c [] rfl (fun j u hj => by simp at hj) (fun u hu => by simp at hu) (by unfold maxLen; omega) (by omega) hb
      exact ⟨v', w', hr, by simpa using h2, h3, h5⟩
/-- At the operation: an append of a slice of integers to a row of the call's own. -/
theorem append_ints (w : World) {ops : Array Oper} {rest : List Oper} {o : Oper} {a : Act} {Q : Exit → Act → World → Prop} (hgd : o.guard = Option.none) (s x : Operand)
    (ho : o.op = .call { callee := .builtin .append, args := #[s, x], argTypes := #[104, 104] }) (base : Nat) (v : Value) (n : Nat) (xs : List Int) (hs : a.eval s = v) (hown : w.ownsRow base 3 1 v n (xs.map (Value.int .i64)))
    (A : Option Addr) (m c : Nat) (ys : List Int) (hx : a.eval x = .slice A m c) (I : Ints w A m ys) (hn : n + m ≤ 1000000) (hb : base ≤ w.heap.size)
    (h : ∀ v' w', w'.ownsRow base 3 1 v' (n + m) ((xs ++ ys).map (Value.int .i64)) → w.grownBy w' v.ownBlock → (v'.ownBlock = v.ownBlock ∨ v'.ownBlock = some w.heap.size) → wpList Tryd.prog ops Q rest (a.put o.dst v') w') :
    wpList Tryd.prog ops Q (o :: rest) a w := by
  refine wpList_plain hgd fun K hK => ?_
  obtain ⟨v', w', hr, h2, h3, h4⟩ := run_append_ints w base o.type v n xs hown A m c ys I hn hb
  unfold Oper.wp execOp
  simp only [ho, resolve, invoke, builtin, Sem.run_bind, Sem.run_pure, Result.andThen_ok, List.map_toArray, List.map_cons, List.map_nil, hs, hx, hr]
  exact hK _ _ (h v' w' h2 h3 h4)

end Go.Proofs.YtnoenjociioffaaDoor
