/-
  A level that came in as an argument: eleven cells; its walls and gates can be read.
-/
import Derived.Test.YtnoenjociioffabLevS
import Derived.Test.YtnoenjociioffabOpenBox
import Derived.Deep.Slices
import Derived.Deep.Fields
import Derived.ChangeSame
namespace Go.Proofs.Ytnoenjociioffab
open Go.ChangeShapes Go.WideShapes Go.ChangeAt Go.RowKit Go.Joins Go.Deep
open M

theorem ints_of_box {H : Type} {enc : TypeId × Value → H} {W : World} {base : Nat} {sp : Nat → Bool} {held : Bool} {n : Nat} {c0 c1 c2 c3 : Value} {y : DataW H × List MemPlace}
    (h : DataW.trod enc Try.prog W base sp held n 46 [c0, c1, c2, c3] = some y) : ∃ a b c d : Int, c0 = .int .i64 a ∧ c1 = .int .i64 b ∧ c2 = .int .i64 c ∧ c3 = .int .i64 d := by
  obtain ⟨y0, y1, m, _, _, h0, h1⟩ := trod_struct2 Try.underlying46 h
  simp [cellsLV] at h0 h1
  obtain ⟨a, b, rfl, rfl⟩ := ints_of_vec h0
  obtain ⟨c, d, rfl, rfl⟩ := ints_of_vec h1
  exact ⟨a, b, c, d, rfl, rfl, rfl, rfl⟩
theorem cellsLL : Try.prog.cellsOf 48 = 11 := by kernel_rfl
theorem cellsLS : Try.prog.cellsOf 44 = 1 := by kernel_rfl
theorem box_at {H : Type} {enc : TypeId × Value → H} {W : World} {base : Nat} {sp : Nat → Bool} {held : Bool} {n : Nat} {a : Addr} {cs : List Value} {y : DataW H × List MemPlace}
    (hc : W.cells? base a 4 = some cs) (h : DataW.trod enc Try.prog W base sp held n 46 cs = some y) : ∃ q : Bx, W.cell? (a.add 0) = some (.int .i64 q.a) ∧ W.cell? (a.add 1) = some (.int .i64 q.b) ∧ W.cell? (a.add 2) = some (.int .i64 q.c) ∧ W.cell? (a.add 3) = some (.int .i64 q.d) := by
  obtain ⟨_, hl, hat⟩ := World.cells?_some hc
  match cs, hl with
  | [c0, c1, c2, c3], _ =>
    obtain ⟨p, q, s, t, rfl, rfl, rfl, rfl⟩ := ints_of_box h
    exact ⟨⟨p, q, s, t⟩, hat 0 (by omega), hat 1 (by omega), hat 2 (by omega), hat 3 (by omega)⟩
theorem list_of {P : Nat → Bx → Prop} : ∀ n : Nat, (∀ i, i < n → ∃ q, P i q) → ∃ bs : List Bx, bs.length = n ∧ ∀ i, i < n → P i (bs.getD i bz)
  | 0, _ => ⟨[], rfl, fun _ h => absurd h (by omega)⟩
  | n + 1, h => by
    obtain ⟨bs, hl, hb⟩ := list_of n (fun i hi => h i (by omega))
    obtain ⟨q, hq⟩ := h n (by omega)
    refine ⟨bs ++ [q], by simp [hl], fun i hi => ?_⟩
    by_cases e : i < n
    · rw [List.getD_eq_getElem?_getD, List.getElem?_append_left (by omega), ← List.getD_eq_getElem?_getD]
      exact hb i e
    · obtain rfl : i = n := by omega
      rw [List.getD_eq_getElem?_getD, List.getElem?_append_right (by omega), hl]
      simpa using hq
/-- A slice of boxes that came in. -/
theorem open_boxes {H : Type} {enc : TypeId × Value → H} {W : World} {base : Nat} {sp : Nat → Bool} {held : Bool} {fuel : Nat} {v : Value} {y : DataW H × List MemPlace}
    (h : DataW.trod enc Try.prog W base sp held fuel 44 [v] = some y) : ∃ (A : Option Addr) (n c : Nat) (bs : List Bx), v = .slice A n c ∧ n ≤ 9223372036854775807 ∧ Boxes W A n bs := by
  rcases open_slice Try.underlying44 h with ⟨h0, _⟩ | ⟨a, len, cap, m, n, D, Pl, hcs, hb, hl, hm, hmm, hx, hi⟩
  · simp only [List.cons.injEq, and_true] at h0
    exact ⟨none, 0, 0, [], h0, by omega, Boxes.nil W _⟩
  · simp only [List.cons.injEq, and_true] at hcs
    unfold maxLen at hm
    have hlm : len ≤ m := by rw [hmm]; split <;> omega
    have hq : ∀ i, i < len → ∃ q : Bx, W.cell? (a.add (i * 4 + 0)) = some (.int .i64 q.a) ∧ W.cell? (a.add (i * 4 + 1)) = some (.int .i64 q.b) ∧ W.cell? (a.add (i * 4 + 2)) = some (.int .i64 q.c) ∧ W.cell? (a.add (i * 4 + 3)) = some (.int .i64 q.d) := fun i hil => by
      obtain ⟨cs', hc, ht⟩ := hi i (by omega)
      rw [cellsLB] at hc
      obtain ⟨q, q0, q1, q2, q3⟩ := box_at hc ht
      exact ⟨q, by rw [← add_add]; exact q0, by rw [← add_add]; exact q1, by rw [← add_add]; exact q2, by rw [← add_add]; exact q3⟩
    obtain ⟨bs, hbl, hbs⟩ := list_of len hq
    refine ⟨some a, len, cap, bs, hcs, by omega, hbl, fun h0 => ?_⟩
    have s0 := (hbs 0 h0).1
    obtain ⟨b, off, spot⟩ := a
    have hspot : spot = none := by simpa [Addr.add] using World.cell?_spot s0
    subst hspot
    have e : ∀ j, (Addr.mk b off none).add j = ⟨b, off + j, none⟩ := fun j => by by_cases h : j = 0 <;> simp [Addr.add, h]
    refine ⟨b, off, rfl, ?_, fun k hk => ?_⟩
    · rw [e] at s0; exact World.block_lt_of_cell? W _ s0
    · obtain ⟨q0, q1, q2, q3⟩ := hbs k hk
      rw [e] at q0 q1 q2 q3
      exact ⟨q0, q1, q2, q3⟩
set_option maxRecDepth 100000 in
/-- A level that came in. -/
theorem open_level {H : Type} {enc : TypeId × Value → H} {W : World} {r : Reach} {b0 base : Nat} {sp : Nat → Bool} {held : Bool} {v : Value} {d : DataW H} {p : List MemPlace}
    (hv : Value.okWide Try.prog W r b0 48 v) (h : DataW.Trod enc Try.prog W base sp held 48 v d p) :
    ∃ (i t x y : Int) (A : Option Addr) (n c : Nat) (G : Option Addr) (m kk : Nat) (p q s z b : Int) (ws gs : List Bx), v = lev i t x y A n c G m kk p q s z b ∧ n ≤ 9223372036854775807 ∧ m ≤ 9223372036854775807 ∧ Boxes W A n ws ∧ Boxes W G m gs := by
  obtain ⟨cs, rfl, hsz⟩ := okWide_struct Try.underlying48 hv
  rw [cellsLL] at hsz
  obtain ⟨l⟩ := cs
  obtain ⟨c0, c1, c2, c3, c4, c5, c6, c7, c8, c9, c10, rfl⟩ : ∃ c0 c1 c2 c3 c4 c5 c6 c7 c8 c9 c10, l = [c0, c1, c2, c3, c4, c5, c6, c7, c8, c9, c10] := by
    match l, hsz with
    | [c0, c1, c2, c3, c4, c5, c6, c7, c8, c9, c10], _ => exact ⟨c0, c1, c2, c3, c4, c5, c6, c7, c8, c9, c10, rfl⟩
  obtain ⟨fuel, hf⟩ := h
  obtain ⟨xs, n, _, _, _, hlen, hg⟩ := DataW.trod_struct Try.underlying48 hf
  match xs, hlen with
  | [y0, y1, y2, y3, y4, y5, y6], _ =>
    have h0 := hg 0 _ rfl
    have h1 := hg 1 _ rfl
    have h2 := hg 2 _ rfl
    have h3 := hg 3 _ rfl
    have h4 := hg 4 _ rfl
    have h5 := hg 5 _ rfl
    have h6 := hg 6 _ rfl
    simp [cellsLI, Value.cells] at h0 h1 h6
    simp [cellsLV, Value.cells] at h2
    simp [cellsLS, Value.cells] at h3 h4
    simp [cellsLB, Value.cells] at h5
    obtain ⟨i, e0, _⟩ := DataW.trod_int Try.underlying3 h0
    obtain ⟨t, e1, _⟩ := DataW.trod_int Try.underlying3 h1
    obtain ⟨b, e6, _⟩ := DataW.trod_int Try.underlying3 h6
    simp at e0 e1 e6
    obtain ⟨x, y, rfl, rfl⟩ := ints_of_vec h2
    obtain ⟨p, q, s, z, rfl, rfl, rfl, rfl⟩ := ints_of_box h5
    obtain ⟨A, na, c, ws, rfl, hn, I⟩ := open_boxes h3
    obtain ⟨G, m, kk, gs, rfl, hm, J⟩ := open_boxes h4
    subst e0 e1 e6
    exact ⟨i, t, x, y, A, na, c, G, m, kk, p, q, s, z, b, ws, gs, rfl, hn, hm, I, J⟩

end Go.Proofs.Ytnoenjociioffab
