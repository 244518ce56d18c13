/-
  A box that came in as an argument is four integers.
  A level that came in as an argument: eleven cells; its walls and gates can be read.
  An input that came in as an argument: three cells; a slice of inputs that came in can be read.
  A state that came in as an argument: nine cells.
-/
import Derived.Test.YtnoenjociioffaaDoorBoxS
import Derived.ProofKit
import Derived.OpenShut
import Derived.Lib.SmallJoins
import Derived.Test.YtnoenjociioffaaDoorLevS
import Derived.Deep.Slices
import Derived.Deep.Fields
import Derived.ChangeSame
import Derived.Test.YtnoenjociioffaaDoorInRow
import Derived.Test.YtnoenjociioffaaDoorEng
namespace Go.Proofs.YtnoenjociioffaaDoor
open Go.ChangeShapes Go.WideShapes Go.ChangeAt Go.RowKit Go.Joins

theorem cellsLB : Tryd.prog.cellsOf 53 = 4 := by kernel_rfl
theorem cellsLV : Tryd.prog.cellsOf 50 = 2 := by kernel_rfl
theorem cellsLI : Tryd.prog.cellsOf 3 = 1 := by kernel_rfl
theorem ints_of_vec {H : Type} {enc : TypeId × Value → H} {W : World} {base : Nat} {sp : Nat → Bool} {held : Bool} {n : Nat} {c0 c1 : Value} {y : DataW H × List MemPlace}
    (h : DataW.trod enc Tryd.prog W base sp held n 50 [c0, c1] = some y) : ∃ x z : Int, c0 = .int .i64 x ∧ c1 = .int .i64 z := by
  obtain ⟨y0, y1, m, _, _, h0, h1⟩ := trod_struct2 Tryd.underlying50 h
  simp [cellsLI] at h0 h1
  obtain ⟨x, e0, _⟩ := DataW.trod_int Tryd.underlying3 h0
  obtain ⟨z, e1, _⟩ := DataW.trod_int Tryd.underlying3 h1
  simp at e0 e1
  exact ⟨x, z, e0, e1⟩
set_option maxRecDepth 100000 in
theorem open_box {H : Type} {enc : TypeId × Value → H} {W : World} {r : Reach} {b0 base : Nat} {sp : Nat → Bool} {held : Bool} {v : Value} {d : DataW H} {p : List MemPlace}
    (hv : Value.okWide Tryd.prog W r b0 53 v) (h : DataW.Trod enc Tryd.prog W base sp held 53 v d p) : ∃ x y z t : Int, v = box x y z t := by
  obtain ⟨cs, rfl, hsz⟩ := okWide_struct Tryd.underlying53 hv
  rw [cellsLB] at hsz
  obtain ⟨l⟩ := cs
  obtain ⟨c0, c1, c2, c3, rfl⟩ : ∃ c0 c1 c2 c3, l = [c0, c1, c2, c3] := by
    match l, hsz with
    | [a, b, c, d], _ => exact ⟨a, b, c, d, rfl⟩
  obtain ⟨fuel, hf⟩ := h
  obtain ⟨y0, y1, n, _, _, h0, h1⟩ := trod_struct2 Tryd.underlying53 hf
  simp [cellsLV, Value.cells] at h0 h1
  obtain ⟨x, y, rfl, rfl⟩ := ints_of_vec h0
  obtain ⟨z, t, rfl, rfl⟩ := ints_of_vec h1
  exact ⟨x, y, z, t, rfl⟩

end Go.Proofs.YtnoenjociioffaaDoor

namespace Go.Proofs.YtnoenjociioffaaDoor
open Go.ChangeShapes Go.WideShapes Go.ChangeAt Go.RowKit Go.Joins Go.Deep
open M

theorem ints_of_box {H : Type} {enc : TypeId × Value → H} {W : World} {base : Nat} {sp : Nat → Bool} {held : Bool} {n : Nat} {c0 c1 c2 c3 : Value} {y : DataW H × List MemPlace}
    (h : DataW.trod enc Tryd.prog W base sp held n 53 [c0, c1, c2, c3] = some y) : ∃ a b c d : Int, c0 = .int .i64 a ∧ c1 = .int .i64 b ∧ c2 = .int .i64 c ∧ c3 = .int .i64 d := by
  obtain ⟨y0, y1, m, _, _, h0, h1⟩ := trod_struct2 Tryd.underlying53 h
  simp [cellsLV] at h0 h1
  obtain ⟨a, b, rfl, rfl⟩ := ints_of_vec h0
  obtain ⟨c, d, rfl, rfl⟩ := ints_of_vec h1
  exact ⟨a, b, c, d, rfl, rfl, rfl, rfl⟩
theorem cellsLL : Tryd.prog.cellsOf 55 = 11 := by kernel_rfl
theorem cellsLS : Tryd.prog.cellsOf 51 = 1 := by kernel_rfl
theorem box_at {H : Type} {enc : TypeId × Value → H} {W : World} {base : Nat} {sp : Nat → Bool} {held : Bool} {n : Nat} {a : Addr} {cs : List Value} {y : DataW H × List MemPlace}
    (hc : W.cells? base a 4 = some cs) (h : DataW.trod enc Tryd.prog W base sp held n 53 cs = some y) : ∃ q : Bx, W.cell? (a.add 0) = some (.int .i64 q.a) ∧ W.cell? (a.add 1) = some (.int .i64 q.b) ∧ W.cell? (a.add 2) = some (.int .i64 q.c) ∧ W.cell? (a.add 3) = some (.int .i64 q.d) := by
  obtain ⟨_, hl, hat⟩ := World.cells?_some hc
  match cs, hl with
  | [c0, c1, c2, c3], _ =>
    obtain ⟨p, q, s, t, rfl, rfl, rfl, rfl⟩ := ints_of_box h
    exact ⟨⟨p, q, s, t⟩, hat 0 (by omega), hat 1 (by omega), hat 2 (by omega), hat 3 (by omega)⟩
theorem list_of {P : Nat → Bx → Prop} : ∀ n : Nat, (∀ i, i < n → ∃ q, P i q) → ∃ bs : List Bx, bs.length = n ∧ ∀ i, i < n → P i (bs.getD i bz)
  | 0, _ => ⟨[], rfl, fun _ h => absurd h (by omega)⟩
  | n + 1, h => by
    obtain ⟨bs, hl, hb⟩ := list_of n (fun i hi => h i (by omega))
    obtain ⟨q, hq⟩ := h n (by omega)
    refine ⟨bs ++ [q], by simp [hl], fun i hi => ?_⟩
    by_cases e : i < n
    · rw [List.getD_eq_getElem?_getD, List.getElem?_append_left (by omega), ← List.getD_eq_getElem?_getD]
      exact hb i e
    · obtain rfl : i = n := by omega
      rw [List.getD_eq_getElem?_getD, List.getElem?_append_right (by omega), hl]
      simpa using hq
/-- A slice of boxes that came in. -/
theorem open_boxes {H : Type} {enc : TypeId × Value → H} {W : World} {base : Nat} {sp : Nat → Bool} {held : Bool} {fuel : Nat} {v : Value} {y : DataW H × List MemPlace}
    (h : DataW.trod enc Tryd.prog W base sp held fuel 51 [v] = some y) : ∃ (A : Option Addr) (n c : Nat) (bs : List Bx), v = .slice A n c ∧ n ≤ 9223372036854775807 ∧ Boxes W A n bs := by
  rcases open_slice Tryd.underlying51 h with ⟨h0, _⟩ | ⟨a, len, cap, m, n, D, Pl, hcs, hb, hl, hm, hmm, hx, hi⟩
  · simp only [List.cons.injEq, and_true] at h0
    exact ⟨none, 0, 0, [], h0, by omega, Boxes.nil W _⟩
  · simp only [List.cons.injEq, and_true] at hcs
    unfold maxLen at hm
    have hlm : len ≤ m := by rw [hmm]; split <;> omega
    have hq : ∀ i, i < len → ∃ q : Bx, W.cell? (a.add (i * 4 + 0)) = some (.int .i64 q.a) ∧ W.cell? (a.add (i * 4 + 1)) = some (.int .i64 q.b) ∧ W.cell? (a.add (i * 4 + 2)) = some (.int .i64 q.c) ∧ W.cell? (a.add (i * 4 + 3)) = some (.int .i64 q.d) := fun i hil => by
      obtain ⟨cs', hc, ht⟩ := hi i (by omega)
      rw [cellsLB] at hc
      obtain ⟨q, q0, q1, q2, q3⟩ := box_at hc ht
      exact ⟨q, by rw [← add_add]; exact q0, by rw [← add_add]; exact q1, by rw [← add_add]; exact q2, by rw [← add_add]; exact q3⟩
    obtain ⟨bs, hbl, hbs⟩ := list_of len hq
    refine ⟨some a, len, cap, bs, hcs, by omega, hbl, fun h0 => ?_⟩
    have s0 := (hbs 0 h0).1
    obtain ⟨b, off, spot⟩ := a
    have hspot : spot = none := by simpa [Addr.add] using World.cell?_spot s0
    subst hspot
    have e : ∀ j, (Addr.mk b off none).add j = ⟨b, off + j, none⟩ := fun j => by by_cases h : j = 0 <;> simp [Addr.add, h]
    refine ⟨b, off, rfl, ?_, fun k hk => ?_⟩
    · rw [e] at s0; exact World.block_lt_of_cell? W _ s0
    · obtain ⟨q0, q1, q2, q3⟩ := hbs k hk
      rw [e] at q0 q1 q2 q3
      exact ⟨q0, q1, q2, q3⟩
set_option maxRecDepth 100000 in
/-- A level that came in. -/
theorem open_level {H : Type} {enc : TypeId × Value → H} {W : World} {r : Reach} {b0 base : Nat} {sp : Nat → Bool} {held : Bool} {v : Value} {d : DataW H} {p : List MemPlace}
    (hv : Value.okWide Tryd.prog W r b0 55 v) (h : DataW.Trod enc Tryd.prog W base sp held 55 v d p) :
    ∃ (i t x y : Int) (A : Option Addr) (n c : Nat) (G : Option Addr) (m kk : Nat) (p q s z b : Int) (ws gs : List Bx), v = lev i t x y A n c G m kk p q s z b ∧ n ≤ 9223372036854775807 ∧ m ≤ 9223372036854775807 ∧ Boxes W A n ws ∧ Boxes W G m gs := by
  obtain ⟨cs, rfl, hsz⟩ := okWide_struct Tryd.underlying55 hv
  rw [cellsLL] at hsz
  obtain ⟨l⟩ := cs
  obtain ⟨c0, c1, c2, c3, c4, c5, c6, c7, c8, c9, c10, rfl⟩ : ∃ c0 c1 c2 c3 c4 c5 c6 c7 c8 c9 c10, l = [c0, c1, c2, c3, c4, c5, c6, c7, c8, c9, c10] := by
    match l, hsz with
    | [c0, c1, c2, c3, c4, c5, c6, c7, c8, c9, c10], _ => exact ⟨c0, c1, c2, c3, c4, c5, c6, c7, c8, c9, c10, rfl⟩
  obtain ⟨fuel, hf⟩ := h
  obtain ⟨xs, n, _, _, _, hlen, hg⟩ := DataW.trod_struct Tryd.underlying55 hf
  match xs, hlen with
  | [y0, y1, y2, y3, y4, y5, y6], _ =>
    have h0 := hg 0 _ rfl
    have h1 := hg 1 _ rfl
    have h2 := hg 2 _ rfl
    have h3 := hg 3 _ rfl
    have h4 := hg 4 _ rfl
    have h5 := hg 5 _ rfl
    have h6 := hg 6 _ rfl
    simp [cellsLI, Value.cells] at h0 h1 h6
    simp [cellsLV, Value.cells] at h2
    simp [cellsLS, Value.cells] at h3 h4
    simp [cellsLB, Value.cells] at h5
    obtain ⟨i, e0, _⟩ := DataW.trod_int Tryd.underlying3 h0
    obtain ⟨t, e1, _⟩ := DataW.trod_int Tryd.underlying3 h1
    obtain ⟨b, e6, _⟩ := DataW.trod_int Tryd.underlying3 h6
    simp at e0 e1 e6
    obtain ⟨x, y, rfl, rfl⟩ := ints_of_vec h2
    obtain ⟨p, q, s, z, rfl, rfl, rfl, rfl⟩ := ints_of_box h5
    obtain ⟨A, na, c, ws, rfl, hn, I⟩ := open_boxes h3
    obtain ⟨G, m, kk, gs, rfl, hm, J⟩ := open_boxes h4
    subst e0 e1 e6
    exact ⟨i, t, x, y, A, na, c, G, m, kk, p, q, s, z, b, ws, gs, rfl, hn, hm, I, J⟩

end Go.Proofs.YtnoenjociioffaaDoor

namespace Go.Proofs.YtnoenjociioffaaDoor
open Go.ChangeShapes Go.WideShapes Go.ChangeAt Go.RowKit Go.Joins Go.Deep
open M

theorem cellsLN : Tryd.prog.cellsOf 58 = 3 := by kernel_rfl
theorem cellsLO : Tryd.prog.cellsOf 4 = 1 := by kernel_rfl
theorem cells_of_input {H : Type} {enc : TypeId × Value → H} {W : World} {base : Nat} {sp : Nat → Bool} {held : Bool} {n : Nat} {c0 c1 c2 : Value} {y : DataW H × List MemPlace}
    (h : DataW.trod enc Tryd.prog W base sp held n 58 [c0, c1, c2] = some y) : ∃ (s p : Int) (z : Bool), c0 = .int .i64 s ∧ c1 = .int .i64 p ∧ c2 = .bool z := by
  obtain ⟨xs, n, _, _, _, hlen, hg⟩ := DataW.trod_struct Tryd.underlying58 h
  match xs, hlen with
  | [y0, y1, y2], _ =>
    have h0 := hg 0 _ rfl
    have h1 := hg 1 _ rfl
    have h2 := hg 2 _ rfl
    simp [cellsLI] at h0 h1
    simp [cellsLO] at h2
    obtain ⟨s, e0, _⟩ := DataW.trod_int Tryd.underlying3 h0
    obtain ⟨p, e1, _⟩ := DataW.trod_int Tryd.underlying3 h1
    obtain ⟨z, e2, _⟩ := DataW.trod_bool Tryd.underlying4 h2
    simp at e0 e1 e2
    exact ⟨s, p, z, e0, e1, e2⟩
set_option maxRecDepth 100000 in
theorem open_input {H : Type} {enc : TypeId × Value → H} {W : World} {r : Reach} {b0 base : Nat} {sp : Nat → Bool} {held : Bool} {v : Value} {d : DataW H} {p : List MemPlace}
    (hv : Value.okWide Tryd.prog W r b0 58 v) (h : DataW.Trod enc Tryd.prog W base sp held 58 v d p) : ∃ (s p : Int) (z : Bool), v = inp s p z := by
  obtain ⟨cs, rfl, hsz⟩ := okWide_struct Tryd.underlying58 hv
  rw [cellsLN] at hsz
  obtain ⟨l⟩ := cs
  obtain ⟨c0, c1, c2, rfl⟩ : ∃ c0 c1 c2, l = [c0, c1, c2] := by
    match l, hsz with
    | [a, b, c], _ => exact ⟨a, b, c, rfl⟩
  obtain ⟨fuel, hf⟩ := h
  obtain ⟨s, p, z, rfl, rfl, rfl⟩ := cells_of_input (by simpa [Value.cells] using hf)
  exact ⟨s, p, z, rfl⟩
theorem input_at {H : Type} {enc : TypeId × Value → H} {W : World} {base : Nat} {sp : Nat → Bool} {held : Bool} {n : Nat} {a : Addr} {cs : List Value} {y : DataW H × List MemPlace}
    (hc : W.cells? base a 3 = some cs) (h : DataW.trod enc Tryd.prog W base sp held n 58 cs = some y) : ∃ q : In, W.cell? (a.add 0) = some (.int .i64 q.s) ∧ W.cell? (a.add 1) = some (.int .i64 q.p) ∧ W.cell? (a.add 2) = some (.bool q.z) := by
  obtain ⟨_, hl, hat⟩ := World.cells?_some hc
  match cs, hl with
  | [c0, c1, c2], _ =>
    obtain ⟨s, p, z, rfl, rfl, rfl⟩ := cells_of_input h
    exact ⟨⟨s, p, z⟩, hat 0 (by omega), hat 1 (by omega), hat 2 (by omega)⟩
theorem list_ofI {P : Nat → In → Prop} : ∀ n : Nat, (∀ i, i < n → ∃ q, P i q) → ∃ xs : List In, xs.length = n ∧ ∀ i, i < n → P i (xs.getD i iz)
  | 0, _ => ⟨[], rfl, fun _ h => absurd h (by omega)⟩
  | n + 1, h => by
    obtain ⟨xs, hl, hb⟩ := list_ofI n (fun i hi => h i (by omega))
    obtain ⟨q, hq⟩ := h n (by omega)
    refine ⟨xs ++ [q], by simp [hl], fun i hi => ?_⟩
    by_cases e : i < n
    · rw [List.getD_eq_getElem?_getD, List.getElem?_append_left (by omega), ← List.getD_eq_getElem?_getD]
      exact hb i e
    · obtain rfl : i = n := by omega
      rw [List.getD_eq_getElem?_getD, List.getElem?_append_right (by omega), hl]
      simpa using hq

end Go.Proofs.YtnoenjociioffaaDoor

namespace Go.Proofs.YtnoenjociioffaaDoor
open Go.ChangeShapes Go.WideShapes Go.ChangeAt Go.RowKit Go.Joins Go.Deep
open M

theorem cellsSS : Tryd.prog.cellsOf 57 = 9 := by kernel_rfl
set_option maxRecDepth 100000 in
/-- A state that came in. -/
theorem open_state {H : Type} {enc : TypeId × Value → H} {W : World} {r : Reach} {b0 base : Nat} {sp : Nat → Bool} {held : Bool} {v : Value} {d : DataW H} {p : List MemPlace}
    (hv : Value.okWide Tryd.prog W r b0 57 v) (h : DataW.Trod enc Tryd.prog W base sp held 57 v d p) :
    ∃ (k ax ay fx fy u g : Int) (d o : Bool), v = sta k ax ay fx fy u g d o := by
  obtain ⟨cs, rfl, hsz⟩ := okWide_struct Tryd.underlying57 hv
  rw [cellsSS] at hsz
  obtain ⟨l⟩ := cs
  obtain ⟨c0, c1, c2, c3, c4, c5, c6, c7, c8, rfl⟩ : ∃ c0 c1 c2 c3 c4 c5 c6 c7 c8, l = [c0, c1, c2, c3, c4, c5, c6, c7, c8] := by
    match l, hsz with
    | [c0, c1, c2, c3, c4, c5, c6, c7, c8], _ => exact ⟨c0, c1, c2, c3, c4, c5, c6, c7, c8, rfl⟩
  obtain ⟨fuel, hf⟩ := h
  obtain ⟨xs, n, _, _, _, hlen, hg⟩ := DataW.trod_struct Tryd.underlying57 hf
  match xs, hlen with
  | [y0, y1, y2, y3, y4, y5, y6], _ =>
    have h0 := hg 0 _ rfl
    have h1 := hg 1 _ rfl
    have h2 := hg 2 _ rfl
    have h3 := hg 3 _ rfl
    have h4 := hg 4 _ rfl
    have h5 := hg 5 _ rfl
    have h6 := hg 6 _ rfl
    simp [cellsLI, Value.cells] at h0 h3 h4
    simp [cellsLV, Value.cells] at h1 h2
    simp [cellsLO, Value.cells] at h5 h6
    obtain ⟨k, e0, _⟩ := DataW.trod_int Tryd.underlying3 h0
    obtain ⟨u, e3, _⟩ := DataW.trod_int Tryd.underlying3 h3
    obtain ⟨g, e4, _⟩ := DataW.trod_int Tryd.underlying3 h4
    obtain ⟨d, e5, _⟩ := DataW.trod_bool Tryd.underlying4 h5
    obtain ⟨o, e6, _⟩ := DataW.trod_bool Tryd.underlying4 h6
    simp at e0 e3 e4 e5 e6
    obtain ⟨ax, ay, rfl, rfl⟩ := ints_of_vec h1
    obtain ⟨fx, fy, rfl, rfl⟩ := ints_of_vec h2
    subst e0 e3 e4 e5 e6
    exact ⟨k, ax, ay, fx, fy, u, g, d, o, rfl⟩

end Go.Proofs.YtnoenjociioffaaDoor
