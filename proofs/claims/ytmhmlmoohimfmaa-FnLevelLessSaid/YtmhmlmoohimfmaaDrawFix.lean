/-
  The numbers that the model draws from a code: each drawn number fits; nothing that was there before the call is written.
-/
import Derived.Test.YtmhmlmoohimfmaaRead
import Derived.OpenShut
namespace Go.Proofs.Ytmhmlmoohimfmaa
open Go.RowKit

/-- A slice of bytes that came in: nil, or a row of cells. -/
def IsRow (k : IntKind) (w : World) (a : Option Addr) (len cap : Nat) (zs : List Int) : Prop :=
  (a = none ∧ len = 0 ∧ cap = 0 ∧ zs = []) ∨
  ∃ x, a = some x ∧ len ≤ cap ∧ cap ≤ maxLen ∧ zs.length = cap ∧ (∀ i, i < zs.length → w.cell? (x.add i) = some (.int k (zs.getD i 0))) ∧ ∀ n ∈ zs, (Lit.int k n).wf = true
theorem cell_lt {w : World} {a : Addr} {v : Value} (h : w.cell? a = some v) : a.block < w.heap.size := by
  by_cases c : a.block < w.heap.size
  · exact c
  · simp [World.cell?, Array.getElem?_eq_none (Nat.le_of_not_lt c)] at h
/-- A row of bytes, as the reader wants it. -/
theorem IsRow.bytes {w : World} {a : Option Addr} {len cap : Nat} {zs : List Int} (h : IsRow .u8 w a len cap zs) :
    len ≤ cap ∧ cap ≤ maxLen ∧ (len = 0 ∨ ∃ b off, a = some ⟨b, off, none⟩ ∧ b < w.heap.size ∧ ∀ i, i < len → ∃ z : Int, w.cell? ⟨b, off + i, none⟩ = some (.int .u8 z) ∧ 0 ≤ z ∧ z < 256) := by
  rcases h with ⟨rfl, rfl, rfl, rfl⟩ | ⟨x, rfl, hl, hm, hz, hcell, hwz⟩
  · exact ⟨Nat.le_refl _, Nat.zero_le _, .inl rfl⟩
  · refine ⟨hl, hm, ?_⟩
    by_cases h0 : len = 0
    · exact .inl h0
    · obtain ⟨b, off, spot⟩ := x
      have hc := hcell 0 (by omega)
      have hspot : spot = none := by simpa [Addr.add] using World.cell?_spot hc
      subst hspot
      refine .inr ⟨b, off, rfl, ?_, fun i hi => ?_⟩
      · have := cell_lt hc
        simpa [Addr.add] using this
      · have hci := hcell i (by omega)
        have hmem : zs.getD i 0 ∈ zs := by
          rw [List.getD_eq_getElem?_getD, List.getElem?_eq_getElem (by omega)]; exact List.getElem_mem _
        have hb := bounds_u8 (hwz _ hmem)
        have e : (Addr.mk b off none).add i = ⟨b, off + i, none⟩ := by by_cases h : i = 0 <;> simp [Addr.add, h]
        rw [e] at hci
        exact ⟨zs.getD i 0, hci, by omega, by omega⟩

theorem rd_new {w : World} {a : Option Addr} {len cap : Nat} (hl : len ≤ 2000)
    (hb : len = 0 ∨ ∃ b off, a = some ⟨b, off, none⟩ ∧ b < w.heap.size ∧ ∀ i, i < len → ∃ z : Int, w.cell? ⟨b, off + i, none⟩ = some (.int .u8 z) ∧ 0 ≤ z ∧ z < 256) :
    RdU (w.heap.size + 1) (w.alloc (.cells #[.slice a len cap, .int .i64 0] 88)) w.heap.size 0 := by
  refine ⟨0, by omega, ⟨by omega, by simp, by omega, ⟨a, len, cap, by simp, hl, ?_⟩, by simp, ?_⟩⟩
  · rcases hb with h0 | ⟨b, off, rfl, hbs, hz⟩
    · exact .inl h0
    · refine .inr ⟨b, off, rfl, by omega, by omega, fun i hi => ?_⟩
      obtain ⟨z, hc, h1, h2⟩ := hz i hi
      exact ⟨z, (World.cell?_alloc_lt w _ ⟨b, off + i, none⟩ hbs).trans hc, h1, h2⟩
  · rw [frozen?_alloc_cells]; simp [World.frozen?]

/-- A reader has been opened. -/
def Opened (w : World) (e : Ending) (w' : World) : Prop :=
  e = .returned (.pointer (some ⟨w.heap.size, 0, none⟩)) ∧ RdU (w.heap.size + 1) w' w.heap.size 0 ∧ Below w.heap.size w w'
theorem open_any (a : Option Addr) (len cap : Nat) (zs : List Int) (w : World) (h : IsRow .u8 w a len cap zs) :
    Calls Try.prog 33 #[.slice a len cap] w (Opened w) := by
  obtain ⟨hl, hm, hb⟩ := h.bytes
  unfold maxLen at hm
  by_cases g : 2000 < len
  · have hb' : (2000 : Nat) = 0 ∨ ∃ b off, a = some ⟨b, off, none⟩ ∧ b < w.heap.size ∧ ∀ i, i < 2000 → ∃ z : Int, w.cell? ⟨b, off + i, none⟩ = some (.int .u8 z) ∧ 0 ≤ z ∧ z < 256 := by
      rcases hb with h0 | ⟨b, off, ha, hbs, hz⟩
      · omega
      · exact .inr ⟨b, off, ha, hbs, fun i hi => hz i (by omega)⟩
    have R := Lib.hid (rd_new (cap := cap) (Nat.le_refl 2000) hb')
    clear hb hb'
    have g1 : (2000 : Int) < (len : Int) := by omega
    go_enter Try.func33, Try.ntmps33
    go_wp2
    go_ret
    exact ⟨rfl, R.out, (Below.refl _ _).alloc (Nat.le_refl _) _⟩
  · have R := Lib.hid (rd_new (cap := cap) (by omega) hb)
    clear hb
    have g1 : (len : Int) ≤ 2000 := by omega
    go_enter Try.func33, Try.ntmps33
    go_wp2
    go_ret
    exact ⟨rfl, R.out, (Below.refl _ _).alloc (Nat.le_refl _) _⟩

/-- A drawn number: it fits; the reader is further; nothing else has changed. -/
def FixDrawn (B : Nat) (r : Nat) (k : Int) (w : World) (e : Ending) (w' : World) : Prop :=
  ∃ x : Int, (-2000000001 ≤ x ∧ x ≤ 2000000001) ∧ e = .returned (.int .i64 x) ∧ RdU B w' r (k + 6) ∧ Kept r w w'
theorem bit_two {z : Int} (h0 : 0 ≤ z) (h1 : z < 2) : z = 0 ∨ z = 1 := by omega
theorem bit_three {z : Int} (h0 : 0 ≤ z) (h1 : z < 3) : z = 0 ∨ z = 1 ∨ z = 2 := by omega

def edges : Array Value := #[.int .i64 0, .int .i64 1, .int .i64 (-1), .int .i64 1000, .int .i64 (-1000), .int .i64 2000000000, .int .i64 (-2000000000), .int .i64 2000000001, .int .i64 (-2000000001)]
theorem edge_at (i : Nat) (h : i < 9) : ∃ z : Int, edges[i]? = some (.int .i64 z) ∧ -2000000001 ≤ z ∧ z ≤ 2000000001 := by
  have : i = 0 ∨ i = 1 ∨ i = 2 ∨ i = 3 ∨ i = 4 ∨ i = 5 ∨ i = 6 ∨ i = 7 ∨ i = 8 := by omega
  rcases this with rfl | rfl | rfl | rfl | rfl | rfl | rfl | rfl | rfl
  all_goals exact ⟨_, rfl, by omega, by omega⟩

/-- One drawn number. -/
def Drawn1 (w : World) (e : Ending) (w' : World) : Prop :=
  ∃ x : Int, (-2000000001 ≤ x ∧ x ≤ 2000000001) ∧ e = .returned (.int .i64 x) ∧ Below w.heap.size w w'
/-- Two drawn numbers. -/
def Drawn2 (w : World) (e : Ending) (w' : World) : Prop :=
  ∃ x y : Int, (-2000000001 ≤ x ∧ x ≤ 2000000001) ∧ (-2000000001 ≤ y ∧ y ≤ 2000000001) ∧ e = .returned (.tuple #[.int .i64 x, .int .i64 y]) ∧ Below w.heap.size w w'

end Go.Proofs.Ytmhmlmoohimfmaa
