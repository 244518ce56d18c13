/-
  The numbers that the model draws from a code: each drawn number fits; nothing that was there before the call is written.
-/
import Derived.Test.YtokmkgbmigcjnaaRead
import Derived.OpenShut
namespace Go.Proofs.Ytokmkgbmigcjnaa
open Go.RowKit

/-- A slice of bytes that came in: nil, or a row of cells. -/
def IsRow (k : IntKind) (w : World) (a : Option Addr) (len cap : Nat) (zs : List Int) : Prop :=
  (a = none ∧ len = 0 ∧ cap = 0 ∧ zs = []) ∨
  ∃ x, a = some x ∧ len ≤ cap ∧ cap ≤ maxLen ∧ zs.length = cap ∧ (∀ i, i < zs.length → w.cell? (x.add i) = some (.int k (zs.getD i 0))) ∧ ∀ n ∈ zs, (Lit.int k n).wf = true
theorem cell_lt {w : World} {a : Addr} {v : Value} (h : w.cell? a = some v) : a.block < w.heap.size := by
  by_cases c : a.block < w.heap.size
  · exact c
  · simp [World.cell?, Array.getElem?_eq_none (Nat.le_of_not_lt c)] at h
/-- A row of bytes, as the reader wants it. -/
theorem IsRow.bytes {w : World} {a : Option Addr} {len cap : Nat} {zs : List Int} (h : IsRow .u8 w a len cap zs) :
    len ≤ cap ∧ cap ≤ maxLen ∧ (len = 0 ∨ ∃ b off, a = some ⟨b, off, none⟩ ∧ b < w.heap.size ∧ ∀ i, i < len → ∃ z : Int, w.cell? ⟨b, off + i, none⟩ = some (.int .u8 z) ∧ 0 ≤ z ∧ z < 256) := by
  rcases h with ⟨rfl, rfl, rfl, rfl⟩ | ⟨x, rfl, hl, hm, hz, hcell, hwz⟩
  · exact ⟨Nat.le_refl _, Nat.zero_le _, .inl rfl⟩
  · refine ⟨hl, hm, ?_⟩
    by_cases h0 : len = 0
    · exact .inl h0
    · obtain ⟨b, off, spot⟩ := x
      have hc := hcell 0 (by omega)
      have hspot : spot = none := by simpa [Addr.add] using World.cell?_spot hc
      subst hspot
      refine .inr ⟨b, off, rfl, ?_, fun i hi => ?_⟩
      · have := cell_lt hc
        simpa [Addr.add] using this
      · have hci := hcell i (by omega)
        have hmem : zs.getD i 0 ∈ zs := by
          rw [List.getD_eq_getElem?_getD, List.getElem?_eq_getElem (by omega)]; exact List.getElem_mem _
        have hb := bounds_u8 (hwz _ hmem)
        have e : (Addr.mk b off none).add i = ⟨b, off + i, none⟩ := by by_cases h : i = 0 <;> simp [Addr.add, h]
        rw [e] at hci
        exact ⟨zs.getD i 0, hci, by omega, by omega⟩

theorem rd_new {w : World} {a : Option Addr} {len cap : Nat} (hl : len ≤ 2000)
    (hb : len = 0 ∨ ∃ b off, a = some ⟨b, off, none⟩ ∧ b < w.heap.size ∧ ∀ i, i < len → ∃ z : Int, w.cell? ⟨b, off + i, none⟩ = some (.int .u8 z) ∧ 0 ≤ z ∧ z < 256) :
    RdU (w.heap.size + 1) (w.alloc (.cells #[.slice a len cap, .int .i64 0] 45)) w.heap.size 0 := by
  refine ⟨0, by omega, ⟨by omega, by simp, by omega, ⟨a, len, cap, by simp, hl, ?_⟩, by simp, ?_⟩⟩
  · rcases hb with h0 | ⟨b, off, rfl, hbs, hz⟩
    · exact .inl h0
    · refine .inr ⟨b, off, rfl, by omega, by omega, fun i hi => ?_⟩
      obtain ⟨z, hc, h1, h2⟩ := hz i hi
      exact ⟨z, (World.cell?_alloc_lt w _ ⟨b, off + i, none⟩ hbs).trans hc, h1, h2⟩
  · rw [frozen?_alloc_cells]; simp [World.frozen?]

/-- A reader has been opened. -/
def Opened (w : World) (e : Ending) (w' : World) : Prop :=
  e = .returned (.pointer (some ⟨w.heap.size, 0, none⟩)) ∧ RdU (w.heap.size + 1) w' w.heap.size 0 ∧ Below w.heap.size w w'
theorem open_any (a : Option Addr) (len cap : Nat) (zs : List Int) (w : World) (h : IsRow .u8 w a len cap zs) :
    Calls Try.prog 25 #[.slice a len cap] w (Opened w) := by
  obtain ⟨hl, hm, hb⟩ := h.bytes
  unfold maxLen at hm
  by_cases g : 2000 < len
  · have hb' : (2000 : Nat) = 0 ∨ ∃ b off, a = some ⟨b, off, none⟩ ∧ b < w.heap.size ∧ ∀ i, i < 2000 → ∃ z : Int, w.cell? ⟨b, off + i, none⟩ = some (.int .u8 z) ∧ 0 ≤ z ∧ z < 256 := by
      rcases hb with h0 | ⟨b, off, ha, hbs, hz⟩
      · omega
      · exact .inr ⟨b, off, ha, hbs, fun i hi => hz i (by omega)⟩
    have R := Lib.hid (rd_new (cap := cap) (Nat.le_refl 2000) hb')
    clear hb hb'
    have g1 : (2000 : Int) < (len : Int) := by omega
    go_enter Try.func25, Try.ntmps25
    go_wp2
    go_ret
    exact ⟨rfl, R.out, (Below.refl _ _).alloc (Nat.le_refl _) _⟩
  · have R := Lib.hid (rd_new (cap := cap) (by omega) hb)
    clear hb
    have g1 : (len : Int) ≤ 2000 := by omega
    go_enter Try.func25, Try.ntmps25
    go_wp2
    go_ret
    exact ⟨rfl, R.out, (Below.refl _ _).alloc (Nat.le_refl _) _⟩

/-- A drawn number: it fits; the reader is further; nothing else has changed. -/
def FixDrawn (B : Nat) (r : Nat) (k : Int) (w : World) (e : Ending) (w' : World) : Prop :=
  ∃ x : Int, (-2000000001 ≤ x ∧ x ≤ 2000000001) ∧ e = .returned (.int .i64 x) ∧ RdU B w' r (k + 6) ∧ Kept r w w'
theorem bit_two {z : Int} (h0 : 0 ≤ z) (h1 : z < 2) : z = 0 ∨ z = 1 := by omega
theorem bit_three {z : Int} (h0 : 0 ≤ z) (h1 : z < 3) : z = 0 ∨ z = 1 ∨ z = 2 := by omega

def edges : Array Value := #[.int .i64 0, .int .i64 1, .int .i64 (-1), .int .i64 1000, .int .i64 (-1000), .int .i64 2000000000, .int .i64 (-2000000000), .int .i64 2000000001, .int .i64 (-2000000001)]
theorem edge_at (i : Nat) (h : i < 9) : ∃ z : Int, edges[i]? = some (.int .i64 z) ∧ -2000000001 ≤ z ∧ z ≤ 2000000001 := by
  have : i = 0 ∨ i = 1 ∨ i = 2 ∨ i = 3 ∨ i = 4 ∨ i = 5 ∨ i = 6 ∨ i = 7 ∨ i = 8 := by omega
  rcases this with rfl | rfl | rfl | rfl | rfl | rfl | rfl | rfl | rfl
  all_goals exact ⟨_, rfl, by omega, by omega⟩

set_option maxHeartbeats 1000000 in
theorem fix_drawn {B : Nat} (r : Nat) (k : Int) (w : World) (R : RdU B w r k) (hk : k ≤ 90000) :
    Calls Try.prog 34 #[.pointer (some ⟨r, 0, none⟩)] w (FixDrawn B r k w) := by
  go_enter Try.func34, Try.ntmps34
  go_wp2_with fail
  refine (pick_any r 12 k w R (by omega) (by omega) (by omega)).mono ?_
  rintro e w1 ⟨x1, ⟨a1, b1⟩, rfl, R1, K1⟩
  by_cases c0 : x1 = 0
  · subst c0
    go_wp2_with fail
    have Ba : Below w1.heap.size w1 (w1.alloc (.cells edges 3)) := (Below.refl _ _).alloc (Nat.le_refl _) _
    refine (pick_any r 9 (k + 1) (w1.alloc (.cells edges 3)) (R1.alloc _) (by omega) (by omega) (by omega)).mono ?_
    rintro e w2 ⟨x2, ⟨a2, b2⟩, rfl, R2, K2⟩
    obtain ⟨i, rfl⟩ := Int.eq_ofNat_of_zero_le a2
    obtain ⟨z, hz, z1, z2⟩ := edge_at i (by omega)
    have hr : w1.heap.size ≠ r := by have := R1.here; have := R1.base; omega
    have hcell : w2.cell? ⟨w1.heap.size, i, none⟩ = some (.int .i64 z) := by
      rw [K2.cell (p := ⟨w1.heap.size, i, none⟩) (by simp) hr, World.cell?_alloc_new]; exact hz
    have hi : (i : Int) < 9 := by omega
    have hKK := Lib.hid (K1.trans ((Kept.of_below Ba).trans K2))
    have hRR := Lib.hid (R2.mono (k' := k + 6) (by omega))
    clear hz K1 K2 Ba R1 R2 hr
    go_wp2
    go_ret
    exact ⟨z, ⟨z1, z2⟩, rfl, hRR.out, hKK.out⟩
  · have c0' : (x1 == 0) = false := beq_eq_false_iff_ne.2 c0
    by_cases c1 : x1 = 1 ∨ x1 = 2
    · rcases c1 with rfl | rfl
      all_goals
        go_wp2_with fail
        refine (pick_any r 100 (k + 1) w1 R1 (by omega) (by omega) (by omega)).mono ?_
        rintro e w2 ⟨x2, ⟨a2, b2⟩, rfl, R2, K2⟩
        go_wp2_with fail
        refine (pick_any r 100 (k + 1 + 1) w2 R2 (by omega) (by omega) (by omega)).mono ?_
        rintro e w3 ⟨x3, ⟨a3, b3⟩, rfl, R3, K3⟩
        go_wp2_with fail
        refine (pick_any r 2 (k + 1 + 1 + 1) w3 R3 (by omega) (by omega) (by omega)).mono ?_
        rintro e w4 ⟨x4, ⟨a4, b4⟩, rfl, R4, K4⟩
        have hKK := Lib.hid (K1.trans (K2.trans (K3.trans K4)))
        have hRR := Lib.hid (R4.mono (k' := k + 6) (by omega))
        clear K1 K2 K3 K4 R R1 R2 R3 R4
        rcases bit_two a4 b4 with rfl | rfl
        all_goals
          go_wp2
          go_ret
          exact ⟨_, ⟨by omega, by omega⟩, rfl, hRR.out, hKK.out⟩
    · have c1' : (x1 == 1) = false := beq_eq_false_iff_ne.2 (by omega)
      have c2' : (x1 == 2) = false := beq_eq_false_iff_ne.2 (by omega)
      clear c0 c1
      go_wp2_with fail
      refine (pick_any r 100 (k + 1) w1 R1 (by omega) (by omega) (by omega)).mono ?_
      rintro e w2 ⟨x2, ⟨a2, b2⟩, rfl, R2, K2⟩
      go_wp2_with fail
      refine (pick_any r 100 (k + 1 + 1) w2 R2 (by omega) (by omega) (by omega)).mono ?_
      rintro e w3 ⟨x3, ⟨a3, b3⟩, rfl, R3, K3⟩
      go_wp2_with fail
      refine (pick_any r 2 (k + 1 + 1 + 1) w3 R3 (by omega) (by omega) (by omega)).mono ?_
      rintro e w4 ⟨x4, ⟨a4, b4⟩, rfl, R4, K4⟩
      rcases bit_two a4 b4 with rfl | rfl
      all_goals
        go_wp2_with fail
        refine (pick_any r 3 (k + 1 + 1 + 1 + 1) w4 R4 (by omega) (by omega) (by omega)).mono ?_
        rintro e w5 ⟨x5, ⟨a5, b5⟩, rfl, R5, K5⟩
        have hKK := Lib.hid (K1.trans (K2.trans (K3.trans (K4.trans K5))))
        have hRR := Lib.hid (R5.mono (k' := k + 6) (by omega))
        clear K1 K2 K3 K4 K5 R R1 R2 R3 R4 R5
        rcases bit_three a5 b5 with rfl | rfl | rfl
        all_goals
          go_wp2
          go_ret
          exact ⟨_, ⟨by omega, by omega⟩, rfl, hRR.out, hKK.out⟩

/-- One drawn number. -/
def Drawn1 (w : World) (e : Ending) (w' : World) : Prop :=
  ∃ x : Int, (-2000000001 ≤ x ∧ x ≤ 2000000001) ∧ e = .returned (.int .i64 x) ∧ Below w.heap.size w w'
/-- Two drawn numbers. -/
def Drawn2 (w : World) (e : Ending) (w' : World) : Prop :=
  ∃ x y : Int, (-2000000001 ≤ x ∧ x ≤ 2000000001) ∧ (-2000000001 ≤ y ∧ y ≤ 2000000001) ∧ e = .returned (.tuple #[.int .i64 x, .int .i64 y]) ∧ Below w.heap.size w w'

end Go.Proofs.Ytokmkgbmigcjnaa
