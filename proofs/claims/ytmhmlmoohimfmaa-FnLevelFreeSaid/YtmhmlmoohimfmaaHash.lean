/-
  What the functions of chapter 4 return in the model, at every argument: the contracts.
-/
import Derived.Test.YtmhmlmoohimfmaaVec
import Derived.Test.YtmhmlmoohimfmaaHashMath
namespace Go.Proofs.Ytmhmlmoohimfmaa
open Go.RowKit
open M

/-- The slice at A, n elements long, reads as the integers xs. -/
def Ints (w : World) (A : Option Addr) (n : Nat) (xs : List Int) : Prop :=
  xs.length = n ∧ (0 < n → ∃ b off, A = some ⟨b, off, none⟩ ∧ b < w.heap.size ∧ ∀ k, k < n → w.cell? ⟨b, off + k, none⟩ = some (.int .i64 (xs.getD k 0)))
theorem Ints.step {w w' : World} {A : Option Addr} {n : Nat} {xs : List Int} (h : Ints w A n xs) (B : Below w.heap.size w w') : Ints w' A n xs :=
  ⟨h.1, fun hn => by
    obtain ⟨b, off, e, hb, hc⟩ := h.2 hn
    exact ⟨b, off, e, Nat.lt_of_lt_of_le hb B.size, fun k hk => (B.cell (p := ⟨b, off + k, none⟩) hb).trans (hc k hk)⟩⟩
theorem Ints.alloc {w : World} {A : Option Addr} {n : Nat} {xs : List Int} (h : Ints w A n xs) (o : Obj) : Ints (w.alloc o) A n xs := h.step (bl_alloc (bl_refl w) o)

theorem specStep (h n : Int) (w : World) (h0 : 0 ≤ h) (h1 : h < 1000003) : Calls Try.prog 73 #[.int .i64 h, .int .i64 n] w fun e w' => e = .returned (.int .i64 (stp h n)) ∧ w = w' := by
  have t1 : -1000003 < n.tmod 1000003 := Int.lt_tmod_of_pos n (by omega)
  have t2 : n.tmod 1000003 < 1000003 := Int.tmod_lt_of_pos n (by omega)
  have E := Lib.hid (show stp h n = (8191 * h + (n.tmod 1000003 + 1000003) % 1000003 + 1) % 1000003 from by
    rw [← Int.tmod_eq_emod_of_nonneg (a := n.tmod 1000003 + 1000003) (by omega), rem_rem]; rfl)
  go_enter Try.func73, Try.ntmps73
  go_wp2
  go_ret
  exact ⟨ret_int (by rw [E.out]; omega), rfl⟩

set_option maxHeartbeats 400000 in
theorem specHsh (h : Int) (A : Option Addr) (n cap : Nat) (xs : List Int) (w : World) (h0 : 0 ≤ h) (h1 : h < 1000003) (I : Ints w A n xs) (hn : n ≤ 281474976710656) :
    Calls Try.prog 55 #[.int .i64 h, .slice A n cap] w fun e w' => e = .returned (.int .i64 (hsh h xs)) ∧ w = w' := by
  obtain ⟨hl, hc⟩ := I
  have hl := Lib.hid hl
  have hc := Lib.hid hc
  go_enter Try.func55, Try.ntmps55
  go_wp2
  go_loop [0, 5] (fun t i => ∃ k : Nat, k ≤ n ∧ i = .int .i64 k ∧ t = .int .i64 (hsh h (xs.take k))) (fun _ i => n - (intOf i).toNat)
  case atStart => exact ⟨0, Nat.zero_le _, rfl, rfl⟩
  case round =>
    obtain ⟨k, hk, rfl, rfl⟩ := hrel
    obtain ⟨b0, b1⟩ := hsh_bd h0 h1 (xs.take k)
    by_cases hlt : k < n
    · obtain ⟨b, off, rfl, hb, hcell⟩ := hc.out (by omega)
      have hck := hcell k hlt
      have HS := Lib.hid (hsh_take (h := h) (xs := xs) (k := k) (by have := hl.out; omega))
      clear hcell
      generalize xs.getD k 0 = z at *
      go_wp2_with fail
      refine (specStep _ _ _ b0 b1).mono ?_
      rintro e w' ⟨rfl, rfl⟩
      go_wp2
      go_round
      case rel => exact ⟨k + 1, by omega, by go_num, by rw [HS.out]⟩
      case measure => simp [intOf]; omega
    · go_wp2
      go_ret
      exact ⟨ret_int (by rw [List.take_of_length_le (by have := hl.out; omega)]), rfl⟩

/-- The contract of a range's test with its answer given. -/
theorem specIn' (n lo hi : Int) (b : Bool) (w : World) (h : inB n lo hi = b) : Calls Try.prog 41 #[.int .i64 n, .int .i64 lo, .int .i64 hi] w fun e w' => e = .returned (.bool b) ∧ w = w' := by
  subst h
  exact in_any n lo hi w

end Go.Proofs.Ytmhmlmoohimfmaa
