/-
  What the functions of chapter 4 return in the model, at every argument: the contracts.
-/
import Derived.Test.YtokmkgbmigcjnaaVec
import Derived.Test.YtokmkgbmigcjnaaHashMath
namespace Go.Proofs.Ytokmkgbmigcjnaa
open Go.RowKit
open M

/-- The slice at A, n elements long, reads as the integers xs. -/
def Ints (w : World) (A : Option Addr) (n : Nat) (xs : List Int) : Prop :=
  xs.length = n ∧ (0 < n → ∃ b off, A = some ⟨b, off, none⟩ ∧ b < w.heap.size ∧ ∀ k, k < n → w.cell? ⟨b, off + k, none⟩ = some (.int .i64 (xs.getD k 0)))
theorem Ints.step {w w' : World} {A : Option Addr} {n : Nat} {xs : List Int} (h : Ints w A n xs) (B : Below w.heap.size w w') : Ints w' A n xs :=
  ⟨h.1, fun hn => by
    obtain ⟨b, off, e, hb, hc⟩ := h.2 hn
    exact ⟨b, off, e, Nat.lt_of_lt_of_le hb B.size, fun k hk => (B.cell (p := ⟨b, off + k, none⟩) hb).trans (hc k hk)⟩⟩
theorem Ints.alloc {w : World} {A : Option Addr} {n : Nat} {xs : List Int} (h : Ints w A n xs) (o : Obj) : Ints (w.alloc o) A n xs := h.step (bl_alloc (bl_refl w) o)

/-- The contract of FixOk with its answer given. -/
theorem specOk' (n : Int) (b : Bool) (w : World) (h : okB n = b) : Calls Try.prog 38 #[.int .i64 n] w fun e w' => e = .returned (.bool b) ∧ w = w' := by
  subst h
  exact specOk n w

theorem specStep (h n : Int) (w : World) (h0 : 0 ≤ h) (h1 : h < 1000003) : Calls Try.prog 39 #[.int .i64 h, .int .i64 n] w fun e w' => e = .returned (.int .i64 (stp h n)) ∧ w = w' := by
  have t1 : -1000003 < n.tmod 1000003 := Int.lt_tmod_of_pos n (by omega)
  have t2 : n.tmod 1000003 < 1000003 := Int.tmod_lt_of_pos n (by omega)
  have E := Lib.hid (show stp h n = (8191 * h + (n.tmod 1000003 + 1000003) % 1000003 + 1) % 1000003 from by
    rw [← Int.tmod_eq_emod_of_nonneg (a := n.tmod 1000003 + 1000003) (by omega), rem_rem]; rfl)
  go_enter Try.func39, Try.ntmps39
  go_wp2
  go_ret
  exact ⟨ret_int (by rw [E.out]; omega), rfl⟩

set_option maxHeartbeats 400000 in
theorem specHsh (h : Int) (A : Option Addr) (n cap : Nat) (xs : List Int) (w : World) (h0 : 0 ≤ h) (h1 : h < 1000003) (I : Ints w A n xs) (hn : n ≤ 281474976710656) :
    Calls Try.prog 29 #[.int .i64 h, .slice A n cap] w fun e w' => e = .returned (.int .i64 (hsh h xs)) ∧ w = w' := by
  obtain ⟨hl, hc⟩ := I
  have hl := Lib.hid hl
  have hc := Lib.hid hc
  go_enter Try.func29, Try.ntmps29
  go_wp2
  go_loop [0, 5] (fun t i => ∃ k : Nat, k ≤ n ∧ i = .int .i64 k ∧ t = .int .i64 (hsh h (xs.take k))) (fun _ i => n - (intOf i).toNat)
  case atStart => exact ⟨0, Nat.zero_le _, rfl, rfl⟩
  case round =>
    obtain ⟨k, hk, rfl, rfl⟩ := hrel
    obtain ⟨b0, b1⟩ := hsh_bd h0 h1 (xs.take k)
    by_cases hlt : k < n
    · obtain ⟨b, off, rfl, hb, hcell⟩ := hc.out (by omega)
      have hck := hcell k hlt
      have HS := Lib.hid (hsh_take (h := h) (xs := xs) (k := k) (by have := hl.out; omega))
      clear hcell
      generalize xs.getD k 0 = z at *
      go_wp2_with fail
      refine (specStep _ _ _ b0 b1).mono ?_
      rintro e w' ⟨rfl, rfl⟩
      go_wp2
      go_round
      case rel => exact ⟨k + 1, by omega, by go_num, by rw [HS.out]⟩
      case measure => simp [intOf]; omega
    · go_wp2
      go_ret
      exact ⟨ret_int (by rw [List.take_of_length_le (by have := hl.out; omega)]), rfl⟩

set_option maxHeartbeats 400000 in
theorem specLst (A : Option Addr) (n cap : Nat) (xs : List Int) (w : World) (I : Ints w A n xs) (hn : n ≤ 281474976710656) :
    Calls Try.prog 28 #[.slice A n cap] w fun e w' => e = .returned (.bool (lstB xs)) ∧ w = w' := by
  obtain ⟨hl, hc⟩ := I
  have hl := Lib.hid hl
  have hc := Lib.hid hc
  go_enter Try.func28, Try.ntmps28
  go_wp2
  go_loop [3] (fun i => ∃ k : Nat, k ≤ n ∧ i = .int .i64 k ∧ (xs.take k).all okB = true) (fun i => n - (intOf i).toNat)
  case atStart => exact ⟨0, Nat.zero_le _, rfl, rfl⟩
  case round =>
    obtain ⟨k, hk, rfl, ha⟩ := hrel
    have ha := Lib.hid ha
    by_cases hlt : k < n
    · obtain ⟨b, off, rfl, hb, hcell⟩ := hc.out (by omega)
      have hck := hcell k hlt
      have hkl : k < xs.length := by have := hl.out; omega
      have HS := all_take hkl
      have HN := lst_no1 hkl
      rw [ha.out, Bool.true_and] at HS
      clear hcell hkl
      generalize xs.getD k 0 = z at *
      cases hz : okB z
      · have E := Lib.hid (HN hz)
        clear HN HS
        have hz := Lib.hid hz
        go_wp2_with fail
        refine (specOk' z false _ hz.out).mono ?_
        rintro e w' ⟨rfl, rfl⟩
        go_wp2
        go_ret
        exact ⟨ret_b (by rw [E.out]), rfl⟩
      · have E := Lib.hid (HS.trans hz)
        clear HN HS
        have hz := Lib.hid hz
        go_wp2_with fail
        refine (specOk' z true _ hz.out).mono ?_
        rintro e w' ⟨rfl, rfl⟩
        go_wp2
        go_round
        case rel => exact ⟨k + 1, by omega, by go_num, E.out⟩
        case measure => simp [intOf]; omega
    · have e : (xs.take k) = xs := List.take_of_length_le (by have := hl.out; omega)
      have E := Lib.hid (lst_end (xs := xs) (by have t := ha.out; rw [e] at t; exact t))
      clear e
      go_wp2
      go_ret
      exact ⟨ret_b (by rw [E.out]; simp only [decide_eq_decide]; have := hl.out; omega), rfl⟩

theorem specHash (A : Option Addr) (n cap : Nat) (xs : List Int) (w : World) (I : Ints w A n xs) (hn : n ≤ 281474976710656) :
    Calls Try.prog 16 #[.slice A n cap] w fun e w' => e = .returned (.int .i64 (hI xs)) ∧ w = w' := by
  have I := Lib.hid I
  cases h : lstB xs
  · have E := Lib.hid (hI_no h)
    have C := Lib.hid (fun W J => specLst A n cap xs W J hn)
    rw [h] at C
    go_enter Try.func16, Try.ntmps16
    go_wp2_with fail
    refine (C.out _ I.out).mono ?_
    rintro e w' ⟨rfl, rfl⟩
    go_wp2
    go_ret
    exact ⟨ret_int (by rw [E.out]), rfl⟩
  · have E := Lib.hid (hI_yes h)
    have C := Lib.hid (fun W J => specLst A n cap xs W J hn)
    rw [h] at C
    go_enter Try.func16, Try.ntmps16
    go_wp2_with fail
    refine (C.out _ I.out).mono ?_
    rintro e w' ⟨rfl, rfl⟩
    go_wp2_with fail
    refine (specHsh 17 A n cap xs _ (by omega) (by omega) I.out hn).mono ?_
    rintro e w' ⟨rfl, rfl⟩
    go_wp2
    go_ret
    exact ⟨ret_int (by rw [E.out]), rfl⟩

theorem specTg (k : Int) (A : Option Addr) (n cap : Nat) (xs : List Int) (w : World) (I : Ints w A n xs) (hn : n ≤ 281474976710656) :
    Calls Try.prog 32 #[.int .i64 k, .slice A n cap] w fun e w' => e = .returned (.int .i64 (tg k xs)) ∧ w = w' := by
  have I := Lib.hid I
  obtain ⟨a0, a1⟩ := stp_bd 17 k
  obtain ⟨b0, b1⟩ := hsh_bd a0 a1 xs
  go_enter Try.func32, Try.ntmps32
  go_wp2_with fail
  refine (specStep _ _ _ (by omega) (by omega)).mono ?_
  rintro e w' ⟨rfl, rfl⟩
  go_wp2_with fail
  refine (specHsh _ A n cap xs _ a0 a1 I.out hn).mono ?_
  rintro e w' ⟨rfl, rfl⟩
  go_wp2_with fail
  refine (specStep _ _ _ b0 b1).mono ?_
  rintro e w' ⟨rfl, rfl⟩
  go_wp2
  go_ret
  exact ⟨rfl, rfl⟩

/-- The contract of a range's test with its answer given. -/
theorem specIn' (n lo hi : Int) (b : Bool) (w : World) (h : inB n lo hi = b) : Calls Try.prog 31 #[.int .i64 n, .int .i64 lo, .int .i64 hi] w fun e w' => e = .returned (.bool b) ∧ w = w' := by
  subst h
  exact in_any n lo hi w

theorem specTag (k : Int) (A : Option Addr) (n cap : Nat) (xs : List Int) (w : World) (I : Ints w A n xs) (hn : n ≤ 281474976710656) :
    Calls Try.prog 19 #[.int .i64 k, .slice A n cap] w fun e w' => e = .returned (.int .i64 (tI k xs)) ∧ w = w' := by
  have I := Lib.hid I
  cases g : inB k 1 9999
  · have E := Lib.hid (tI_no1 (xs := xs) g)
    have g := Lib.hid g
    go_enter Try.func19, Try.ntmps19
    go_wp2_with fail
    refine (specIn' _ _ _ _ _ g.out).mono ?_
    rintro e w' ⟨rfl, rfl⟩
    go_wp2
    go_ret
    exact ⟨ret_int (by rw [E.out]), rfl⟩
  cases h : lstB xs
  · have E := Lib.hid (tI_no2 (k := k) h)
    have g := Lib.hid g
    have C := Lib.hid (fun W J => specLst A n cap xs W J hn)
    rw [h] at C
    go_enter Try.func19, Try.ntmps19
    go_wp2_with fail
    refine (specIn' _ _ _ _ _ g.out).mono ?_
    rintro e w' ⟨rfl, rfl⟩
    go_wp2_with fail
    refine (C.out _ I.out).mono ?_
    rintro e w' ⟨rfl, rfl⟩
    go_wp2
    go_ret
    exact ⟨ret_int (by rw [E.out]), rfl⟩
  · have E := Lib.hid (tI_yes g h)
    have g := Lib.hid g
    have C := Lib.hid (fun W J => specLst A n cap xs W J hn)
    rw [h] at C
    go_enter Try.func19, Try.ntmps19
    go_wp2_with fail
    refine (specIn' _ _ _ _ _ g.out).mono ?_
    rintro e w' ⟨rfl, rfl⟩
    go_wp2_with fail
    refine (C.out _ I.out).mono ?_
    rintro e w' ⟨rfl, rfl⟩
    go_wp2_with fail
    refine (specTg k A n cap xs _ I.out hn).mono ?_
    rintro e w' ⟨rfl, rfl⟩
    go_wp2
    go_ret
    exact ⟨ret_int (by rw [E.out]), rfl⟩

theorem specTagCheck (k : Int) (A : Option Addr) (n cap : Nat) (xs : List Int) (t : Int) (w : World) (I : Ints w A n xs) (hn : n ≤ 281474976710656) :
    Calls Try.prog 23 #[.int .i64 k, .slice A n cap, .int .i64 t] w fun e w' => e = .returned (.bool (tC k xs t)) ∧ w = w' := by
  have I := Lib.hid I
  by_cases t0 : 0 ≤ t
  · have E := Lib.hid (tC_yes (k := k) (xs := xs) t0)
    go_enter Try.func23, Try.ntmps23
    go_wp2_with fail
    refine (specTag k A n cap xs _ I.out hn).mono ?_
    rintro e w' ⟨rfl, rfl⟩
    go_wp2
    go_ret
    exact ⟨ret_b (by rw [E.out]; first | rfl | simp | (by_cases q : tI k xs = t <;> simp [q])), rfl⟩
  · have E := Lib.hid (tC_no (k := k) (xs := xs) (t := t) (by omega))
    go_enter Try.func23, Try.ntmps23
    go_wp2
    go_ret
    exact ⟨ret_b (by rw [E.out]), rfl⟩

end Go.Proofs.Ytokmkgbmigcjnaa
