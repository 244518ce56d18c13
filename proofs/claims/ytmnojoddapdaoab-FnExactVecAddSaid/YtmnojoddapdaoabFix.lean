/-
  What each function of chapter 1 returns, in the program and in the model, at every argument: the contracts.
-/
import Derived.Test.YtmnojoddapdaoabProg
import Derived.WalkKit
import Derived.LoopTactic
import Derived.Lib.Hide
import Derived.IntWalk
import Derived.Test.YtmnojoddapdaoabMath
namespace Go.Proofs.Ytmnojoddapdaoab
open Go.RowKit
open M

theorem ret_int {k : IntKind} {a b : Int} (h : a = b) : Ending.returned (.int k a) = .returned (.int k b) := by rw [h]
theorem ret_ib {k : IntKind} {a b : Int} {c d : Bool} (h : a = b) (g : c = d) : Ending.returned (.tuple #[.int k a, .bool c]) = .returned (.tuple #[.int k b, .bool d]) := by rw [h, g]
theorem ret_b {c d : Bool} (g : c = d) : Ending.returned (.bool c) = .returned (.bool d) := by rw [g]

theorem in_any (n lo hi : Int) (w : World) : Calls Try.prog 35 #[.int .i64 n, .int .i64 lo, .int .i64 hi] w fun e w' => e = .returned (.bool (inB n lo hi)) ∧ w = w' := by
  by_cases h1 : lo ≤ n
  · by_cases h2 : n ≤ hi
    · have E := Lib.hid (inB_yes ⟨h1, h2⟩)
      go_enter Try.func35, Try.ntmps35
      go_wp2
      go_ret
      exact ⟨ret_b (by rw [E.out]), rfl⟩
    · have E := Lib.hid (inB_no (n := n) (lo := lo) (hi := hi) (by omega))
      go_enter Try.func35, Try.ntmps35
      go_wp2
      go_ret
      exact ⟨ret_b (by rw [E.out]), rfl⟩
  · have E := Lib.hid (inB_no (n := n) (lo := lo) (hi := hi) (by omega))
    go_enter Try.func35, Try.ntmps35
    go_wp2
    go_ret
    exact ⟨ret_b (by rw [E.out]), rfl⟩

theorem specOk (n : Int) (w : World) : Calls Try.prog 41 #[.int .i64 n] w fun e w' => e = .returned (.bool (okB n)) ∧ w = w' := by
  go_enter Try.func41, Try.ntmps41
  go_wp2_with (go_at_call 35; refine (in_any _ _ _ _).mono ?_; rintro e w' ⟨rfl, rfl⟩)
  go_ret
  exact ⟨ret_b rfl, rfl⟩

theorem implOk (n : Int) (w : World) : Calls Try.prog 43 #[.int .i64 n] w fun e w' => e = .returned (.bool (okB n)) ∧ w = w' := by
  by_cases h1 : -2000000000 ≤ n
  · by_cases h2 : n ≤ 2000000000
    · have E := Lib.hid (ok_yes ⟨h1, h2⟩)
      go_enter Try.func43, Try.ntmps43
      go_wp2
      go_ret
      exact ⟨by rw [E.out]; rfl, rfl⟩
    · have E := Lib.hid (ok_no (n := n) (by omega))
      go_enter Try.func43, Try.ntmps43
      go_wp2
      go_ret
      exact ⟨by rw [E.out]; rfl, rfl⟩
  · have E := Lib.hid (ok_no (n := n) (by omega))
    go_enter Try.func43, Try.ntmps43
    go_wp2
    go_ret
    exact ⟨by rw [E.out]; rfl, rfl⟩

theorem implNearest (n : Int) (w : World) : Calls Try.prog 47 #[.int .i64 n] w fun e w' => e = .returned (.tuple #[.int .i64 (cl n), .bool (okB n)]) ∧ w = w' := by
  rcases cl_three n with ⟨h, E0⟩ | ⟨h, E0⟩ | ⟨h1, h2, E0⟩
  all_goals
    have E := Lib.hid E0
    clear E0
    go_enter Try.func47, Try.ntmps47
    go_wp2
    go_ret2
    exact ⟨ret_ib (by rw [E.out.1]) (by rw [E.out.2]), rfl⟩

theorem implAdd (a b : Int) (w : World) : Calls Try.prog 39 #[.int .i64 a, .int .i64 b] w fun e w' => e = .returned (.tuple #[.int .i64 (addI a b), .bool (addB a b)]) ∧ w = w' := by
  cases ha : okB a
  · have E := Lib.hid (add_no1 (b := b) ha)
    go_enter Try.func39, Try.ntmps39
    go_wp2_with (go_at_call 43; refine (implOk _ _).mono ?_; rintro e w' ⟨rfl, rfl⟩)
    go_ret2
    exact ⟨ret_ib (by rw [E.out.1]) (by rw [E.out.2]), rfl⟩
  · cases hb : okB b
    · have E := Lib.hid (add_no2 (a := a) hb)
      go_enter Try.func39, Try.ntmps39
      go_wp2_with (go_at_call 43; refine (implOk _ _).mono ?_; rintro e w' ⟨rfl, rfl⟩)
      go_ret2
      exact ⟨ret_ib (by rw [E.out.1]) (by rw [E.out.2]), rfl⟩
    · have E := Lib.hid (add_yes ha hb)
      obtain ⟨a1, a2⟩ := (ok_iff a).1 ha
      obtain ⟨b1, b2⟩ := (ok_iff b).1 hb
      go_enter Try.func39, Try.ntmps39
      go_wp2_with (first | (go_at_call 43; refine (implOk _ _).mono ?_; rintro e w' ⟨rfl, rfl⟩) | (go_at_call 47; refine (implNearest _ _).mono ?_; rintro e w' ⟨rfl, rfl⟩))
      go_ret2
      exact ⟨ret_ib (by rw [E.out.1]) (by rw [E.out.2]), rfl⟩

theorem implMul (a b : Int) (w : World) : Calls Try.prog 38 #[.int .i64 a, .int .i64 b] w fun e w' => e = .returned (.tuple #[.int .i64 (mulI a b), .bool (mulB a b)]) ∧ w = w' := by
  cases ha : okB a
  · have E := Lib.hid (mul_no1 (b := b) ha)
    go_enter Try.func38, Try.ntmps38
    go_wp2_with (go_at_call 43; refine (implOk _ _).mono ?_; rintro e w' ⟨rfl, rfl⟩)
    go_ret2
    exact ⟨ret_ib (by rw [E.out.1]) (by rw [E.out.2]), rfl⟩
  · cases hb : okB b
    · have E := Lib.hid (mul_no2 (a := a) hb)
      go_enter Try.func38, Try.ntmps38
      go_wp2_with (go_at_call 43; refine (implOk _ _).mono ?_; rintro e w' ⟨rfl, rfl⟩)
      go_ret2
      exact ⟨ret_ib (by rw [E.out.1]) (by rw [E.out.2]), rfl⟩
    · have E := Lib.hid (mul_yes ha hb)
      obtain ⟨a1, a2⟩ := (ok_iff a).1 ha
      obtain ⟨b1, b2⟩ := (ok_iff b).1 hb
      have p := mul_bd a1 a2 b1 b2
      go_enter Try.func38, Try.ntmps38
      go_wp2_with (first | (go_at_call 43; refine (implOk _ _).mono ?_; rintro e w' ⟨rfl, rfl⟩) | (go_at_call 47; refine (implNearest _ _).mono ?_; rintro e w' ⟨rfl, rfl⟩))
      go_ret2
      exact ⟨ret_ib (by rw [E.out.1]) (by rw [E.out.2]), rfl⟩

theorem specMul0 (a b : Int) (w : World) (a1 : -2000000000 ≤ a) (a2 : a ≤ 2000000000) (b1 : -2000000000 ≤ b) (b2 : b ≤ 2000000000) : Calls Try.prog 48 #[.int .i64 a, .int .i64 b] w fun e w' => e = .returned (.int .i64 ((a * b).tdiv 1000)) ∧ w = w' := by
  have p := mul_bd a1 a2 b1 b2
  go_enter Try.func48, Try.ntmps48
  go_wp2
  go_ret
  exact ⟨rfl, rfl⟩

end Go.Proofs.Ytmnojoddapdaoab
