/-
  What the quotient and the square root of chapter 1 return, in the program and in the model, at every argument: the contracts.
-/
import Derived.Test.YtknibegiglimcaaFix
namespace Go.Proofs.Ytknibegiglimcaa
open Go.RowKit
open M

theorem implEnd (a : Int) (w : World) : Calls Try.prog 46 #[.int .i64 a] w fun e w' => e = .returned (.int .i64 (endI a)) ∧ w = w' := by
  rcases end_three a with ⟨h, E0⟩ | ⟨h, E0⟩ | ⟨h, E0⟩
  · have E := Lib.hid E0
    clear E0
    go_enter Try.func46, Try.ntmps46
    go_wp2
    go_ret
    exact ⟨ret_int (by rw [E.out]), rfl⟩
  · have E := Lib.hid E0
    clear E0
    go_enter Try.func46, Try.ntmps46
    go_wp2
    go_ret
    exact ⟨ret_int (by rw [E.out]), rfl⟩
  · subst h
    go_enter Try.func46, Try.ntmps46
    go_wp2
    go_ret
    exact ⟨ret_int rfl, rfl⟩

set_option maxHeartbeats 400000 in
theorem implDiv (a b : Int) (w : World) : Calls Try.prog 34 #[.int .i64 a, .int .i64 b] w fun e w' => e = .returned (.tuple #[.int .i64 (divI a b), .bool (divB a b)]) ∧ w = w' := by
  cases ha : okB a
  · have E := Lib.hid (div_no1 (b := b) ha)
    go_enter Try.func34, Try.ntmps34
    go_wp2_with (go_at_call 25; refine (implOk _ _).mono ?_; rintro e w' ⟨rfl, rfl⟩)
    go_ret2
    exact ⟨ret_ib (by rw [E.out.1]) (by rw [E.out.2]), rfl⟩
  · cases hb : okB b
    · have E := Lib.hid (div_no2 (a := a) hb)
      go_enter Try.func34, Try.ntmps34
      go_wp2_with (go_at_call 25; refine (implOk _ _).mono ?_; rintro e w' ⟨rfl, rfl⟩)
      go_ret2
      exact ⟨ret_ib (by rw [E.out.1]) (by rw [E.out.2]), rfl⟩
    · obtain ⟨a1, a2⟩ := (ok_iff a).1 ha
      obtain ⟨b1, b2⟩ := (ok_iff b).1 hb
      by_cases h0 : b = 0
      · subst h0
        have E := Lib.hid (div_zero (a := a) ha)
        go_enter Try.func34, Try.ntmps34
        go_wp2_with (first | (go_at_call 25; refine (implOk _ _).mono ?_; rintro e w' ⟨rfl, rfl⟩) | (go_at_call 46; refine (implEnd _ _).mono ?_; rintro e w' ⟨rfl, rfl⟩))
        go_ret2
        exact ⟨ret_ib (by rw [E.out.1]) (by rw [E.out.2]), rfl⟩
      · have E := Lib.hid (div_yes ha hb h0)
        have p1 : -2000000000000 ≤ a * 1000 := by omega
        have p2 : a * 1000 ≤ 2000000000000 := by omega
        have q := tdiv_bd (b := b) p1 p2
        have z1 : (b == 0) = false := beq_eq_false_iff_ne.2 h0
        by_cases z2 : (a == 0) = true
        all_goals
          go_enter Try.func34, Try.ntmps34
          go_wp2_with (first | (go_at_call 25; refine (implOk _ _).mono ?_; rintro e w' ⟨rfl, rfl⟩) | (go_at_call 43; refine (implNearest _ _).mono ?_; rintro e w' ⟨rfl, rfl⟩))
          go_ret2
          exact ⟨ret_ib (by rw [E.out.1]) (by rw [E.out.2]), rfl⟩

set_option maxHeartbeats 400000 in
theorem specDiv (a b : Int) (w : World) : Calls Try.prog 35 #[.int .i64 a, .int .i64 b] w fun e w' => e = .returned (.tuple #[.int .i64 (divI a b), .bool (divB a b)]) ∧ w = w' := by
  cases ha : okB a
  · have E := Lib.hid (div_no1 (b := b) ha)
    go_enter Try.func35, Try.ntmps35
    go_wp2_with (go_at_call 26; refine (specOk _ _).mono ?_; rintro e w' ⟨rfl, rfl⟩)
    go_ret2
    exact ⟨ret_ib (by rw [E.out.1]) (by rw [E.out.2]), rfl⟩
  · cases hb : okB b
    · have E := Lib.hid (div_no2 (a := a) hb)
      go_enter Try.func35, Try.ntmps35
      go_wp2_with (go_at_call 26; refine (specOk _ _).mono ?_; rintro e w' ⟨rfl, rfl⟩)
      go_ret2
      exact ⟨ret_ib (by rw [E.out.1]) (by rw [E.out.2]), rfl⟩
    · obtain ⟨a1, a2⟩ := (ok_iff a).1 ha
      obtain ⟨b1, b2⟩ := (ok_iff b).1 hb
      by_cases h0 : b = 0
      · subst h0
        rcases end_three a with ⟨h, E0⟩ | ⟨h, E0⟩ | ⟨h, E0⟩
        · have E := Lib.hid (div_zero (a := a) ha)
          have E2 := Lib.hid E0
          clear E0
          go_enter Try.func35, Try.ntmps35
          go_wp2_with (first | (go_at_call 26; refine (specOk _ _).mono ?_; rintro e w' ⟨rfl, rfl⟩))
          go_ret2
          exact ⟨ret_ib (by rw [E.out.1, E2.out]) (by rw [E.out.2]), rfl⟩
        · have E := Lib.hid (div_zero (a := a) ha)
          have E2 := Lib.hid E0
          have h' : ¬ (0 < a) := by omega
          have h'' : (a == 0) = false := beq_eq_false_iff_ne.2 (by omega)
          clear E0
          go_enter Try.func35, Try.ntmps35
          go_wp2_with (first | (go_at_call 26; refine (specOk _ _).mono ?_; rintro e w' ⟨rfl, rfl⟩))
          go_ret2
          exact ⟨ret_ib (by rw [E.out.1, E2.out]) (by rw [E.out.2]), rfl⟩
        · subst h
          have E := Lib.hid (div_zero (a := 0) ha)
          have E2 := Lib.hid E0
          clear E0
          go_enter Try.func35, Try.ntmps35
          go_wp2_with (first | (go_at_call 26; refine (specOk _ _).mono ?_; rintro e w' ⟨rfl, rfl⟩))
          go_ret2
          exact ⟨ret_ib (by rw [E.out.1, E2.out]) (by rw [E.out.2]), rfl⟩
      · have E := Lib.hid (div_yes ha hb h0)
        have p1 : -2000000000000 ≤ a * 1000 := by omega
        have p2 : a * 1000 ≤ 2000000000000 := by omega
        have q := tdiv_bd (b := b) p1 p2
        have z1 : (b == 0) = false := beq_eq_false_iff_ne.2 h0
        by_cases z2 : (a == 0) = true
        all_goals
          go_enter Try.func35, Try.ntmps35
          go_wp2_with (first | (go_at_call 26; refine (specOk _ _).mono ?_; rintro e w' ⟨rfl, rfl⟩) | (go_at_call 44; refine (specRange _ _).mono ?_; rintro e w' ⟨rfl, rfl⟩))
          go_ret2
          exact ⟨ret_ib (by rw [E.out.1]) (by rw [E.out.2]), rfl⟩

set_option maxHeartbeats 400000 in
theorem implRoot (n : Int) (w : World) (h0 : 0 ≤ n) (hn : n ≤ 2000000000000) : Calls Try.prog 48 #[.int .i64 n] w fun e w' => e = .returned (.int .i64 (sq n)) ∧ w = w' := by
  go_enter Try.func48, Try.ntmps48
  go_wp2
  go_loop [3, 4] (fun s t => ∃ l h : Int, Root n l h ∧ s = .int .i64 l ∧ t = .int .i64 h) (fun s t => (intOf t - intOf s).toNat)
  case atStart => exact ⟨0, n + 1, root_start h0, rfl, rfl⟩
  case round =>
    obtain ⟨l, h, R, rfl, rfl⟩ := hrel
    obtain ⟨l0, lh, hh⟩ := root_bd R
    by_cases g : 1 < h - l
    · have m1 : l < l + (h - l) / 2 := by omega
      have m2 : l + (h - l) / 2 < h := by omega
      have d1 := root_div (n := n) (m := l + (h - l) / 2) h0 (by omega)
      have z : ((l + (h - l) / 2) == 0) = false := beq_eq_false_iff_ne.2 (by omega)
      by_cases c : l + (h - l) / 2 ≤ n / (l + (h - l) / 2)
      · have R' := Lib.hid (root_up R (by omega) m2 c)
        go_wp2
        go_round
        case rel => exact ⟨_, _, R'.out, rfl, rfl⟩
        case measure => simp [intOf]; omega
      · have R' := Lib.hid (root_down R m1 c (by omega))
        go_wp2
        go_round
        case rel => exact ⟨_, _, R'.out, rfl, rfl⟩
        case measure => simp [intOf]; omega
    · have E := Lib.hid (root_end h0 R (by omega))
      go_wp2
      go_ret
      exact ⟨ret_int E.out, rfl⟩

set_option maxHeartbeats 400000 in
theorem specRoot (n : Int) (w : World) (h0 : 0 ≤ n) (hn : n ≤ 2000000000000) : Calls Try.prog 49 #[.int .i64 n] w fun e w' => e = .returned (.int .i64 (sq n)) ∧ w = w' := by
  go_enter Try.func49, Try.ntmps49
  go_wp2
  go_loop [3, 4] (fun s t => ∃ l h : Int, Root2 n l h ∧ s = .int .i64 l ∧ t = .int .i64 h) (fun s t => (intOf t - intOf s).toNat)
  case atStart => exact ⟨0, 2000000, root2_start h0 hn, rfl, rfl⟩
  case round =>
    obtain ⟨l, h, R, rfl, rfl⟩ := hrel
    obtain ⟨l0, lh, hh⟩ := root2_bd R
    by_cases g : l < h
    · have m1 : l < (l + h + 1) / 2 := by omega
      have m2 : (l + h + 1) / 2 ≤ h := by omega
      have d1 := mul_bd (a := (l + h + 1) / 2) (b := (l + h + 1) / 2) (by omega) (by omega) (by omega) (by omega)
      by_cases c : (l + h + 1) / 2 * ((l + h + 1) / 2) ≤ n
      · have R' := Lib.hid (root2_up R (by omega) m2 c)
        go_wp2
        go_round
        case rel => exact ⟨_, _, R'.out, rfl, rfl⟩
        case measure => simp [intOf]; omega
      · have R' := Lib.hid (root2_down R m1 m2 c)
        go_wp2
        go_round
        case rel => exact ⟨_, _, R'.out, rfl, rfl⟩
        case measure => simp [intOf]; omega
    · have E := Lib.hid (root2_end h0 R (by omega))
      go_wp2
      go_ret
      exact ⟨ret_int E.out, rfl⟩

theorem implSqrt (a : Int) (w : World) : Calls Try.prog 37 #[.int .i64 a] w fun e w' => e = .returned (.tuple #[.int .i64 (sqrI a), .bool (inSq a)]) ∧ w = w' := by
  cases ha : okB a
  · have E := Lib.hid (sqr_no1 ha)
    go_enter Try.func37, Try.ntmps37
    go_wp2_with (go_at_call 25; refine (implOk _ _).mono ?_; rintro e w' ⟨rfl, rfl⟩)
    go_ret2
    exact ⟨ret_ib (by rw [E.out.1]) (by rw [E.out.2]), rfl⟩
  · obtain ⟨a1, a2⟩ := (ok_iff a).1 ha
    by_cases g : a < 0
    · have E := Lib.hid (sqr_no2 g)
      go_enter Try.func37, Try.ntmps37
      go_wp2_with (go_at_call 25; refine (implOk _ _).mono ?_; rintro e w' ⟨rfl, rfl⟩)
      go_ret2
      exact ⟨ret_ib (by rw [E.out.1]) (by rw [E.out.2]), rfl⟩
    · have E := Lib.hid (sqr_yes (a := a) (by omega))
      go_enter Try.func37, Try.ntmps37
      go_wp2_with (first | (go_at_call 25; refine (implOk _ _).mono ?_; rintro e w' ⟨rfl, rfl⟩) | (go_at_call 48; refine (implRoot _ _ (by omega) (by omega)).mono ?_; rintro e w' ⟨rfl, rfl⟩))
      go_ret2
      exact ⟨ret_ib (by rw [E.out.1]) (by rw [E.out.2]), rfl⟩

theorem specSqrt (a : Int) (w : World) : Calls Try.prog 38 #[.int .i64 a] w fun e w' => e = .returned (.tuple #[.int .i64 (sqrI a), .bool (inSq a)]) ∧ w = w' := by
  by_cases g : 0 ≤ a ∧ a ≤ 2000000000
  · have E := Lib.hid (sqr_yes g)
    have hi := inB_yes g
    obtain ⟨a1, a2⟩ := g
    go_enter Try.func38, Try.ntmps38
    go_wp2_with (first | (go_at_call 42; refine (in_any _ _ _ _).mono ?_; rintro e w' ⟨rfl, rfl⟩) | (go_at_call 49; refine (specRoot _ _ (by omega) (by omega)).mono ?_; rintro e w' ⟨rfl, rfl⟩))
    go_ret2
    exact ⟨ret_ib (by rw [E.out.1]) (by rw [E.out.2]), rfl⟩
  · have E := Lib.hid (sqr_no g)
    have hi := inB_no g
    clear g
    go_enter Try.func38, Try.ntmps38
    go_wp2_with (go_at_call 42; refine (in_any _ _ _ _).mono ?_; rintro e w' ⟨rfl, rfl⟩)
    go_ret2
    exact ⟨ret_ib (by rw [E.out.1]) (by rw [E.out.2]), rfl⟩

end Go.Proofs.Ytknibegiglimcaa
