/-
  What the quotient and the square root of chapter 1 return, in the program and in the model, at every argument: the contracts.
-/
import Derived.Test.YtmnojoddapdaoaaFix
namespace Go.Proofs.Ytmnojoddapdaoaa
open Go.RowKit
open M

set_option maxHeartbeats 400000 in
theorem implRoot (n : Int) (w : World) (h0 : 0 ≤ n) (hn : n ≤ 2000000000000) : Calls Try.prog 51 #[.int .i64 n] w fun e w' => e = .returned (.int .i64 (sq n)) ∧ w = w' := by
  go_enter Try.func51, Try.ntmps51
  go_wp2
  go_loop [3, 4] (fun s t => ∃ l h : Int, Root n l h ∧ s = .int .i64 l ∧ t = .int .i64 h) (fun s t => (intOf t - intOf s).toNat)
  case atStart => exact ⟨0, n + 1, root_start h0, rfl, rfl⟩
  case round =>
    obtain ⟨l, h, R, rfl, rfl⟩ := hrel
    obtain ⟨l0, lh, hh⟩ := root_bd R
    by_cases g : 1 < h - l
    · have m1 : l < l + (h - l) / 2 := by omega
      have m2 : l + (h - l) / 2 < h := by omega
      have d1 := root_div (n := n) (m := l + (h - l) / 2) h0 (by omega)
      have z : ((l + (h - l) / 2) == 0) = false := beq_eq_false_iff_ne.2 (by omega)
      by_cases c : l + (h - l) / 2 ≤ n / (l + (h - l) / 2)
      · have R' := Lib.hid (root_up R (by omega) m2 c)
        go_wp2
        go_round
        case rel => exact ⟨_, _, R'.out, rfl, rfl⟩
        case measure => simp [intOf]; omega
      · have R' := Lib.hid (root_down R m1 c (by omega))
        go_wp2
        go_round
        case rel => exact ⟨_, _, R'.out, rfl, rfl⟩
        case measure => simp [intOf]; omega
    · have E := Lib.hid (root_end h0 R (by omega))
      go_wp2
      go_ret
      exact ⟨ret_int E.out, rfl⟩

set_option maxHeartbeats 400000 in
theorem specRoot (n : Int) (w : World) (h0 : 0 ≤ n) (hn : n ≤ 2000000000000) : Calls Try.prog 52 #[.int .i64 n] w fun e w' => e = .returned (.int .i64 (sq n)) ∧ w = w' := by
  go_enter Try.func52, Try.ntmps52
  go_wp2
  go_loop [3, 4] (fun s t => ∃ l h : Int, Root2 n l h ∧ s = .int .i64 l ∧ t = .int .i64 h) (fun s t => (intOf t - intOf s).toNat)
  case atStart => exact ⟨0, 2000000, root2_start h0 hn, rfl, rfl⟩
  case round =>
    obtain ⟨l, h, R, rfl, rfl⟩ := hrel
    obtain ⟨l0, lh, hh⟩ := root2_bd R
    by_cases g : l < h
    · have m1 : l < (l + h + 1) / 2 := by omega
      have m2 : (l + h + 1) / 2 ≤ h := by omega
      have d1 := mul_bd (a := (l + h + 1) / 2) (b := (l + h + 1) / 2) (by omega) (by omega) (by omega) (by omega)
      by_cases c : (l + h + 1) / 2 * ((l + h + 1) / 2) ≤ n
      · have R' := Lib.hid (root2_up R (by omega) m2 c)
        go_wp2
        go_round
        case rel => exact ⟨_, _, R'.out, rfl, rfl⟩
        case measure => simp [intOf]; omega
      · have R' := Lib.hid (root2_down R m1 m2 c)
        go_wp2
        go_round
        case rel => exact ⟨_, _, R'.out, rfl, rfl⟩
        case measure => simp [intOf]; omega
    · have E := Lib.hid (root2_end h0 R (by omega))
      go_wp2
      go_ret
      exact ⟨ret_int E.out, rfl⟩

end Go.Proofs.Ytmnojoddapdaoaa
