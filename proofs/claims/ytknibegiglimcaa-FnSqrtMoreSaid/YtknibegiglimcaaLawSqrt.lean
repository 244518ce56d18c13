/-
  The walks of the laws of square roots: each returns true at every code.
-/
import Derived.Test.YtknibegiglimcaaRoot
import Derived.Test.YtknibegiglimcaaDrawFix
import Derived.Test.YtknibegiglimcaaMathLaws
namespace Go.Proofs.Ytknibegiglimcaa
open Go.RowKit
open M

set_option maxHeartbeats 400000 in
theorem walk_FnSqrt (a : Option Addr) (len cap : Nat) (zs : List Int) (w : World) (h : IsRow .u8 w a len cap zs) :
    Calls Try.prog 13 #[.slice a len cap] w fun e w' => e = .returned (.bool true) ∧ Below w.heap.size w w' := by
  have hm := h.bytes.1
  have hm2 := h.bytes.2.1
  unfold maxLen at hm2
  by_cases g : 1048576 < len
  · have g1 : (1048576 : Int) < (len : Int) := by omega
    go_enter Try.func13, Try.ntmps13
    go_wp2
    go_ret
    exact ⟨rfl, Below.refl _ _⟩
  have g1 : (len : Int) ≤ 1048576 := by omega
  go_enter Try.func13, Try.ntmps13
  go_wp2_with fail
  refine (draw_sqrt a len cap zs w h).mono ?_
  rintro e w1 ⟨x, ⟨x1, x2⟩, rfl, B1⟩
  have hB := Lib.hid B1
  clear B1 h
  cases hb : inSq x
  · go_wp2_with (first | (go_at_call 37; refine (implSqrt _ _).mono ?_; rintro e w' ⟨rfl, rfl⟩) | (go_at_call 38; refine (specSqrt _ _).mono ?_; rintro e w' ⟨rfl, rfl⟩) | (go_at_call 31; refine (implMul _ _ _).mono ?_; rintro e w' ⟨rfl, rfl⟩))
    go_ret
    exact ⟨rfl, hB.out⟩
  obtain ⟨s, hI, ⟨a1, a2⟩, ⟨s1, s2⟩, u1, u2⟩ := sqr_true hb
  have p1 := mul_bd (a := s) (b := s) (by omega) (by omega) (by omega) (by omega)
  have p2 := mul_bd (a := s + 1) (b := s + 1) (by omega) (by omega) (by omega) (by omega)
  go_wp2_with (first | (go_at_call 37; refine (implSqrt _ _).mono ?_; rintro e w' ⟨rfl, rfl⟩) | (go_at_call 38; refine (specSqrt _ _).mono ?_; rintro e w' ⟨rfl, rfl⟩) | (go_at_call 31; refine (implMul _ _ _).mono ?_; rintro e w' ⟨rfl, rfl⟩))
  go_ret
  exact ⟨rfl, hB.out⟩

set_option maxHeartbeats 400000 in
theorem walk_FnSqrtMore (a : Option Addr) (len cap : Nat) (zs : List Int) (a2 : Option Addr) (len2 cap2 : Nat) (zs2 : List Int) (w : World) (h : IsRow .u8 w a len cap zs) (h2 : IsRow .u8 w a2 len2 cap2 zs2) :
    Calls Try.prog 14 #[.slice a len cap, .slice a2 len2 cap2] w fun e w' => e = .returned (.bool true) ∧ Below w.heap.size w w' := by
  have hm := h.bytes.1
  have hm2 := h.bytes.2.1
  have hm3 := h2.bytes.1
  have hm4 := h2.bytes.2.1
  unfold maxLen at hm2 hm4
  by_cases g : 1048576 < len
  · have g1 : (1048576 : Int) < (len : Int) := by omega
    go_enter Try.func14, Try.ntmps14
    go_wp2
    go_ret
    exact ⟨rfl, Below.refl _ _⟩
  by_cases g2 : 1048576 < len2
  · have g1 : (len : Int) ≤ 1048576 := by omega
    have g3 : (1048576 : Int) < (len2 : Int) := by omega
    go_enter Try.func14, Try.ntmps14
    go_wp2
    go_ret
    exact ⟨rfl, Below.refl _ _⟩
  have g1 : (len : Int) ≤ 1048576 := by omega
  have g3 : (len2 : Int) ≤ 1048576 := by omega
  have g4 : (0 : Int) ≤ (len2 : Int) := by omega
  go_enter Try.func14, Try.ntmps14
  go_wp2_with fail
  refine (draw_sqrt a len cap zs w h).mono ?_
  rintro e w1 ⟨x, ⟨x1, x2⟩, rfl, B1⟩
  have hB := Lib.hid B1
  clear B1 h h2
  cases hb : inSq x
  · go_wp2_with (first | (go_at_call 37; refine (implSqrt _ _).mono ?_; rintro e w' ⟨rfl, rfl⟩) | (go_at_call 38; refine (specSqrt _ _).mono ?_; rintro e w' ⟨rfl, rfl⟩) | (go_at_call 31; refine (implMul _ _ _).mono ?_; rintro e w' ⟨rfl, rfl⟩))
    go_ret
    exact ⟨rfl, hB.out⟩
  obtain ⟨s, hI, ⟨a1, a2⟩, ⟨s1, s2⟩, _, _⟩ := sqr_true hb
  have n1 : inSq (-1 - (len2 : Int)) = false := inSq_neg (by omega)
  by_cases hs : x + (len2 : Int) ≤ 2000000000
  · have hmin : min (x + (len2 : Int)) 2000000000 = x + (len2 : Int) := by omega
    obtain ⟨k, k2⟩ := sqr_more (c := x + (len2 : Int)) a1 (by omega) hs
    rw [hI] at k
    go_wp2_with (first | (go_at_call 37; refine (implSqrt _ _).mono ?_; rintro e w' ⟨rfl, rfl⟩) | (go_at_call 38; refine (specSqrt _ _).mono ?_; rintro e w' ⟨rfl, rfl⟩) | (go_at_call 31; refine (implMul _ _ _).mono ?_; rintro e w' ⟨rfl, rfl⟩))
    go_ret
    exact ⟨rfl, hB.out⟩
  · have hmin : min (x + (len2 : Int)) 2000000000 = 2000000000 := by omega
    obtain ⟨k, k2⟩ := sqr_more (c := 2000000000) a1 (by omega) (by omega)
    rw [hI] at k
    go_wp2_with (first | (go_at_call 37; refine (implSqrt _ _).mono ?_; rintro e w' ⟨rfl, rfl⟩) | (go_at_call 38; refine (specSqrt _ _).mono ?_; rintro e w' ⟨rfl, rfl⟩) | (go_at_call 31; refine (implMul _ _ _).mono ?_; rintro e w' ⟨rfl, rfl⟩))
    go_ret
    exact ⟨rfl, hB.out⟩

set_option maxHeartbeats 400000 in
theorem walk_FnSqrtSquare (a : Option Addr) (len cap : Nat) (zs : List Int) (a2 : Option Addr) (len2 cap2 : Nat) (zs2 : List Int) (w : World) (h : IsRow .u8 w a len cap zs) (h2 : IsRow .u8 w a2 len2 cap2 zs2) :
    Calls Try.prog 18 #[.slice a len cap, .slice a2 len2 cap2] w fun e w' => e = .returned (.bool true) ∧ Below w.heap.size w w' := by
  have hm := h.bytes.1
  have hm2 := h.bytes.2.1
  have hm3 := h2.bytes.1
  have hm4 := h2.bytes.2.1
  unfold maxLen at hm2 hm4
  by_cases g : 1048576 < len
  · have g1 : (1048576 : Int) < (len : Int) := by omega
    go_enter Try.func18, Try.ntmps18
    go_wp2
    go_ret
    exact ⟨rfl, Below.refl _ _⟩
  by_cases g2 : 1048576 < len2
  · have g1 : (len : Int) ≤ 1048576 := by omega
    have g3 : (1048576 : Int) < (len2 : Int) := by omega
    go_enter Try.func18, Try.ntmps18
    go_wp2
    go_ret
    exact ⟨rfl, Below.refl _ _⟩
  have g1 : (len : Int) ≤ 1048576 := by omega
  have g3 : (len2 : Int) ≤ 1048576 := by omega
  have g4 : (0 : Int) ≤ (len2 : Int) := by omega
  go_enter Try.func18, Try.ntmps18
  go_wp2_with fail
  refine (draw_sqrt a len cap zs w h).mono ?_
  rintro e w1 ⟨x, ⟨x1, x2⟩, rfl, B1⟩
  have hB := Lib.hid B1
  clear B1 h h2
  cases hb : inSq x
  · go_wp2_with (first | (go_at_call 37; refine (implSqrt _ _).mono ?_; rintro e w' ⟨rfl, rfl⟩) | (go_at_call 38; refine (specSqrt _ _).mono ?_; rintro e w' ⟨rfl, rfl⟩) | (go_at_call 31; refine (implMul _ _ _).mono ?_; rintro e w' ⟨rfl, rfl⟩))
    go_ret
    exact ⟨rfl, hB.out⟩
  have m0 : 0 ≤ (len2 : Int) % 1000 := by omega
  have m1 : (len2 : Int) % 1000 < 1000 := by omega
  obtain ⟨c1, c2, c3, c4⟩ := square m0 m1
  go_wp2_with (first | (go_at_call 37; refine (implSqrt _ _).mono ?_; rintro e w' ⟨rfl, rfl⟩) | (go_at_call 38; refine (specSqrt _ _).mono ?_; rintro e w' ⟨rfl, rfl⟩) | (go_at_call 31; refine (implMul _ _ _).mono ?_; rintro e w' ⟨rfl, rfl⟩))
  go_ret
  exact ⟨rfl, hB.out⟩

end Go.Proofs.Ytknibegiglimcaa
