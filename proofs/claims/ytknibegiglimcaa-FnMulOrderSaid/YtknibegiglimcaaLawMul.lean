/-
  The walks of the laws of products: each returns true at every code.
-/
import Derived.Test.YtknibegiglimcaaRoot
import Derived.Test.YtknibegiglimcaaDrawFix
import Derived.Test.YtknibegiglimcaaMathLaws
namespace Go.Proofs.Ytknibegiglimcaa
open Go.RowKit
open M

set_option maxHeartbeats 400000 in
theorem walk_FnMul (a : Option Addr) (len cap : Nat) (zs : List Int) (w : World) (h : IsRow .u8 w a len cap zs) :
    Calls Try.prog 7 #[.slice a len cap] w fun e w' => e = .returned (.bool true) ∧ Below w.heap.size w w' := by
  have hm := h.bytes.1
  have hm2 := h.bytes.2.1
  unfold maxLen at hm2
  by_cases g : 1048576 < len
  · have g1 : (1048576 : Int) < (len : Int) := by omega
    go_enter Try.func7, Try.ntmps7
    go_wp2
    go_ret
    exact ⟨rfl, Below.refl _ _⟩
  have g1 : (len : Int) ≤ 1048576 := by omega
  go_enter Try.func7, Try.ntmps7
  go_wp2_with fail
  refine (draw_mul a len cap zs w h).mono ?_
  rintro e w1 ⟨x, y, ⟨x1, x2⟩, ⟨y1, y2⟩, rfl, B1⟩
  have hB := Lib.hid B1
  clear B1 h
  cases hb : mulB x y
  · go_wp2_with (first | (go_at_call 31; refine (implMul _ _ _).mono ?_; rintro e w' ⟨rfl, rfl⟩) | (go_at_call 32; refine (specMul _ _ _).mono ?_; rintro e w' ⟨rfl, rfl⟩) | (go_at_call 25; refine (implOk _ _).mono ?_; rintro e w' ⟨rfl, rfl⟩) | (go_at_call 26; refine (specOk _ _).mono ?_; rintro e w' ⟨rfl, rfl⟩))
    go_ret
    exact ⟨rfl, hB.out⟩
  obtain ⟨q, hI, ⟨a1, a2⟩, ⟨b1, b2⟩, ⟨q1, q2⟩, up, down⟩ := mul_true hb
  have p := mul_bd a1 a2 b1 b2
  by_cases s : 0 ≤ x * y
  · obtain ⟨u1, u2, u3⟩ := up s
    clear up down
    go_wp2_with (first | (go_at_call 31; refine (implMul _ _ _).mono ?_; rintro e w' ⟨rfl, rfl⟩) | (go_at_call 32; refine (specMul _ _ _).mono ?_; rintro e w' ⟨rfl, rfl⟩) | (go_at_call 25; refine (implOk _ _).mono ?_; rintro e w' ⟨rfl, rfl⟩) | (go_at_call 26; refine (specOk _ _).mono ?_; rintro e w' ⟨rfl, rfl⟩))
    go_ret
    exact ⟨rfl, hB.out⟩
  · obtain ⟨u1, u2, u3⟩ := down (by omega)
    clear up down
    go_wp2_with (first | (go_at_call 31; refine (implMul _ _ _).mono ?_; rintro e w' ⟨rfl, rfl⟩) | (go_at_call 32; refine (specMul _ _ _).mono ?_; rintro e w' ⟨rfl, rfl⟩) | (go_at_call 25; refine (implOk _ _).mono ?_; rintro e w' ⟨rfl, rfl⟩) | (go_at_call 26; refine (specOk _ _).mono ?_; rintro e w' ⟨rfl, rfl⟩))
    go_ret
    exact ⟨rfl, hB.out⟩

set_option maxHeartbeats 400000 in
theorem walk_FnMulOrder (a : Option Addr) (len cap : Nat) (zs : List Int) (w : World) (h : IsRow .u8 w a len cap zs) :
    Calls Try.prog 8 #[.slice a len cap] w fun e w' => e = .returned (.bool true) ∧ Below w.heap.size w w' := by
  have hm := h.bytes.1
  have hm2 := h.bytes.2.1
  unfold maxLen at hm2
  by_cases g : 1048576 < len
  · have g1 : (1048576 : Int) < (len : Int) := by omega
    go_enter Try.func8, Try.ntmps8
    go_wp2
    go_ret
    exact ⟨rfl, Below.refl _ _⟩
  have g1 : (len : Int) ≤ 1048576 := by omega
  go_enter Try.func8, Try.ntmps8
  go_wp2_with fail
  refine (draw_mul a len cap zs w h).mono ?_
  rintro e w1 ⟨x, y, ⟨x1, x2⟩, ⟨y1, y2⟩, rfl, B1⟩
  have hB := Lib.hid B1
  clear B1 h
  obtain ⟨c1, c2⟩ := mul_comm x y
  cases hx : okB x
  · go_wp2_with (first | (go_at_call 31; refine (implMul _ _ _).mono ?_; rintro e w' ⟨rfl, rfl⟩) | (go_at_call 32; refine (specMul _ _ _).mono ?_; rintro e w' ⟨rfl, rfl⟩) | (go_at_call 25; refine (implOk _ _).mono ?_; rintro e w' ⟨rfl, rfl⟩) | (go_at_call 26; refine (specOk _ _).mono ?_; rintro e w' ⟨rfl, rfl⟩))
    go_ret
    exact ⟨rfl, hB.out⟩
  cases hy : okB y
  · go_wp2_with (first | (go_at_call 31; refine (implMul _ _ _).mono ?_; rintro e w' ⟨rfl, rfl⟩) | (go_at_call 32; refine (specMul _ _ _).mono ?_; rintro e w' ⟨rfl, rfl⟩) | (go_at_call 25; refine (implOk _ _).mono ?_; rintro e w' ⟨rfl, rfl⟩) | (go_at_call 26; refine (specOk _ _).mono ?_; rintro e w' ⟨rfl, rfl⟩))
    go_ret
    exact ⟨rfl, hB.out⟩
  obtain ⟨z1, z2⟩ := mul_one hx
  obtain ⟨n1, n2⟩ := mul_neg hx hy
  obtain ⟨d1, d2⟩ := mul_bds x y
  go_wp2_with (first | (go_at_call 31; refine (implMul _ _ _).mono ?_; rintro e w' ⟨rfl, rfl⟩) | (go_at_call 32; refine (specMul _ _ _).mono ?_; rintro e w' ⟨rfl, rfl⟩) | (go_at_call 25; refine (implOk _ _).mono ?_; rintro e w' ⟨rfl, rfl⟩) | (go_at_call 26; refine (specOk _ _).mono ?_; rintro e w' ⟨rfl, rfl⟩))
  go_ret
  exact ⟨rfl, hB.out⟩

set_option maxHeartbeats 400000 in
theorem walk_FnMulMore (a : Option Addr) (len cap : Nat) (zs : List Int) (a2 : Option Addr) (len2 cap2 : Nat) (zs2 : List Int) (w : World) (h : IsRow .u8 w a len cap zs) (h2 : IsRow .u8 w a2 len2 cap2 zs2) :
    Calls Try.prog 9 #[.slice a len cap, .slice a2 len2 cap2] w fun e w' => e = .returned (.bool true) ∧ Below w.heap.size w w' := by
  have hm := h.bytes.1
  have hm2 := h.bytes.2.1
  have hm3 := h2.bytes.1
  have hm4 := h2.bytes.2.1
  unfold maxLen at hm2 hm4
  by_cases g : 1048576 < len
  · have g1 : (1048576 : Int) < (len : Int) := by omega
    go_enter Try.func9, Try.ntmps9
    go_wp2
    go_ret
    exact ⟨rfl, Below.refl _ _⟩
  by_cases g2 : 1048576 < len2
  · have g1 : (len : Int) ≤ 1048576 := by omega
    have g3 : (1048576 : Int) < (len2 : Int) := by omega
    go_enter Try.func9, Try.ntmps9
    go_wp2
    go_ret
    exact ⟨rfl, Below.refl _ _⟩
  have g1 : (len : Int) ≤ 1048576 := by omega
  have g3 : (len2 : Int) ≤ 1048576 := by omega
  have g4 : (0 : Int) ≤ (len2 : Int) := by omega
  go_enter Try.func9, Try.ntmps9
  go_wp2_with fail
  refine (draw_mul a len cap zs w h).mono ?_
  rintro e w1 ⟨x, y, ⟨x1, x2⟩, ⟨y1, y2⟩, rfl, B1⟩
  have hB := Lib.hid B1
  clear B1 h h2
  cases hb : mulB x y
  · go_wp2_with (first | (go_at_call 31; refine (implMul _ _ _).mono ?_; rintro e w' ⟨rfl, rfl⟩) | (go_at_call 32; refine (specMul _ _ _).mono ?_; rintro e w' ⟨rfl, rfl⟩) | (go_at_call 25; refine (implOk _ _).mono ?_; rintro e w' ⟨rfl, rfl⟩) | (go_at_call 26; refine (specOk _ _).mono ?_; rintro e w' ⟨rfl, rfl⟩))
    go_ret
    exact ⟨rfl, hB.out⟩
  by_cases s : y < 0
  · go_wp2_with (first | (go_at_call 31; refine (implMul _ _ _).mono ?_; rintro e w' ⟨rfl, rfl⟩) | (go_at_call 32; refine (specMul _ _ _).mono ?_; rintro e w' ⟨rfl, rfl⟩) | (go_at_call 25; refine (implOk _ _).mono ?_; rintro e w' ⟨rfl, rfl⟩) | (go_at_call 26; refine (specOk _ _).mono ?_; rintro e w' ⟨rfl, rfl⟩))
    go_ret
    exact ⟨rfl, hB.out⟩
  by_cases hs : x + (len2 : Int) ≤ 2000000000
  · have hmin : min (x + (len2 : Int)) 2000000000 = x + (len2 : Int) := by omega
    have k := mul_more (c := x + (len2 : Int)) hb (by omega) (by omega) hs
    go_wp2_with (first | (go_at_call 31; refine (implMul _ _ _).mono ?_; rintro e w' ⟨rfl, rfl⟩) | (go_at_call 32; refine (specMul _ _ _).mono ?_; rintro e w' ⟨rfl, rfl⟩) | (go_at_call 25; refine (implOk _ _).mono ?_; rintro e w' ⟨rfl, rfl⟩) | (go_at_call 26; refine (specOk _ _).mono ?_; rintro e w' ⟨rfl, rfl⟩))
    go_ret
    exact ⟨rfl, hB.out⟩
  · have hmin : min (x + (len2 : Int)) 2000000000 = 2000000000 := by omega
    obtain ⟨q, hI, ⟨a1, a2⟩, _, _, _, _⟩ := mul_true hb
    have k := mul_more (c := 2000000000) hb (by omega) (by omega) (by omega)
    clear hI
    go_wp2_with (first | (go_at_call 31; refine (implMul _ _ _).mono ?_; rintro e w' ⟨rfl, rfl⟩) | (go_at_call 32; refine (specMul _ _ _).mono ?_; rintro e w' ⟨rfl, rfl⟩) | (go_at_call 25; refine (implOk _ _).mono ?_; rintro e w' ⟨rfl, rfl⟩) | (go_at_call 26; refine (specOk _ _).mono ?_; rintro e w' ⟨rfl, rfl⟩))
    go_ret
    exact ⟨rfl, hB.out⟩

set_option maxHeartbeats 400000 in
theorem walk_FnMulZero (a : Option Addr) (len cap : Nat) (zs : List Int) (w : World) (h : IsRow .u8 w a len cap zs) :
    Calls Try.prog 16 #[.slice a len cap] w fun e w' => e = .returned (.bool true) ∧ Below w.heap.size w w' := by
  have hm := h.bytes.1
  have hm2 := h.bytes.2.1
  unfold maxLen at hm2
  by_cases g : 1048576 < len
  · have g1 : (1048576 : Int) < (len : Int) := by omega
    go_enter Try.func16, Try.ntmps16
    go_wp2
    go_ret
    exact ⟨rfl, Below.refl _ _⟩
  have g1 : (len : Int) ≤ 1048576 := by omega
  go_enter Try.func16, Try.ntmps16
  go_wp2_with fail
  refine (draw_mul a len cap zs w h).mono ?_
  rintro e w1 ⟨x, y, ⟨x1, x2⟩, ⟨y1, y2⟩, rfl, B1⟩
  have hB := Lib.hid B1
  clear B1 h
  cases hx : okB x
  · go_wp2_with (first | (go_at_call 31; refine (implMul _ _ _).mono ?_; rintro e w' ⟨rfl, rfl⟩) | (go_at_call 32; refine (specMul _ _ _).mono ?_; rintro e w' ⟨rfl, rfl⟩) | (go_at_call 25; refine (implOk _ _).mono ?_; rintro e w' ⟨rfl, rfl⟩) | (go_at_call 26; refine (specOk _ _).mono ?_; rintro e w' ⟨rfl, rfl⟩))
    go_ret
    exact ⟨rfl, hB.out⟩
  obtain ⟨z1, z2⟩ := mul_zero hx
  obtain ⟨n1, n2⟩ := mul_small
  go_wp2_with (first | (go_at_call 31; refine (implMul _ _ _).mono ?_; rintro e w' ⟨rfl, rfl⟩) | (go_at_call 32; refine (specMul _ _ _).mono ?_; rintro e w' ⟨rfl, rfl⟩) | (go_at_call 25; refine (implOk _ _).mono ?_; rintro e w' ⟨rfl, rfl⟩) | (go_at_call 26; refine (specOk _ _).mono ?_; rintro e w' ⟨rfl, rfl⟩))
  go_ret
  exact ⟨rfl, hB.out⟩

end Go.Proofs.Ytknibegiglimcaa
