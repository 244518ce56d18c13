/-
  The walks of the laws of sums and scaled vectors: each returns true at every code.
-/
import Derived.Test.YtmnojoddapdaoaaVecAt
namespace Go.Proofs.Ytmnojoddapdaoaa
open Go.RowKit
open M

set_option maxHeartbeats 1000000 in
theorem walk_FnVecAdd (a : Option Addr) (len cap : Nat) (zs : List Int) (w : World) (h : IsRow .u8 w a len cap zs) :
    Calls Try.prog 3 #[.slice a len cap] w fun e w' => e = .returned (.bool true) ∧ Below w.heap.size w w' := by
  have hm := h.bytes.1
  have hm2 := h.bytes.2.1
  unfold maxLen at hm2
  by_cases g : 1048576 < len
  · have g1 : (1048576 : Int) < (len : Int) := by omega
    go_enter Try.func3, Try.ntmps3
    go_wp2
    go_ret
    exact ⟨rfl, Below.refl _ _⟩
  have g1 : (len : Int) ≤ 1048576 := by omega
  go_enter Try.func3, Try.ntmps3
  go_wp2_with fail
  refine (draw_vadd a len cap zs w h).mono ?_
  rintro e w1 ⟨x, y, u, v, ⟨⟨x1, x2⟩, y1, y2⟩, ⟨⟨u1, u2⟩, v1, v2⟩, rfl, B1⟩
  have H1 := Lib.hid B1
  clear B1 h
  cases hb : vaB x y u v
  · have C1 := Lib.hid (show ∀ W : World, Calls Try.prog 15 #[vec x y, vec u v] W (fun e w' => e = .returned (.tuple #[vec (vaX x y u v) (vaY x y u v), .bool false]) ∧ Below W.heap.size W w') from fun W => by have t := implVAdd x y u v W; rw [hb] at t; exact t)
    go_wp2_with fail
    refine (C1.out _).mono ?_
    rintro e w2 ⟨rfl, B2⟩
    have H2 := Lib.hid (bl_trans (bl_alloc (bl_alloc (H1.out) _) _) B2)
    have V1 : VecAt w2 (w1.heap.size) x y := ((VecAt.new _ _ x y _ (by first | rfl | simp)).alloc _).step B2
    have V2 : VecAt w2 (w1.heap.size + 1) u v := (VecAt.new _ _ u v _ (by first | rfl | simp)).step B2
    clear B2 C1 H1
    have c1a := V1.c0
    have c1b := V1.c1
    have l1 := V1.lt
    have c2a := V2.c0
    have c2b := V2.c1
    have l2 := V2.lt
    have C2 := Lib.hid (show ∀ W : World, Calls Try.prog 16 #[vec x y, vec u v] W (fun e w' => e = .returned (.tuple #[vec (vaX x y u v) (vaY x y u v), .bool false]) ∧ Below W.heap.size W w') from fun W => by have t := specVAdd x y u v W; rw [hb] at t; exact t)
    go_wp2_with fail
    refine (C2.out _).mono ?_
    rintro e w3 ⟨rfl, B3⟩
    have H3 := Lib.hid (bl_trans (bl_alloc (H2.out) _) B3)
    have V3 : VecAt w3 (w1.heap.size) x y := (V1.alloc _).step B3
    have V4 : VecAt w3 (w1.heap.size + 1) u v := (V2.alloc _).step B3
    have V5 : VecAt w3 (w2.heap.size) (vaX x y u v) (vaY x y u v) := (VecAt.new _ _ (vaX x y u v) (vaY x y u v) _ (by first | rfl | simp)).step B3
    clear B3 C2 H2 V1 c1a c1b l1 V2 c2a c2b l2
    have c3a := V3.c0
    have c3b := V3.c1
    have l3 := V3.lt
    have c4a := V4.c0
    have c4b := V4.c1
    have l4 := V4.lt
    have c5a := V5.c0
    have c5b := V5.c1
    have l5 := V5.lt
    go_wp2
    all_goals
      go_ret
      first | exact ⟨rfl, (by repeat (first | exact H3.out | refine bl_alloc ?_ _ | refine bl_drew ?_ _))⟩ | exact ⟨ret_b (decide_eq_true (by omega)), (by repeat (first | exact H3.out | refine bl_alloc ?_ _ | refine bl_drew ?_ _))⟩ | exact ⟨ret_b (by simp; omega), (by repeat (first | exact H3.out | refine bl_alloc ?_ _ | refine bl_drew ?_ _))⟩
  obtain ⟨_, _, h3, e1, e2⟩ := va_true hb
  obtain ⟨f1, f2, f3⟩ := va_comm hb
  have C1 := Lib.hid (show ∀ W : World, Calls Try.prog 15 #[vec x y, vec u v] W (fun e w' => e = .returned (.tuple #[vec (x + u) (y + v), .bool true]) ∧ Below W.heap.size W w') from fun W => by have t := implVAdd x y u v W; rw [e1, e2, hb] at t; exact t)
  go_wp2_with fail
  refine (C1.out _).mono ?_
  rintro e w2 ⟨rfl, B2⟩
  have H2 := Lib.hid (bl_trans (bl_alloc (bl_alloc (H1.out) _) _) B2)
  have V1 : VecAt w2 (w1.heap.size) x y := ((VecAt.new _ _ x y _ (by first | rfl | simp)).alloc _).step B2
  have V2 : VecAt w2 (w1.heap.size + 1) u v := (VecAt.new _ _ u v _ (by first | rfl | simp)).step B2
  clear B2 C1 H1
  have c1a := V1.c0
  have c1b := V1.c1
  have l1 := V1.lt
  have c2a := V2.c0
  have c2b := V2.c1
  have l2 := V2.lt
  have C2 := Lib.hid (show ∀ W : World, Calls Try.prog 16 #[vec x y, vec u v] W (fun e w' => e = .returned (.tuple #[vec (x + u) (y + v), .bool true]) ∧ Below W.heap.size W w') from fun W => by have t := specVAdd x y u v W; rw [e1, e2, hb] at t; exact t)
  go_wp2_with fail
  refine (C2.out _).mono ?_
  rintro e w3 ⟨rfl, B3⟩
  have H3 := Lib.hid (bl_trans (bl_alloc (H2.out) _) B3)
  have V3 : VecAt w3 (w1.heap.size) x y := (V1.alloc _).step B3
  have V4 : VecAt w3 (w1.heap.size + 1) u v := (V2.alloc _).step B3
  have V5 : VecAt w3 (w2.heap.size) (x + u) (y + v) := (VecAt.new _ _ (x + u) (y + v) _ (by first | rfl | simp)).step B3
  clear B3 C2 H2 V1 c1a c1b l1 V2 c2a c2b l2
  have c3a := V3.c0
  have c3b := V3.c1
  have l3 := V3.lt
  have c4a := V4.c0
  have c4b := V4.c1
  have l4 := V4.lt
  have c5a := V5.c0
  have c5b := V5.c1
  have l5 := V5.lt
  have C3 := Lib.hid (show ∀ W : World, Calls Try.prog 15 #[vec u v, vec x y] W (fun e w' => e = .returned (.tuple #[vec (x + u) (y + v), .bool true]) ∧ Below W.heap.size W w') from fun W => by have t := implVAdd u v x y W; rw [f1, f2, f3] at t; exact t)
  go_wp2_with fail
  refine (C3.out _).mono ?_
  rintro e w4 ⟨rfl, B4⟩
  have H4 := Lib.hid (bl_trans (bl_alloc (H3.out) _) B4)
  have V6 : VecAt w4 (w1.heap.size) x y := (V3.alloc _).step B4
  have V7 : VecAt w4 (w1.heap.size + 1) u v := (V4.alloc _).step B4
  have V8 : VecAt w4 (w2.heap.size) (x + u) (y + v) := (V5.alloc _).step B4
  have V9 : VecAt w4 (w3.heap.size) (x + u) (y + v) := (VecAt.new _ _ (x + u) (y + v) _ (by first | rfl | simp)).step B4
  clear B4 C3 H3 V3 c3a c3b l3 V4 c4a c4b l4 V5 c5a c5b l5
  have c6a := V6.c0
  have c6b := V6.c1
  have l6 := V6.lt
  have c7a := V7.c0
  have c7b := V7.c1
  have l7 := V7.lt
  have c8a := V8.c0
  have c8b := V8.c1
  have l8 := V8.lt
  have c9a := V9.c0
  have c9b := V9.c1
  have l9 := V9.lt
  have C4 := Lib.hid (show ∀ W : World, Calls Try.prog 17 #[vec (x + u) (y + v)] W (fun e w' => e = .returned (.bool true) ∧ Below W.heap.size W w') from fun W => by have t := implVecOk (x + u) (y + v) W; rw [h3] at t; exact t)
  go_wp2_with fail
  refine (C4.out _).mono ?_
  rintro e w5 ⟨rfl, B5⟩
  have H5 := Lib.hid (bl_trans (bl_alloc (H4.out) _) B5)
  have V10 : VecAt w5 (w1.heap.size) x y := (V6.alloc _).step B5
  have V11 : VecAt w5 (w1.heap.size + 1) u v := (V7.alloc _).step B5
  have V12 : VecAt w5 (w2.heap.size) (x + u) (y + v) := (V8.alloc _).step B5
  have V13 : VecAt w5 (w3.heap.size) (x + u) (y + v) := (V9.alloc _).step B5
  have V14 : VecAt w5 (w4.heap.size) (x + u) (y + v) := (VecAt.new _ _ (x + u) (y + v) _ (by first | rfl | simp)).step B5
  clear B5 C4 H4 V6 c6a c6b l6 V7 c7a c7b l7 V8 c8a c8b l8 V9 c9a c9b l9
  have c10a := V10.c0
  have c10b := V10.c1
  have l10 := V10.lt
  have c11a := V11.c0
  have c11b := V11.c1
  have l11 := V11.lt
  have c12a := V12.c0
  have c12b := V12.c1
  have l12 := V12.lt
  have c13a := V13.c0
  have c13b := V13.c1
  have l13 := V13.lt
  have c14a := V14.c0
  have c14b := V14.c1
  have l14 := V14.lt
  go_wp2
  all_goals
    go_ret
    first | exact ⟨rfl, (by repeat (first | exact H5.out | refine bl_alloc ?_ _ | refine bl_drew ?_ _))⟩ | exact ⟨ret_b (decide_eq_true (by omega)), (by repeat (first | exact H5.out | refine bl_alloc ?_ _ | refine bl_drew ?_ _))⟩ | exact ⟨ret_b (by simp; omega), (by repeat (first | exact H5.out | refine bl_alloc ?_ _ | refine bl_drew ?_ _))⟩

set_option maxHeartbeats 1000000 in
theorem walk_FnVecAddBack (a : Option Addr) (len cap : Nat) (zs : List Int) (w : World) (h : IsRow .u8 w a len cap zs) :
    Calls Try.prog 4 #[.slice a len cap] w fun e w' => e = .returned (.bool true) ∧ Below w.heap.size w w' := by
  have hm := h.bytes.1
  have hm2 := h.bytes.2.1
  unfold maxLen at hm2
  by_cases g : 1048576 < len
  · have g1 : (1048576 : Int) < (len : Int) := by omega
    go_enter Try.func4, Try.ntmps4
    go_wp2
    go_ret
    exact ⟨rfl, Below.refl _ _⟩
  have g1 : (len : Int) ≤ 1048576 := by omega
  go_enter Try.func4, Try.ntmps4
  go_wp2_with fail
  refine (draw_vadd a len cap zs w h).mono ?_
  rintro e w1 ⟨x, y, u, v, ⟨⟨x1, x2⟩, y1, y2⟩, ⟨⟨u1, u2⟩, v1, v2⟩, rfl, B1⟩
  have H1 := Lib.hid B1
  clear B1 h
  cases hb : vaB x y u v
  · have C1 := Lib.hid (show ∀ W : World, Calls Try.prog 15 #[vec x y, vec u v] W (fun e w' => e = .returned (.tuple #[vec (vaX x y u v) (vaY x y u v), .bool false]) ∧ Below W.heap.size W w') from fun W => by have t := implVAdd x y u v W; rw [hb] at t; exact t)
    go_wp2_with fail
    refine (C1.out _).mono ?_
    rintro e w2 ⟨rfl, B2⟩
    have H2 := Lib.hid (bl_trans (bl_alloc (bl_alloc (H1.out) _) _) B2)
    have V1 : VecAt w2 (w1.heap.size) x y := ((VecAt.new _ _ x y _ (by first | rfl | simp)).alloc _).step B2
    have V2 : VecAt w2 (w1.heap.size + 1) u v := (VecAt.new _ _ u v _ (by first | rfl | simp)).step B2
    clear B2 C1 H1
    have c1a := V1.c0
    have c1b := V1.c1
    have l1 := V1.lt
    have c2a := V2.c0
    have c2b := V2.c1
    have l2 := V2.lt
    have C2 := Lib.hid (show ∀ W : World, Calls Try.prog 16 #[vec x y, vec u v] W (fun e w' => e = .returned (.tuple #[vec (vaX x y u v) (vaY x y u v), .bool false]) ∧ Below W.heap.size W w') from fun W => by have t := specVAdd x y u v W; rw [hb] at t; exact t)
    go_wp2_with fail
    refine (C2.out _).mono ?_
    rintro e w3 ⟨rfl, B3⟩
    have H3 := Lib.hid (bl_trans (bl_alloc (H2.out) _) B3)
    have V3 : VecAt w3 (w1.heap.size) x y := (V1.alloc _).step B3
    have V4 : VecAt w3 (w1.heap.size + 1) u v := (V2.alloc _).step B3
    have V5 : VecAt w3 (w2.heap.size) (vaX x y u v) (vaY x y u v) := (VecAt.new _ _ (vaX x y u v) (vaY x y u v) _ (by first | rfl | simp)).step B3
    clear B3 C2 H2 V1 c1a c1b l1 V2 c2a c2b l2
    have c3a := V3.c0
    have c3b := V3.c1
    have l3 := V3.lt
    have c4a := V4.c0
    have c4b := V4.c1
    have l4 := V4.lt
    have c5a := V5.c0
    have c5b := V5.c1
    have l5 := V5.lt
    go_wp2
    all_goals
      go_ret
      first | exact ⟨rfl, (by repeat (first | exact H3.out | refine bl_alloc ?_ _ | refine bl_drew ?_ _))⟩ | exact ⟨ret_b (decide_eq_true (by omega)), (by repeat (first | exact H3.out | refine bl_alloc ?_ _ | refine bl_drew ?_ _))⟩ | exact ⟨ret_b (by simp; omega), (by repeat (first | exact H3.out | refine bl_alloc ?_ _ | refine bl_drew ?_ _))⟩
  obtain ⟨_, _, _, e1, e2⟩ := va_true hb
  obtain ⟨f1, f2, f3⟩ := va_back hb
  have C1 := Lib.hid (show ∀ W : World, Calls Try.prog 15 #[vec x y, vec u v] W (fun e w' => e = .returned (.tuple #[vec (x + u) (y + v), .bool true]) ∧ Below W.heap.size W w') from fun W => by have t := implVAdd x y u v W; rw [e1, e2, hb] at t; exact t)
  go_wp2_with fail
  refine (C1.out _).mono ?_
  rintro e w2 ⟨rfl, B2⟩
  have H2 := Lib.hid (bl_trans (bl_alloc (bl_alloc (H1.out) _) _) B2)
  have V1 : VecAt w2 (w1.heap.size) x y := ((VecAt.new _ _ x y _ (by first | rfl | simp)).alloc _).step B2
  have V2 : VecAt w2 (w1.heap.size + 1) u v := (VecAt.new _ _ u v _ (by first | rfl | simp)).step B2
  clear B2 C1 H1
  have c1a := V1.c0
  have c1b := V1.c1
  have l1 := V1.lt
  have c2a := V2.c0
  have c2b := V2.c1
  have l2 := V2.lt
  have C2 := Lib.hid (show ∀ W : World, Calls Try.prog 16 #[vec x y, vec u v] W (fun e w' => e = .returned (.tuple #[vec (x + u) (y + v), .bool true]) ∧ Below W.heap.size W w') from fun W => by have t := specVAdd x y u v W; rw [e1, e2, hb] at t; exact t)
  go_wp2_with fail
  refine (C2.out _).mono ?_
  rintro e w3 ⟨rfl, B3⟩
  have H3 := Lib.hid (bl_trans (bl_alloc (H2.out) _) B3)
  have V3 : VecAt w3 (w1.heap.size) x y := (V1.alloc _).step B3
  have V4 : VecAt w3 (w1.heap.size + 1) u v := (V2.alloc _).step B3
  have V5 : VecAt w3 (w2.heap.size) (x + u) (y + v) := (VecAt.new _ _ (x + u) (y + v) _ (by first | rfl | simp)).step B3
  clear B3 C2 H2 V1 c1a c1b l1 V2 c2a c2b l2
  have c3a := V3.c0
  have c3b := V3.c1
  have l3 := V3.lt
  have c4a := V4.c0
  have c4b := V4.c1
  have l4 := V4.lt
  have c5a := V5.c0
  have c5b := V5.c1
  have l5 := V5.lt
  have C3 := Lib.hid (show ∀ W : World, Calls Try.prog 15 #[vec (x + u) (y + v), vec (-u) (-v)] W (fun e w' => e = .returned (.tuple #[vec x y, .bool true]) ∧ Below W.heap.size W w') from fun W => by have t := implVAdd (x + u) (y + v) (-u) (-v) W; rw [f1, f2, f3] at t; exact t)
  go_wp2_with fail
  refine (C3.out _).mono ?_
  rintro e w4 ⟨rfl, B4⟩
  have H4 := Lib.hid (bl_trans (bl_alloc (H3.out) _) B4)
  have V6 : VecAt w4 (w1.heap.size) x y := (V3.alloc _).step B4
  have V7 : VecAt w4 (w1.heap.size + 1) u v := (V4.alloc _).step B4
  have V8 : VecAt w4 (w2.heap.size) (x + u) (y + v) := (V5.alloc _).step B4
  have V9 : VecAt w4 (w3.heap.size) (x + u) (y + v) := (VecAt.new _ _ (x + u) (y + v) _ (by first | rfl | simp)).step B4
  clear B4 C3 H3 V3 c3a c3b l3 V4 c4a c4b l4 V5 c5a c5b l5
  have c6a := V6.c0
  have c6b := V6.c1
  have l6 := V6.lt
  have c7a := V7.c0
  have c7b := V7.c1
  have l7 := V7.lt
  have c8a := V8.c0
  have c8b := V8.c1
  have l8 := V8.lt
  have c9a := V9.c0
  have c9b := V9.c1
  have l9 := V9.lt
  go_wp2
  all_goals
    go_ret
    first | exact ⟨rfl, (by repeat (first | exact H4.out | refine bl_alloc ?_ _ | refine bl_drew ?_ _))⟩ | exact ⟨ret_b (decide_eq_true (by omega)), (by repeat (first | exact H4.out | refine bl_alloc ?_ _ | refine bl_drew ?_ _))⟩ | exact ⟨ret_b (by simp; omega), (by repeat (first | exact H4.out | refine bl_alloc ?_ _ | refine bl_drew ?_ _))⟩

set_option maxHeartbeats 1000000 in
theorem walk_FnScale (a : Option Addr) (len cap : Nat) (zs : List Int) (w : World) (h : IsRow .u8 w a len cap zs) :
    Calls Try.prog 5 #[.slice a len cap] w fun e w' => e = .returned (.bool true) ∧ Below w.heap.size w w' := by
  have hm := h.bytes.1
  have hm2 := h.bytes.2.1
  unfold maxLen at hm2
  by_cases g : 1048576 < len
  · have g1 : (1048576 : Int) < (len : Int) := by omega
    go_enter Try.func5, Try.ntmps5
    go_wp2
    go_ret
    exact ⟨rfl, Below.refl _ _⟩
  have g1 : (len : Int) ≤ 1048576 := by omega
  go_enter Try.func5, Try.ntmps5
  go_wp2_with fail
  refine (draw_vscale a len cap zs w h).mono ?_
  rintro e w1 ⟨x, y, k, ⟨⟨x1, x2⟩, y1, y2⟩, ⟨k1, k2⟩, rfl, B1⟩
  have H1 := Lib.hid B1
  clear B1 h
  cases hb : vsB x y k
  · have C1 := Lib.hid (show ∀ W : World, Calls Try.prog 19 #[vec x y, .int .i64 k] W (fun e w' => e = .returned (.tuple #[vec (vsX x y k) (vsY x y k), .bool false]) ∧ Below W.heap.size W w') from fun W => by have t := implVScale x y k W; rw [hb] at t; exact t)
    go_wp2_with fail
    refine (C1.out _).mono ?_
    rintro e w2 ⟨rfl, B2⟩
    have H2 := Lib.hid (bl_trans (bl_alloc (H1.out) _) B2)
    have V1 : VecAt w2 (w1.heap.size) x y := (VecAt.new _ _ x y _ (by first | rfl | simp)).step B2
    clear B2 C1 H1
    have c1a := V1.c0
    have c1b := V1.c1
    have l1 := V1.lt
    have C2 := Lib.hid (show ∀ W : World, Calls Try.prog 20 #[vec x y, .int .i64 k] W (fun e w' => e = .returned (.tuple #[vec (vsX x y k) (vsY x y k), .bool false]) ∧ Below W.heap.size W w') from fun W => by have t := specVScale x y k W; rw [hb] at t; exact t)
    go_wp2_with fail
    refine (C2.out _).mono ?_
    rintro e w3 ⟨rfl, B3⟩
    have H3 := Lib.hid (bl_trans (bl_alloc (H2.out) _) B3)
    have V2 : VecAt w3 (w1.heap.size) x y := (V1.alloc _).step B3
    have V3 : VecAt w3 (w2.heap.size) (vsX x y k) (vsY x y k) := (VecAt.new _ _ (vsX x y k) (vsY x y k) _ (by first | rfl | simp)).step B3
    clear B3 C2 H2 V1 c1a c1b l1
    have c2a := V2.c0
    have c2b := V2.c1
    have l2 := V2.lt
    have c3a := V3.c0
    have c3b := V3.c1
    have l3 := V3.lt
    go_wp2
    all_goals
      go_ret
      first | exact ⟨rfl, (by repeat (first | exact H3.out | refine bl_alloc ?_ _ | refine bl_drew ?_ _))⟩ | exact ⟨ret_b (decide_eq_true (by omega)), (by repeat (first | exact H3.out | refine bl_alloc ?_ _ | refine bl_drew ?_ _))⟩ | exact ⟨ret_b (by simp; omega), (by repeat (first | exact H3.out | refine bl_alloc ?_ _ | refine bl_drew ?_ _))⟩
  obtain ⟨_, e1, e2, ⟨m1, m2⟩, m3, m4⟩ := vs_true hb
  have C1 := Lib.hid (show ∀ W : World, Calls Try.prog 19 #[vec x y, .int .i64 k] W (fun e w' => e = .returned (.tuple #[vec (mu x k) (mu y k), .bool true]) ∧ Below W.heap.size W w') from fun W => by have t := implVScale x y k W; rw [e1, e2, hb] at t; exact t)
  go_wp2_with fail
  refine (C1.out _).mono ?_
  rintro e w2 ⟨rfl, B2⟩
  have H2 := Lib.hid (bl_trans (bl_alloc (H1.out) _) B2)
  have V1 : VecAt w2 (w1.heap.size) x y := (VecAt.new _ _ x y _ (by first | rfl | simp)).step B2
  clear B2 C1 H1
  have c1a := V1.c0
  have c1b := V1.c1
  have l1 := V1.lt
  have C2 := Lib.hid (show ∀ W : World, Calls Try.prog 20 #[vec x y, .int .i64 k] W (fun e w' => e = .returned (.tuple #[vec (mu x k) (mu y k), .bool true]) ∧ Below W.heap.size W w') from fun W => by have t := specVScale x y k W; rw [e1, e2, hb] at t; exact t)
  go_wp2_with fail
  refine (C2.out _).mono ?_
  rintro e w3 ⟨rfl, B3⟩
  have H3 := Lib.hid (bl_trans (bl_alloc (H2.out) _) B3)
  have V2 : VecAt w3 (w1.heap.size) x y := (V1.alloc _).step B3
  have V3 : VecAt w3 (w2.heap.size) (mu x k) (mu y k) := (VecAt.new _ _ (mu x k) (mu y k) _ (by first | rfl | simp)).step B3
  clear B3 C2 H2 V1 c1a c1b l1
  have c2a := V2.c0
  have c2b := V2.c1
  have l2 := V2.lt
  have c3a := V3.c0
  have c3b := V3.c1
  have l3 := V3.lt
  have C3 := Lib.hid (show ∀ W : World, Calls Try.prog 21 #[.int .i64 x, .int .i64 k] W (fun e w' => e = .returned (.tuple #[.int .i64 (mu x k), .bool true]) ∧ W = w') from fun W => by have t := implMul x k W; rw [m1, m2] at t; exact t)
  go_wp2_with fail
  refine (C3.out _).mono ?_
  rintro e w' ⟨rfl, rfl⟩
  clear C3
  have C4 := Lib.hid (show ∀ W : World, Calls Try.prog 21 #[.int .i64 y, .int .i64 k] W (fun e w' => e = .returned (.tuple #[.int .i64 (mu y k), .bool true]) ∧ W = w') from fun W => by have t := implMul y k W; rw [m3, m4] at t; exact t)
  go_wp2_with fail
  refine (C4.out _).mono ?_
  rintro e w' ⟨rfl, rfl⟩
  clear C4
  go_wp2
  all_goals
    go_ret
    first | exact ⟨rfl, (by repeat (first | exact H3.out | refine bl_alloc ?_ _ | refine bl_drew ?_ _))⟩ | exact ⟨ret_b (decide_eq_true (by omega)), (by repeat (first | exact H3.out | refine bl_alloc ?_ _ | refine bl_drew ?_ _))⟩ | exact ⟨ret_b (by simp; omega), (by repeat (first | exact H3.out | refine bl_alloc ?_ _ | refine bl_drew ?_ _))⟩

set_option maxHeartbeats 1000000 in
theorem walk_FnScaleOne (a : Option Addr) (len cap : Nat) (zs : List Int) (w : World) (h : IsRow .u8 w a len cap zs) :
    Calls Try.prog 6 #[.slice a len cap] w fun e w' => e = .returned (.bool true) ∧ Below w.heap.size w w' := by
  have hm := h.bytes.1
  have hm2 := h.bytes.2.1
  unfold maxLen at hm2
  by_cases g : 1048576 < len
  · have g1 : (1048576 : Int) < (len : Int) := by omega
    go_enter Try.func6, Try.ntmps6
    go_wp2
    go_ret
    exact ⟨rfl, Below.refl _ _⟩
  have g1 : (len : Int) ≤ 1048576 := by omega
  go_enter Try.func6, Try.ntmps6
  go_wp2_with fail
  refine (draw_vok a len cap zs w h).mono ?_
  rintro e w1 ⟨x, y, ⟨x1, x2⟩, ⟨y1, y2⟩, rfl, B1⟩
  have H1 := Lib.hid B1
  clear B1 h
  cases hv : vokB x y
  · have C1 := Lib.hid (show ∀ W : World, Calls Try.prog 17 #[vec x y] W (fun e w' => e = .returned (.bool false) ∧ Below W.heap.size W w') from fun W => by have t := implVecOk x y W; rw [hv] at t; exact t)
    go_wp2_with fail
    refine (C1.out _).mono ?_
    rintro e w2 ⟨rfl, B2⟩
    have H2 := Lib.hid (bl_trans (bl_alloc (H1.out) _) B2)
    have V1 : VecAt w2 (w1.heap.size) x y := (VecAt.new _ _ x y _ (by first | rfl | simp)).step B2
    clear B2 C1 H1
    have c1a := V1.c0
    have c1b := V1.c1
    have l1 := V1.lt
    have C2 := Lib.hid (show ∀ W : World, Calls Try.prog 23 #[vec x y] W (fun e w' => e = .returned (.bool false) ∧ Below W.heap.size W w') from fun W => by have t := specVecOk x y W; rw [hv] at t; exact t)
    go_wp2_with fail
    refine (C2.out _).mono ?_
    rintro e w3 ⟨rfl, B3⟩
    have H3 := Lib.hid (bl_trans (H2.out) B3)
    have V2 : VecAt w3 (w1.heap.size) x y := V1.step B3
    clear B3 C2 H2 V1 c1a c1b l1
    have c2a := V2.c0
    have c2b := V2.c1
    have l2 := V2.lt
    go_wp2
    all_goals
      go_ret
      first | exact ⟨rfl, (by repeat (first | exact H3.out | refine bl_alloc ?_ _ | refine bl_drew ?_ _))⟩ | exact ⟨ret_b (decide_eq_true (by omega)), (by repeat (first | exact H3.out | refine bl_alloc ?_ _ | refine bl_drew ?_ _))⟩ | exact ⟨ret_b (by simp; omega), (by repeat (first | exact H3.out | refine bl_alloc ?_ _ | refine bl_drew ?_ _))⟩
  obtain ⟨e1, e2, e3⟩ := vs_one hv
  obtain ⟨f1, f2, f3⟩ := vs_neg hv
  obtain ⟨i1, i2, i3⟩ := vs_zero hv
  have C1 := Lib.hid (show ∀ W : World, Calls Try.prog 17 #[vec x y] W (fun e w' => e = .returned (.bool true) ∧ Below W.heap.size W w') from fun W => by have t := implVecOk x y W; rw [hv] at t; exact t)
  go_wp2_with fail
  refine (C1.out _).mono ?_
  rintro e w2 ⟨rfl, B2⟩
  have H2 := Lib.hid (bl_trans (bl_alloc (H1.out) _) B2)
  have V1 : VecAt w2 (w1.heap.size) x y := (VecAt.new _ _ x y _ (by first | rfl | simp)).step B2
  clear B2 C1 H1
  have c1a := V1.c0
  have c1b := V1.c1
  have l1 := V1.lt
  have C2 := Lib.hid (show ∀ W : World, Calls Try.prog 23 #[vec x y] W (fun e w' => e = .returned (.bool true) ∧ Below W.heap.size W w') from fun W => by have t := specVecOk x y W; rw [hv] at t; exact t)
  go_wp2_with fail
  refine (C2.out _).mono ?_
  rintro e w3 ⟨rfl, B3⟩
  have H3 := Lib.hid (bl_trans (H2.out) B3)
  have V2 : VecAt w3 (w1.heap.size) x y := V1.step B3
  clear B3 C2 H2 V1 c1a c1b l1
  have c2a := V2.c0
  have c2b := V2.c1
  have l2 := V2.lt
  have C3 := Lib.hid (show ∀ W : World, Calls Try.prog 19 #[vec x y, .int .i64 1000] W (fun e w' => e = .returned (.tuple #[vec x y, .bool true]) ∧ Below W.heap.size W w') from fun W => by have t := implVScale x y 1000 W; rw [e1, e2, e3] at t; exact t)
  go_wp2_with fail
  refine (C3.out _).mono ?_
  rintro e w4 ⟨rfl, B4⟩
  have H4 := Lib.hid (bl_trans (H3.out) B4)
  have V3 : VecAt w4 (w1.heap.size) x y := V2.step B4
  clear B4 C3 H3 V2 c2a c2b l2
  have c3a := V3.c0
  have c3b := V3.c1
  have l3 := V3.lt
  have C4 := Lib.hid (show ∀ W : World, Calls Try.prog 19 #[vec x y, .int .i64 (-1000)] W (fun e w' => e = .returned (.tuple #[vec (-x) (-y), .bool true]) ∧ Below W.heap.size W w') from fun W => by have t := implVScale x y (-1000) W; rw [f1, f2, f3] at t; exact t)
  go_wp2_with fail
  refine (C4.out _).mono ?_
  rintro e w5 ⟨rfl, B5⟩
  have H5 := Lib.hid (bl_trans (bl_alloc (H4.out) _) B5)
  have V4 : VecAt w5 (w1.heap.size) x y := (V3.alloc _).step B5
  have V5 : VecAt w5 (w4.heap.size) x y := (VecAt.new _ _ x y _ (by first | rfl | simp)).step B5
  clear B5 C4 H4 V3 c3a c3b l3
  have c4a := V4.c0
  have c4b := V4.c1
  have l4 := V4.lt
  have c5a := V5.c0
  have c5b := V5.c1
  have l5 := V5.lt
  have C5 := Lib.hid (show ∀ W : World, Calls Try.prog 19 #[vec x y, .int .i64 0] W (fun e w' => e = .returned (.tuple #[vec 0 0, .bool true]) ∧ Below W.heap.size W w') from fun W => by have t := implVScale x y 0 W; rw [i1, i2, i3] at t; exact t)
  go_wp2_with fail
  refine (C5.out _).mono ?_
  rintro e w6 ⟨rfl, B6⟩
  have H6 := Lib.hid (bl_trans (bl_alloc (H5.out) _) B6)
  have V6 : VecAt w6 (w1.heap.size) x y := (V4.alloc _).step B6
  have V7 : VecAt w6 (w4.heap.size) x y := (V5.alloc _).step B6
  have V8 : VecAt w6 (w5.heap.size) (-x) (-y) := (VecAt.new _ _ (-x) (-y) _ (by first | rfl | simp)).step B6
  clear B6 C5 H5 V4 c4a c4b l4 V5 c5a c5b l5
  have c6a := V6.c0
  have c6b := V6.c1
  have l6 := V6.lt
  have c7a := V7.c0
  have c7b := V7.c1
  have l7 := V7.lt
  have c8a := V8.c0
  have c8b := V8.c1
  have l8 := V8.lt
  go_wp2
  all_goals
    go_ret
    first | exact ⟨rfl, (by repeat (first | exact H6.out | refine bl_alloc ?_ _ | refine bl_drew ?_ _))⟩ | exact ⟨ret_b (decide_eq_true (by omega)), (by repeat (first | exact H6.out | refine bl_alloc ?_ _ | refine bl_drew ?_ _))⟩ | exact ⟨ret_b (by simp; omega), (by repeat (first | exact H6.out | refine bl_alloc ?_ _ | refine bl_drew ?_ _))⟩

end Go.Proofs.Ytmnojoddapdaoaa
