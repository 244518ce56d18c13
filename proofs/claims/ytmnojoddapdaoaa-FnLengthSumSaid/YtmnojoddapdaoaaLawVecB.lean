/-
  The walks of the laws of scalar products and lengths: each returns true at every code.
-/
import Derived.Test.YtmnojoddapdaoaaVecAt
namespace Go.Proofs.Ytmnojoddapdaoaa
open Go.RowKit
open M

set_option maxHeartbeats 1000000 in
theorem walk_FnDot (a : Option Addr) (len cap : Nat) (zs : List Int) (w : World) (h : IsRow .u8 w a len cap zs) :
    Calls Try.prog 7 #[.slice a len cap] w fun e w' => e = .returned (.bool true) ∧ Below w.heap.size w w' := by
  have hm := h.bytes.1
  have hm2 := h.bytes.2.1
  unfold maxLen at hm2
  by_cases g : 1048576 < len
  · have g1 : (1048576 : Int) < (len : Int) := by omega
    go_enter Try.func7, Try.ntmps7
    go_wp2
    go_ret
    exact ⟨rfl, Below.refl _ _⟩
  have g1 : (len : Int) ≤ 1048576 := by omega
  go_enter Try.func7, Try.ntmps7
  go_wp2_with fail
  refine (draw_vdot a len cap zs w h).mono ?_
  rintro e w1 ⟨x, y, u, v, ⟨⟨x1, x2⟩, y1, y2⟩, ⟨⟨u1, u2⟩, v1, v2⟩, rfl, B1⟩
  have H1 := Lib.hid B1
  clear B1 h
  cases hb : vdB x y u v
  · have C1 := Lib.hid (show ∀ W : World, Calls Try.prog 25 #[vec x y, vec u v] W (fun e w' => e = .returned (.tuple #[.int .i64 (vdI x y u v), .bool false]) ∧ Below W.heap.size W w') from fun W => by have t := implVDot x y u v W; rw [hb] at t; exact t)
    go_wp2_with fail
    refine (C1.out _).mono ?_
    rintro e w2 ⟨rfl, B2⟩
    have H2 := Lib.hid (bl_trans (bl_alloc (bl_alloc (H1.out) _) _) B2)
    have V1 : VecAt w2 (w1.heap.size) x y := ((VecAt.new _ _ x y _ (by first | rfl | simp)).alloc _).step B2
    have V2 : VecAt w2 (w1.heap.size + 1) u v := (VecAt.new _ _ u v _ (by first | rfl | simp)).step B2
    clear B2 C1 H1
    have c1a := V1.c0
    have c1b := V1.c1
    have l1 := V1.lt
    have c2a := V2.c0
    have c2b := V2.c1
    have l2 := V2.lt
    have C2 := Lib.hid (show ∀ W : World, Calls Try.prog 26 #[vec x y, vec u v] W (fun e w' => e = .returned (.tuple #[.int .i64 (vdI x y u v), .bool false]) ∧ Below W.heap.size W w') from fun W => by have t := specVDot x y u v W; rw [hb] at t; exact t)
    go_wp2_with fail
    refine (C2.out _).mono ?_
    rintro e w3 ⟨rfl, B3⟩
    have H3 := Lib.hid (bl_trans (H2.out) B3)
    have V3 : VecAt w3 (w1.heap.size) x y := V1.step B3
    have V4 : VecAt w3 (w1.heap.size + 1) u v := V2.step B3
    clear B3 C2 H2 V1 c1a c1b l1 V2 c2a c2b l2
    have c3a := V3.c0
    have c3b := V3.c1
    have l3 := V3.lt
    have c4a := V4.c0
    have c4b := V4.c1
    have l4 := V4.lt
    go_wp2
    all_goals
      go_ret
      first | exact ⟨rfl, (by repeat (first | exact H3.out | refine bl_alloc ?_ _ | refine bl_drew ?_ _))⟩ | exact ⟨ret_b (decide_eq_true (by omega)), (by repeat (first | exact H3.out | refine bl_alloc ?_ _ | refine bl_drew ?_ _))⟩ | exact ⟨ret_b (by simp; omega), (by repeat (first | exact H3.out | refine bl_alloc ?_ _ | refine bl_drew ?_ _))⟩
  obtain ⟨_, _, e1, d1, d2⟩ := vd_true hb
  obtain ⟨f1, f2⟩ := vd_comm hb
  obtain ⟨i1, i2⟩ := vd_neg hb
  have C1 := Lib.hid (show ∀ W : World, Calls Try.prog 25 #[vec x y, vec u v] W (fun e w' => e = .returned (.tuple #[.int .i64 (mu x u + mu y v), .bool true]) ∧ Below W.heap.size W w') from fun W => by have t := implVDot x y u v W; rw [e1, hb] at t; exact t)
  go_wp2_with fail
  refine (C1.out _).mono ?_
  rintro e w2 ⟨rfl, B2⟩
  have H2 := Lib.hid (bl_trans (bl_alloc (bl_alloc (H1.out) _) _) B2)
  have V1 : VecAt w2 (w1.heap.size) x y := ((VecAt.new _ _ x y _ (by first | rfl | simp)).alloc _).step B2
  have V2 : VecAt w2 (w1.heap.size + 1) u v := (VecAt.new _ _ u v _ (by first | rfl | simp)).step B2
  clear B2 C1 H1
  have c1a := V1.c0
  have c1b := V1.c1
  have l1 := V1.lt
  have c2a := V2.c0
  have c2b := V2.c1
  have l2 := V2.lt
  have C2 := Lib.hid (show ∀ W : World, Calls Try.prog 26 #[vec x y, vec u v] W (fun e w' => e = .returned (.tuple #[.int .i64 (mu x u + mu y v), .bool true]) ∧ Below W.heap.size W w') from fun W => by have t := specVDot x y u v W; rw [e1, hb] at t; exact t)
  go_wp2_with fail
  refine (C2.out _).mono ?_
  rintro e w3 ⟨rfl, B3⟩
  have H3 := Lib.hid (bl_trans (H2.out) B3)
  have V3 : VecAt w3 (w1.heap.size) x y := V1.step B3
  have V4 : VecAt w3 (w1.heap.size + 1) u v := V2.step B3
  clear B3 C2 H2 V1 c1a c1b l1 V2 c2a c2b l2
  have c3a := V3.c0
  have c3b := V3.c1
  have l3 := V3.lt
  have c4a := V4.c0
  have c4b := V4.c1
  have l4 := V4.lt
  have C3 := Lib.hid (show ∀ W : World, Calls Try.prog 25 #[vec u v, vec x y] W (fun e w' => e = .returned (.tuple #[.int .i64 (mu x u + mu y v), .bool true]) ∧ Below W.heap.size W w') from fun W => by have t := implVDot u v x y W; rw [f1, f2] at t; exact t)
  go_wp2_with fail
  refine (C3.out _).mono ?_
  rintro e w4 ⟨rfl, B4⟩
  have H4 := Lib.hid (bl_trans (H3.out) B4)
  have V5 : VecAt w4 (w1.heap.size) x y := V3.step B4
  have V6 : VecAt w4 (w1.heap.size + 1) u v := V4.step B4
  clear B4 C3 H3 V3 c3a c3b l3 V4 c4a c4b l4
  have c5a := V5.c0
  have c5b := V5.c1
  have l5 := V5.lt
  have c6a := V6.c0
  have c6b := V6.c1
  have l6 := V6.lt
  have C4 := Lib.hid (show ∀ W : World, Calls Try.prog 25 #[vec (-x) (-y), vec u v] W (fun e w' => e = .returned (.tuple #[.int .i64 (-(mu x u + mu y v)), .bool true]) ∧ Below W.heap.size W w') from fun W => by have t := implVDot (-x) (-y) u v W; rw [i1, i2] at t; exact t)
  go_wp2_with fail
  refine (C4.out _).mono ?_
  rintro e w5 ⟨rfl, B5⟩
  have H5 := Lib.hid (bl_trans (H4.out) B5)
  have V7 : VecAt w5 (w1.heap.size) x y := V5.step B5
  have V8 : VecAt w5 (w1.heap.size + 1) u v := V6.step B5
  clear B5 C4 H4 V5 c5a c5b l5 V6 c6a c6b l6
  have c7a := V7.c0
  have c7b := V7.c1
  have l7 := V7.lt
  have c8a := V8.c0
  have c8b := V8.c1
  have l8 := V8.lt
  go_wp2
  all_goals
    go_ret
    first | exact ⟨rfl, (by repeat (first | exact H5.out | refine bl_alloc ?_ _ | refine bl_drew ?_ _))⟩ | exact ⟨ret_b (decide_eq_true (by omega)), (by repeat (first | exact H5.out | refine bl_alloc ?_ _ | refine bl_drew ?_ _))⟩ | exact ⟨ret_b (by simp; omega), (by repeat (first | exact H5.out | refine bl_alloc ?_ _ | refine bl_drew ?_ _))⟩

set_option maxHeartbeats 1000000 in
theorem walk_FnDotSelf (a : Option Addr) (len cap : Nat) (zs : List Int) (w : World) (h : IsRow .u8 w a len cap zs) :
    Calls Try.prog 8 #[.slice a len cap] w fun e w' => e = .returned (.bool true) ∧ Below w.heap.size w w' := by
  have hm := h.bytes.1
  have hm2 := h.bytes.2.1
  unfold maxLen at hm2
  by_cases g : 1048576 < len
  · have g1 : (1048576 : Int) < (len : Int) := by omega
    go_enter Try.func8, Try.ntmps8
    go_wp2
    go_ret
    exact ⟨rfl, Below.refl _ _⟩
  have g1 : (len : Int) ≤ 1048576 := by omega
  go_enter Try.func8, Try.ntmps8
  go_wp2_with fail
  refine (draw_vdot a len cap zs w h).mono ?_
  rintro e w1 ⟨x, y, u, v, ⟨⟨x1, x2⟩, y1, y2⟩, ⟨⟨u1, u2⟩, v1, v2⟩, rfl, B1⟩
  have H1 := Lib.hid B1
  clear B1 h
  cases hb : vdB x y u v
  · have C1 := Lib.hid (show ∀ W : World, Calls Try.prog 25 #[vec x y, vec u v] W (fun e w' => e = .returned (.tuple #[.int .i64 (vdI x y u v), .bool false]) ∧ Below W.heap.size W w') from fun W => by have t := implVDot x y u v W; rw [hb] at t; exact t)
    go_wp2_with fail
    refine (C1.out _).mono ?_
    rintro e w2 ⟨rfl, B2⟩
    have H2 := Lib.hid (bl_trans (bl_alloc (bl_alloc (H1.out) _) _) B2)
    have V1 : VecAt w2 (w1.heap.size) x y := ((VecAt.new _ _ x y _ (by first | rfl | simp)).alloc _).step B2
    have V2 : VecAt w2 (w1.heap.size + 1) u v := (VecAt.new _ _ u v _ (by first | rfl | simp)).step B2
    clear B2 C1 H1
    have c1a := V1.c0
    have c1b := V1.c1
    have l1 := V1.lt
    have c2a := V2.c0
    have c2b := V2.c1
    have l2 := V2.lt
    have C2 := Lib.hid (show ∀ W : World, Calls Try.prog 26 #[vec x y, vec u v] W (fun e w' => e = .returned (.tuple #[.int .i64 (vdI x y u v), .bool false]) ∧ Below W.heap.size W w') from fun W => by have t := specVDot x y u v W; rw [hb] at t; exact t)
    go_wp2_with fail
    refine (C2.out _).mono ?_
    rintro e w3 ⟨rfl, B3⟩
    have H3 := Lib.hid (bl_trans (H2.out) B3)
    have V3 : VecAt w3 (w1.heap.size) x y := V1.step B3
    have V4 : VecAt w3 (w1.heap.size + 1) u v := V2.step B3
    clear B3 C2 H2 V1 c1a c1b l1 V2 c2a c2b l2
    have c3a := V3.c0
    have c3b := V3.c1
    have l3 := V3.lt
    have c4a := V4.c0
    have c4b := V4.c1
    have l4 := V4.lt
    go_wp2
    all_goals
      go_ret
      first | exact ⟨rfl, (by repeat (first | exact H3.out | refine bl_alloc ?_ _ | refine bl_drew ?_ _))⟩ | exact ⟨ret_b (decide_eq_true (by omega)), (by repeat (first | exact H3.out | refine bl_alloc ?_ _ | refine bl_drew ?_ _))⟩ | exact ⟨ret_b (by simp; omega), (by repeat (first | exact H3.out | refine bl_alloc ?_ _ | refine bl_drew ?_ _))⟩
  obtain ⟨_, _, e1, d1, d2⟩ := vd_true hb
  obtain ⟨⟨s, es, s0⟩, f1, i1, i2⟩ := vd_self hb
  have C1 := Lib.hid (show ∀ W : World, Calls Try.prog 25 #[vec x y, vec u v] W (fun e w' => e = .returned (.tuple #[.int .i64 (mu x u + mu y v), .bool true]) ∧ Below W.heap.size W w') from fun W => by have t := implVDot x y u v W; rw [e1, hb] at t; exact t)
  go_wp2_with fail
  refine (C1.out _).mono ?_
  rintro e w2 ⟨rfl, B2⟩
  have H2 := Lib.hid (bl_trans (bl_alloc (bl_alloc (H1.out) _) _) B2)
  have V1 : VecAt w2 (w1.heap.size) x y := ((VecAt.new _ _ x y _ (by first | rfl | simp)).alloc _).step B2
  have V2 : VecAt w2 (w1.heap.size + 1) u v := (VecAt.new _ _ u v _ (by first | rfl | simp)).step B2
  clear B2 C1 H1
  have c1a := V1.c0
  have c1b := V1.c1
  have l1 := V1.lt
  have c2a := V2.c0
  have c2b := V2.c1
  have l2 := V2.lt
  have C2 := Lib.hid (show ∀ W : World, Calls Try.prog 26 #[vec x y, vec u v] W (fun e w' => e = .returned (.tuple #[.int .i64 (mu x u + mu y v), .bool true]) ∧ Below W.heap.size W w') from fun W => by have t := specVDot x y u v W; rw [e1, hb] at t; exact t)
  go_wp2_with fail
  refine (C2.out _).mono ?_
  rintro e w3 ⟨rfl, B3⟩
  have H3 := Lib.hid (bl_trans (H2.out) B3)
  have V3 : VecAt w3 (w1.heap.size) x y := V1.step B3
  have V4 : VecAt w3 (w1.heap.size + 1) u v := V2.step B3
  clear B3 C2 H2 V1 c1a c1b l1 V2 c2a c2b l2
  have c3a := V3.c0
  have c3b := V3.c1
  have l3 := V3.lt
  have c4a := V4.c0
  have c4b := V4.c1
  have l4 := V4.lt
  have C3 := Lib.hid (show ∀ W : World, Calls Try.prog 25 #[vec x y, vec x y] W (fun e w' => e = .returned (.tuple #[.int .i64 s, .bool true]) ∧ Below W.heap.size W w') from fun W => by have t := implVDot x y x y W; rw [es, f1] at t; exact t)
  go_wp2_with fail
  refine (C3.out _).mono ?_
  rintro e w4 ⟨rfl, B4⟩
  have H4 := Lib.hid (bl_trans (H3.out) B4)
  have V5 : VecAt w4 (w1.heap.size) x y := V3.step B4
  have V6 : VecAt w4 (w1.heap.size + 1) u v := V4.step B4
  clear B4 C3 H3 V3 c3a c3b l3 V4 c4a c4b l4
  have c5a := V5.c0
  have c5b := V5.c1
  have l5 := V5.lt
  have c6a := V6.c0
  have c6b := V6.c1
  have l6 := V6.lt
  have C4 := Lib.hid (show ∀ W : World, Calls Try.prog 25 #[vec x y, vec 0 0] W (fun e w' => e = .returned (.tuple #[.int .i64 0, .bool true]) ∧ Below W.heap.size W w') from fun W => by have t := implVDot x y 0 0 W; rw [i1, i2] at t; exact t)
  go_wp2_with fail
  refine (C4.out _).mono ?_
  rintro e w5 ⟨rfl, B5⟩
  have H5 := Lib.hid (bl_trans (H4.out) B5)
  have V7 : VecAt w5 (w1.heap.size) x y := V5.step B5
  have V8 : VecAt w5 (w1.heap.size + 1) u v := V6.step B5
  clear B5 C4 H4 V5 c5a c5b l5 V6 c6a c6b l6
  have c7a := V7.c0
  have c7b := V7.c1
  have l7 := V7.lt
  have c8a := V8.c0
  have c8b := V8.c1
  have l8 := V8.lt
  go_wp2
  all_goals
    go_ret
    first | exact ⟨rfl, (by repeat (first | exact H5.out | refine bl_alloc ?_ _ | refine bl_drew ?_ _))⟩ | exact ⟨ret_b (decide_eq_true (by omega)), (by repeat (first | exact H5.out | refine bl_alloc ?_ _ | refine bl_drew ?_ _))⟩ | exact ⟨ret_b (by simp; omega), (by repeat (first | exact H5.out | refine bl_alloc ?_ _ | refine bl_drew ?_ _))⟩

set_option maxHeartbeats 1000000 in
theorem walk_FnLength (a : Option Addr) (len cap : Nat) (zs : List Int) (w : World) (h : IsRow .u8 w a len cap zs) :
    Calls Try.prog 9 #[.slice a len cap] w fun e w' => e = .returned (.bool true) ∧ Below w.heap.size w w' := by
  have hm := h.bytes.1
  have hm2 := h.bytes.2.1
  unfold maxLen at hm2
  by_cases g : 1048576 < len
  · have g1 : (1048576 : Int) < (len : Int) := by omega
    go_enter Try.func9, Try.ntmps9
    go_wp2
    go_ret
    exact ⟨rfl, Below.refl _ _⟩
  have g1 : (len : Int) ≤ 1048576 := by omega
  go_enter Try.func9, Try.ntmps9
  go_wp2_with fail
  refine (draw_vlen a len cap zs w h).mono ?_
  rintro e w1 ⟨x, y, ⟨x1, x2⟩, ⟨y1, y2⟩, rfl, B1⟩
  have H1 := Lib.hid B1
  clear B1 h
  cases hv : vokB x y
  · have C1 := Lib.hid (show ∀ W : World, Calls Try.prog 28 #[vec x y] W (fun e w' => e = .returned (.tuple #[.int .i64 (vlI x y), .bool false]) ∧ Below W.heap.size W w') from fun W => by have t := implVLen x y W; rw [hv] at t; exact t)
    go_wp2_with fail
    refine (C1.out _).mono ?_
    rintro e w2 ⟨rfl, B2⟩
    have H2 := Lib.hid (bl_trans (bl_alloc (H1.out) _) B2)
    have V1 : VecAt w2 (w1.heap.size) x y := (VecAt.new _ _ x y _ (by first | rfl | simp)).step B2
    clear B2 C1 H1
    have c1a := V1.c0
    have c1b := V1.c1
    have l1 := V1.lt
    have C2 := Lib.hid (show ∀ W : World, Calls Try.prog 29 #[vec x y] W (fun e w' => e = .returned (.tuple #[.int .i64 (vlI x y), .bool false]) ∧ Below W.heap.size W w') from fun W => by have t := specVLen x y W; rw [hv] at t; exact t)
    go_wp2_with fail
    refine (C2.out _).mono ?_
    rintro e w3 ⟨rfl, B3⟩
    have H3 := Lib.hid (bl_trans (H2.out) B3)
    have V2 : VecAt w3 (w1.heap.size) x y := V1.step B3
    clear B3 C2 H2 V1 c1a c1b l1
    have c2a := V2.c0
    have c2b := V2.c1
    have l2 := V2.lt
    go_wp2
    all_goals
      go_ret
      first | exact ⟨rfl, (by repeat (first | exact H3.out | refine bl_alloc ?_ _ | refine bl_drew ?_ _))⟩ | exact ⟨ret_b (decide_eq_true (by omega)), (by repeat (first | exact H3.out | refine bl_alloc ?_ _ | refine bl_drew ?_ _))⟩ | exact ⟨ret_b (by simp; omega), (by repeat (first | exact H3.out | refine bl_alloc ?_ _ | refine bl_drew ?_ _))⟩
  obtain ⟨s, e1, _, ⟨s0, s1⟩, ⟨qx0, qx1⟩, ⟨qy0, qy1⟩, t1, t2⟩ := vl_spec hv
  have p1 := mul_bd (a := s) (b := s) (by omega) (by omega) (by omega) (by omega)
  have p2 := mul_bd (a := s + 1) (b := s + 1) (by omega) (by omega) (by omega) (by omega)
  have C1 := Lib.hid (show ∀ W : World, Calls Try.prog 28 #[vec x y] W (fun e w' => e = .returned (.tuple #[.int .i64 s, .bool true]) ∧ Below W.heap.size W w') from fun W => by have t := implVLen x y W; rw [e1, hv] at t; exact t)
  go_wp2_with fail
  refine (C1.out _).mono ?_
  rintro e w2 ⟨rfl, B2⟩
  have H2 := Lib.hid (bl_trans (bl_alloc (H1.out) _) B2)
  have V1 : VecAt w2 (w1.heap.size) x y := (VecAt.new _ _ x y _ (by first | rfl | simp)).step B2
  clear B2 C1 H1
  have c1a := V1.c0
  have c1b := V1.c1
  have l1 := V1.lt
  have C2 := Lib.hid (show ∀ W : World, Calls Try.prog 29 #[vec x y] W (fun e w' => e = .returned (.tuple #[.int .i64 s, .bool true]) ∧ Below W.heap.size W w') from fun W => by have t := specVLen x y W; rw [e1, hv] at t; exact t)
  go_wp2_with fail
  refine (C2.out _).mono ?_
  rintro e w3 ⟨rfl, B3⟩
  have H3 := Lib.hid (bl_trans (H2.out) B3)
  have V2 : VecAt w3 (w1.heap.size) x y := V1.step B3
  clear B3 C2 H2 V1 c1a c1b l1
  have c2a := V2.c0
  have c2b := V2.c1
  have l2 := V2.lt
  go_wp2
  all_goals
    go_ret
    first | exact ⟨rfl, (by repeat (first | exact H3.out | refine bl_alloc ?_ _ | refine bl_drew ?_ _))⟩ | exact ⟨ret_b (decide_eq_true (by omega)), (by repeat (first | exact H3.out | refine bl_alloc ?_ _ | refine bl_drew ?_ _))⟩ | exact ⟨ret_b (by simp; omega), (by repeat (first | exact H3.out | refine bl_alloc ?_ _ | refine bl_drew ?_ _))⟩

set_option maxHeartbeats 1000000 in
theorem walk_FnLengthTurn (a : Option Addr) (len cap : Nat) (zs : List Int) (w : World) (h : IsRow .u8 w a len cap zs) :
    Calls Try.prog 10 #[.slice a len cap] w fun e w' => e = .returned (.bool true) ∧ Below w.heap.size w w' := by
  have hm := h.bytes.1
  have hm2 := h.bytes.2.1
  unfold maxLen at hm2
  by_cases g : 1048576 < len
  · have g1 : (1048576 : Int) < (len : Int) := by omega
    go_enter Try.func10, Try.ntmps10
    go_wp2
    go_ret
    exact ⟨rfl, Below.refl _ _⟩
  have g1 : (len : Int) ≤ 1048576 := by omega
  go_enter Try.func10, Try.ntmps10
  go_wp2_with fail
  refine (draw_vlen a len cap zs w h).mono ?_
  rintro e w1 ⟨x, y, ⟨x1, x2⟩, ⟨y1, y2⟩, rfl, B1⟩
  have H1 := Lib.hid B1
  clear B1 h
  cases hv : vokB x y
  · have C1 := Lib.hid (show ∀ W : World, Calls Try.prog 28 #[vec x y] W (fun e w' => e = .returned (.tuple #[.int .i64 (vlI x y), .bool false]) ∧ Below W.heap.size W w') from fun W => by have t := implVLen x y W; rw [hv] at t; exact t)
    go_wp2_with fail
    refine (C1.out _).mono ?_
    rintro e w2 ⟨rfl, B2⟩
    have H2 := Lib.hid (bl_trans (bl_alloc (H1.out) _) B2)
    have V1 : VecAt w2 (w1.heap.size) x y := (VecAt.new _ _ x y _ (by first | rfl | simp)).step B2
    clear B2 C1 H1
    have c1a := V1.c0
    have c1b := V1.c1
    have l1 := V1.lt
    have C2 := Lib.hid (show ∀ W : World, Calls Try.prog 29 #[vec x y] W (fun e w' => e = .returned (.tuple #[.int .i64 (vlI x y), .bool false]) ∧ Below W.heap.size W w') from fun W => by have t := specVLen x y W; rw [hv] at t; exact t)
    go_wp2_with fail
    refine (C2.out _).mono ?_
    rintro e w3 ⟨rfl, B3⟩
    have H3 := Lib.hid (bl_trans (H2.out) B3)
    have V2 : VecAt w3 (w1.heap.size) x y := V1.step B3
    clear B3 C2 H2 V1 c1a c1b l1
    have c2a := V2.c0
    have c2b := V2.c1
    have l2 := V2.lt
    go_wp2
    all_goals
      go_ret
      first | exact ⟨rfl, (by repeat (first | exact H3.out | refine bl_alloc ?_ _ | refine bl_drew ?_ _))⟩ | exact ⟨ret_b (decide_eq_true (by omega)), (by repeat (first | exact H3.out | refine bl_alloc ?_ _ | refine bl_drew ?_ _))⟩ | exact ⟨ret_b (by simp; omega), (by repeat (first | exact H3.out | refine bl_alloc ?_ _ | refine bl_drew ?_ _))⟩
  obtain ⟨f1, f2, f3, f4⟩ := vl_turn hv
  have C1 := Lib.hid (show ∀ W : World, Calls Try.prog 28 #[vec x y] W (fun e w' => e = .returned (.tuple #[.int .i64 (vlI x y), .bool true]) ∧ Below W.heap.size W w') from fun W => by have t := implVLen x y W; rw [hv] at t; exact t)
  go_wp2_with fail
  refine (C1.out _).mono ?_
  rintro e w2 ⟨rfl, B2⟩
  have H2 := Lib.hid (bl_trans (bl_alloc (H1.out) _) B2)
  have V1 : VecAt w2 (w1.heap.size) x y := (VecAt.new _ _ x y _ (by first | rfl | simp)).step B2
  clear B2 C1 H1
  have c1a := V1.c0
  have c1b := V1.c1
  have l1 := V1.lt
  have C2 := Lib.hid (show ∀ W : World, Calls Try.prog 29 #[vec x y] W (fun e w' => e = .returned (.tuple #[.int .i64 (vlI x y), .bool true]) ∧ Below W.heap.size W w') from fun W => by have t := specVLen x y W; rw [hv] at t; exact t)
  go_wp2_with fail
  refine (C2.out _).mono ?_
  rintro e w3 ⟨rfl, B3⟩
  have H3 := Lib.hid (bl_trans (H2.out) B3)
  have V2 : VecAt w3 (w1.heap.size) x y := V1.step B3
  clear B3 C2 H2 V1 c1a c1b l1
  have c2a := V2.c0
  have c2b := V2.c1
  have l2 := V2.lt
  have C3 := Lib.hid (show ∀ W : World, Calls Try.prog 28 #[vec y x] W (fun e w' => e = .returned (.tuple #[.int .i64 (vlI x y), .bool true]) ∧ Below W.heap.size W w') from fun W => by have t := implVLen y x W; rw [f1, f3] at t; exact t)
  go_wp2_with fail
  refine (C3.out _).mono ?_
  rintro e w4 ⟨rfl, B4⟩
  have H4 := Lib.hid (bl_trans (H3.out) B4)
  have V3 : VecAt w4 (w1.heap.size) x y := V2.step B4
  clear B4 C3 H3 V2 c2a c2b l2
  have c3a := V3.c0
  have c3b := V3.c1
  have l3 := V3.lt
  have C4 := Lib.hid (show ∀ W : World, Calls Try.prog 28 #[vec (-x) (y)] W (fun e w' => e = .returned (.tuple #[.int .i64 (vlI x y), .bool true]) ∧ Below W.heap.size W w') from fun W => by have t := implVLen (-x) y W; rw [f2, f4] at t; exact t)
  go_wp2_with fail
  refine (C4.out _).mono ?_
  rintro e w5 ⟨rfl, B5⟩
  have H5 := Lib.hid (bl_trans (H4.out) B5)
  have V4 : VecAt w5 (w1.heap.size) x y := V3.step B5
  clear B5 C4 H4 V3 c3a c3b l3
  have c4a := V4.c0
  have c4b := V4.c1
  have l4 := V4.lt
  go_wp2
  all_goals
    go_ret
    first | exact ⟨rfl, (by repeat (first | exact H5.out | refine bl_alloc ?_ _ | refine bl_drew ?_ _))⟩ | exact ⟨ret_b (decide_eq_true (by omega)), (by repeat (first | exact H5.out | refine bl_alloc ?_ _ | refine bl_drew ?_ _))⟩ | exact ⟨ret_b (by simp; omega), (by repeat (first | exact H5.out | refine bl_alloc ?_ _ | refine bl_drew ?_ _))⟩

set_option maxHeartbeats 1000000 in
theorem walk_FnLengthSum (a : Option Addr) (len cap : Nat) (zs : List Int) (w : World) (h : IsRow .u8 w a len cap zs) :
    Calls Try.prog 11 #[.slice a len cap] w fun e w' => e = .returned (.bool true) ∧ Below w.heap.size w w' := by
  have hm := h.bytes.1
  have hm2 := h.bytes.2.1
  unfold maxLen at hm2
  by_cases g : 1048576 < len
  · have g1 : (1048576 : Int) < (len : Int) := by omega
    go_enter Try.func11, Try.ntmps11
    go_wp2
    go_ret
    exact ⟨rfl, Below.refl _ _⟩
  have g1 : (len : Int) ≤ 1048576 := by omega
  go_enter Try.func11, Try.ntmps11
  go_wp2_with fail
  refine (draw_vadd a len cap zs w h).mono ?_
  rintro e w1 ⟨x, y, u, v, ⟨⟨x1, x2⟩, y1, y2⟩, ⟨⟨u1, u2⟩, v1, v2⟩, rfl, B1⟩
  have H1 := Lib.hid B1
  clear B1 h
  cases hb : vaB x y u v
  · have C1 := Lib.hid (show ∀ W : World, Calls Try.prog 15 #[vec x y, vec u v] W (fun e w' => e = .returned (.tuple #[vec (vaX x y u v) (vaY x y u v), .bool false]) ∧ Below W.heap.size W w') from fun W => by have t := implVAdd x y u v W; rw [hb] at t; exact t)
    go_wp2_with fail
    refine (C1.out _).mono ?_
    rintro e w2 ⟨rfl, B2⟩
    have H2 := Lib.hid (bl_trans (bl_alloc (bl_alloc (H1.out) _) _) B2)
    have V1 : VecAt w2 (w1.heap.size) x y := ((VecAt.new _ _ x y _ (by first | rfl | simp)).alloc _).step B2
    have V2 : VecAt w2 (w1.heap.size + 1) u v := (VecAt.new _ _ u v _ (by first | rfl | simp)).step B2
    clear B2 C1 H1
    have c1a := V1.c0
    have c1b := V1.c1
    have l1 := V1.lt
    have c2a := V2.c0
    have c2b := V2.c1
    have l2 := V2.lt
    have C2 := Lib.hid (show ∀ W : World, Calls Try.prog 16 #[vec x y, vec u v] W (fun e w' => e = .returned (.tuple #[vec (vaX x y u v) (vaY x y u v), .bool false]) ∧ Below W.heap.size W w') from fun W => by have t := specVAdd x y u v W; rw [hb] at t; exact t)
    go_wp2_with fail
    refine (C2.out _).mono ?_
    rintro e w3 ⟨rfl, B3⟩
    have H3 := Lib.hid (bl_trans (bl_alloc (H2.out) _) B3)
    have V3 : VecAt w3 (w1.heap.size) x y := (V1.alloc _).step B3
    have V4 : VecAt w3 (w1.heap.size + 1) u v := (V2.alloc _).step B3
    have V5 : VecAt w3 (w2.heap.size) (vaX x y u v) (vaY x y u v) := (VecAt.new _ _ (vaX x y u v) (vaY x y u v) _ (by first | rfl | simp)).step B3
    clear B3 C2 H2 V1 c1a c1b l1 V2 c2a c2b l2
    have c3a := V3.c0
    have c3b := V3.c1
    have l3 := V3.lt
    have c4a := V4.c0
    have c4b := V4.c1
    have l4 := V4.lt
    have c5a := V5.c0
    have c5b := V5.c1
    have l5 := V5.lt
    go_wp2
    all_goals
      go_ret
      first | exact ⟨rfl, (by repeat (first | exact H3.out | refine bl_alloc ?_ _ | refine bl_drew ?_ _))⟩ | exact ⟨ret_b (decide_eq_true (by omega)), (by repeat (first | exact H3.out | refine bl_alloc ?_ _ | refine bl_drew ?_ _))⟩ | exact ⟨ret_b (by simp; omega), (by repeat (first | exact H3.out | refine bl_alloc ?_ _ | refine bl_drew ?_ _))⟩
  obtain ⟨h1, h2, h3, e1, e2⟩ := va_true hb
  obtain ⟨r, er, _, ⟨r0, r1⟩, _, _, r2, _⟩ := vl_spec h3
  obtain ⟨p, ep, _, ⟨p0, p1⟩, ⟨a0, _⟩, ⟨b0, _⟩, _, p2⟩ := vl_spec h1
  obtain ⟨q, eq, _, ⟨q0, q1⟩, ⟨a3, _⟩, ⟨b3, _⟩, _, q2⟩ := vl_spec h2
  have hS := vl_sum p0 q0 r0 p2 q2 r2 (by omega) (by omega)
  clear p2 q2 r2
  have C1 := Lib.hid (show ∀ W : World, Calls Try.prog 15 #[vec x y, vec u v] W (fun e w' => e = .returned (.tuple #[vec (x + u) (y + v), .bool true]) ∧ Below W.heap.size W w') from fun W => by have t := implVAdd x y u v W; rw [e1, e2, hb] at t; exact t)
  go_wp2_with fail
  refine (C1.out _).mono ?_
  rintro e w2 ⟨rfl, B2⟩
  have H2 := Lib.hid (bl_trans (bl_alloc (bl_alloc (H1.out) _) _) B2)
  have V1 : VecAt w2 (w1.heap.size) x y := ((VecAt.new _ _ x y _ (by first | rfl | simp)).alloc _).step B2
  have V2 : VecAt w2 (w1.heap.size + 1) u v := (VecAt.new _ _ u v _ (by first | rfl | simp)).step B2
  clear B2 C1 H1
  have c1a := V1.c0
  have c1b := V1.c1
  have l1 := V1.lt
  have c2a := V2.c0
  have c2b := V2.c1
  have l2 := V2.lt
  have C2 := Lib.hid (show ∀ W : World, Calls Try.prog 16 #[vec x y, vec u v] W (fun e w' => e = .returned (.tuple #[vec (x + u) (y + v), .bool true]) ∧ Below W.heap.size W w') from fun W => by have t := specVAdd x y u v W; rw [e1, e2, hb] at t; exact t)
  go_wp2_with fail
  refine (C2.out _).mono ?_
  rintro e w3 ⟨rfl, B3⟩
  have H3 := Lib.hid (bl_trans (bl_alloc (H2.out) _) B3)
  have V3 : VecAt w3 (w1.heap.size) x y := (V1.alloc _).step B3
  have V4 : VecAt w3 (w1.heap.size + 1) u v := (V2.alloc _).step B3
  have V5 : VecAt w3 (w2.heap.size) (x + u) (y + v) := (VecAt.new _ _ (x + u) (y + v) _ (by first | rfl | simp)).step B3
  clear B3 C2 H2 V1 c1a c1b l1 V2 c2a c2b l2
  have c3a := V3.c0
  have c3b := V3.c1
  have l3 := V3.lt
  have c4a := V4.c0
  have c4b := V4.c1
  have l4 := V4.lt
  have c5a := V5.c0
  have c5b := V5.c1
  have l5 := V5.lt
  have C3 := Lib.hid (show ∀ W : World, Calls Try.prog 28 #[vec (x + u) (y + v)] W (fun e w' => e = .returned (.tuple #[.int .i64 r, .bool true]) ∧ Below W.heap.size W w') from fun W => by have t := implVLen (x + u) (y + v) W; rw [er, h3] at t; exact t)
  go_wp2_with fail
  refine (C3.out _).mono ?_
  rintro e w4 ⟨rfl, B4⟩
  have H4 := Lib.hid (bl_trans (bl_alloc (H3.out) _) B4)
  have V6 : VecAt w4 (w1.heap.size) x y := (V3.alloc _).step B4
  have V7 : VecAt w4 (w1.heap.size + 1) u v := (V4.alloc _).step B4
  have V8 : VecAt w4 (w2.heap.size) (x + u) (y + v) := (V5.alloc _).step B4
  have V9 : VecAt w4 (w3.heap.size) (x + u) (y + v) := (VecAt.new _ _ (x + u) (y + v) _ (by first | rfl | simp)).step B4
  clear B4 C3 H3 V3 c3a c3b l3 V4 c4a c4b l4 V5 c5a c5b l5
  have c6a := V6.c0
  have c6b := V6.c1
  have l6 := V6.lt
  have c7a := V7.c0
  have c7b := V7.c1
  have l7 := V7.lt
  have c8a := V8.c0
  have c8b := V8.c1
  have l8 := V8.lt
  have c9a := V9.c0
  have c9b := V9.c1
  have l9 := V9.lt
  have C4 := Lib.hid (show ∀ W : World, Calls Try.prog 28 #[vec x y] W (fun e w' => e = .returned (.tuple #[.int .i64 p, .bool true]) ∧ Below W.heap.size W w') from fun W => by have t := implVLen x y W; rw [ep, h1] at t; exact t)
  go_wp2_with fail
  refine (C4.out _).mono ?_
  rintro e w5 ⟨rfl, B5⟩
  have H5 := Lib.hid (bl_trans (H4.out) B5)
  have V10 : VecAt w5 (w1.heap.size) x y := V6.step B5
  have V11 : VecAt w5 (w1.heap.size + 1) u v := V7.step B5
  have V12 : VecAt w5 (w2.heap.size) (x + u) (y + v) := V8.step B5
  have V13 : VecAt w5 (w3.heap.size) (x + u) (y + v) := V9.step B5
  clear B5 C4 H4 V6 c6a c6b l6 V7 c7a c7b l7 V8 c8a c8b l8 V9 c9a c9b l9
  have c10a := V10.c0
  have c10b := V10.c1
  have l10 := V10.lt
  have c11a := V11.c0
  have c11b := V11.c1
  have l11 := V11.lt
  have c12a := V12.c0
  have c12b := V12.c1
  have l12 := V12.lt
  have c13a := V13.c0
  have c13b := V13.c1
  have l13 := V13.lt
  have C5 := Lib.hid (show ∀ W : World, Calls Try.prog 28 #[vec u v] W (fun e w' => e = .returned (.tuple #[.int .i64 q, .bool true]) ∧ Below W.heap.size W w') from fun W => by have t := implVLen u v W; rw [eq, h2] at t; exact t)
  go_wp2_with fail
  refine (C5.out _).mono ?_
  rintro e w6 ⟨rfl, B6⟩
  have H6 := Lib.hid (bl_trans (H5.out) B6)
  have V14 : VecAt w6 (w1.heap.size) x y := V10.step B6
  have V15 : VecAt w6 (w1.heap.size + 1) u v := V11.step B6
  have V16 : VecAt w6 (w2.heap.size) (x + u) (y + v) := V12.step B6
  have V17 : VecAt w6 (w3.heap.size) (x + u) (y + v) := V13.step B6
  clear B6 C5 H5 V10 c10a c10b l10 V11 c11a c11b l11 V12 c12a c12b l12 V13 c13a c13b l13
  have c14a := V14.c0
  have c14b := V14.c1
  have l14 := V14.lt
  have c15a := V15.c0
  have c15b := V15.c1
  have l15 := V15.lt
  have c16a := V16.c0
  have c16b := V16.c1
  have l16 := V16.lt
  have c17a := V17.c0
  have c17b := V17.c1
  have l17 := V17.lt
  go_wp2
  all_goals
    go_ret
    first | exact ⟨rfl, (by repeat (first | exact H6.out | refine bl_alloc ?_ _ | refine bl_drew ?_ _))⟩ | exact ⟨ret_b (decide_eq_true (by omega)), (by repeat (first | exact H6.out | refine bl_alloc ?_ _ | refine bl_drew ?_ _))⟩ | exact ⟨ret_b (by simp; omega), (by repeat (first | exact H6.out | refine bl_alloc ?_ _ | refine bl_drew ?_ _))⟩

end Go.Proofs.Ytmnojoddapdaoaa
