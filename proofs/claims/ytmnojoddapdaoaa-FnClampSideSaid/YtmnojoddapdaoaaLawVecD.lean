/-
  The walks of the laws of clamped vectors: each returns true at every code.
-/
import Derived.Test.YtmnojoddapdaoaaVecAt
namespace Go.Proofs.Ytmnojoddapdaoaa
open Go.RowKit
open M

set_option maxHeartbeats 1000000 in
theorem walk_FnClamp (a : Option Addr) (len cap : Nat) (zs : List Int) (w : World) (h : IsRow .u8 w a len cap zs) :
    Calls Try.prog 12 #[.slice a len cap] w fun e w' => e = .returned (.bool true) ∧ Below w.heap.size w w' := by
  have hm := h.bytes.1
  have hm2 := h.bytes.2.1
  unfold maxLen at hm2
  by_cases g : 1048576 < len
  · have g1 : (1048576 : Int) < (len : Int) := by omega
    go_enter Try.func12, Try.ntmps12
    go_wp2
    go_ret
    exact ⟨rfl, Below.refl _ _⟩
  have g1 : (len : Int) ≤ 1048576 := by omega
  go_enter Try.func12, Try.ntmps12
  go_wp2_with fail
  refine (draw_vclamp a len cap zs w h).mono ?_
  rintro e w1 ⟨x, y, k, ⟨⟨x1, x2⟩, y1, y2⟩, ⟨k1, k2⟩, rfl, B1⟩
  have H1 := Lib.hid B1
  clear B1 h
  cases hb : cpB x y k
  · have C1 := Lib.hid (show ∀ W : World, Calls Try.prog 31 #[vec x y, .int .i64 k] W (fun e w' => e = .returned (.tuple #[vec (cpX x y k) (cpY x y k), .bool false]) ∧ Below W.heap.size W w') from fun W => by have t := implVClamp x y k W; rw [hb] at t; exact t)
    go_wp2_with fail
    refine (C1.out _).mono ?_
    rintro e w2 ⟨rfl, B2⟩
    have H2 := Lib.hid (bl_trans (bl_alloc (H1.out) _) B2)
    have V1 : VecAt w2 (w1.heap.size) x y := (VecAt.new _ _ x y _ (by first | rfl | simp)).step B2
    clear B2 C1 H1
    have c1a := V1.c0
    have c1b := V1.c1
    have l1 := V1.lt
    have C2 := Lib.hid (show ∀ W : World, Calls Try.prog 32 #[vec x y, .int .i64 k] W (fun e w' => e = .returned (.tuple #[vec (cpX x y k) (cpY x y k), .bool false]) ∧ Below W.heap.size W w') from fun W => by have t := specVClamp x y k W; rw [hb] at t; exact t)
    go_wp2_with fail
    refine (C2.out _).mono ?_
    rintro e w3 ⟨rfl, B3⟩
    have H3 := Lib.hid (bl_trans (bl_alloc (H2.out) _) B3)
    have V2 : VecAt w3 (w1.heap.size) x y := (V1.alloc _).step B3
    have V3 : VecAt w3 (w2.heap.size) (cpX x y k) (cpY x y k) := (VecAt.new _ _ (cpX x y k) (cpY x y k) _ (by first | rfl | simp)).step B3
    clear B3 C2 H2 V1 c1a c1b l1
    have c2a := V2.c0
    have c2b := V2.c1
    have l2 := V2.lt
    have c3a := V3.c0
    have c3b := V3.c1
    have l3 := V3.lt
    go_wp2
    all_goals
      go_ret
      first | exact ⟨rfl, (by repeat (first | exact H3.out | refine bl_alloc ?_ _ | refine bl_drew ?_ _))⟩ | exact ⟨ret_b (decide_eq_true (by omega)), (by repeat (first | exact H3.out | refine bl_alloc ?_ _ | refine bl_drew ?_ _))⟩ | exact ⟨ret_b (by simp; omega), (by repeat (first | exact H3.out | refine bl_alloc ?_ _ | refine bl_drew ?_ _))⟩
  obtain ⟨X, Y, eX, eY, hv, hV, hm5, hl, hin, ⟨sx1, sx2⟩, sy1, sy2⟩ := cp_true hb
  obtain ⟨⟨b1, b2⟩, b3, b4⟩ := (vok_iff X Y).1 hV
  obtain ⟨⟨b5, b6⟩, b7, b8⟩ := (vok_iff x y).1 hv
  obtain ⟨n, en, en2, ⟨n0, n1⟩, _, _, _, _⟩ := vl_spec hv
  obtain ⟨t, et, et2, ⟨t0, t1⟩, _, _, _, _⟩ := vl_spec hV
  rw [et2] at hl
  rw [en2] at hin
  clear en2 et2 sx1 sx2 sy1 sy2
  by_cases c : n ≤ k
  · obtain ⟨rfl, rfl⟩ := hin c
    have tn : t = n := by rw [← et, ← en]
    clear hin
    subst tn
    have C1 := Lib.hid (show ∀ W : World, Calls Try.prog 31 #[vec X Y, .int .i64 k] W (fun e w' => e = .returned (.tuple #[vec X Y, .bool true]) ∧ Below W.heap.size W w') from fun W => by have t := implVClamp X Y k W; rw [eX, eY, hb] at t; exact t)
    go_wp2_with fail
    refine (C1.out _).mono ?_
    rintro e w2 ⟨rfl, B2⟩
    have H2 := Lib.hid (bl_trans (bl_alloc (H1.out) _) B2)
    have V1 : VecAt w2 (w1.heap.size) X Y := (VecAt.new _ _ X Y _ (by first | rfl | simp)).step B2
    clear B2 C1 H1
    have c1a := V1.c0
    have c1b := V1.c1
    have l1 := V1.lt
    have C2 := Lib.hid (show ∀ W : World, Calls Try.prog 32 #[vec X Y, .int .i64 k] W (fun e w' => e = .returned (.tuple #[vec X Y, .bool true]) ∧ Below W.heap.size W w') from fun W => by have t := specVClamp X Y k W; rw [eX, eY, hb] at t; exact t)
    go_wp2_with fail
    refine (C2.out _).mono ?_
    rintro e w3 ⟨rfl, B3⟩
    have H3 := Lib.hid (bl_trans (bl_alloc (H2.out) _) B3)
    have V2 : VecAt w3 (w1.heap.size) X Y := (V1.alloc _).step B3
    have V3 : VecAt w3 (w2.heap.size) X Y := (VecAt.new _ _ X Y _ (by first | rfl | simp)).step B3
    clear B3 C2 H2 V1 c1a c1b l1
    have c2a := V2.c0
    have c2b := V2.c1
    have l2 := V2.lt
    have c3a := V3.c0
    have c3b := V3.c1
    have l3 := V3.lt
    have C3 := Lib.hid (show ∀ W : World, Calls Try.prog 28 #[vec X Y] W (fun e w' => e = .returned (.tuple #[.int .i64 t, .bool true]) ∧ Below W.heap.size W w') from fun W => by have t := implVLen X Y W; rw [et, hV] at t; exact t)
    go_wp2_with fail
    refine (C3.out _).mono ?_
    rintro e w4 ⟨rfl, B4⟩
    have H4 := Lib.hid (bl_trans (bl_alloc (H3.out) _) B4)
    have V4 : VecAt w4 (w1.heap.size) X Y := (V2.alloc _).step B4
    have V5 : VecAt w4 (w2.heap.size) X Y := (V3.alloc _).step B4
    have V6 : VecAt w4 (w3.heap.size) X Y := (VecAt.new _ _ X Y _ (by first | rfl | simp)).step B4
    clear B4 C3 H3 V2 c2a c2b l2 V3 c3a c3b l3
    have c4a := V4.c0
    have c4b := V4.c1
    have l4 := V4.lt
    have c5a := V5.c0
    have c5b := V5.c1
    have l5 := V5.lt
    have c6a := V6.c0
    have c6b := V6.c1
    have l6 := V6.lt
    have C4 := Lib.hid (show ∀ W : World, Calls Try.prog 28 #[vec X Y] W (fun e w' => e = .returned (.tuple #[.int .i64 t, .bool true]) ∧ Below W.heap.size W w') from fun W => by have t := implVLen X Y W; rw [et, hV] at t; exact t)
    go_wp2_with fail
    refine (C4.out _).mono ?_
    rintro e w5 ⟨rfl, B5⟩
    have H5 := Lib.hid (bl_trans (H4.out) B5)
    have V7 : VecAt w5 (w1.heap.size) X Y := V4.step B5
    have V8 : VecAt w5 (w2.heap.size) X Y := V5.step B5
    have V9 : VecAt w5 (w3.heap.size) X Y := V6.step B5
    clear B5 C4 H4 V4 c4a c4b l4 V5 c5a c5b l5 V6 c6a c6b l6
    have c7a := V7.c0
    have c7b := V7.c1
    have l7 := V7.lt
    have c8a := V8.c0
    have c8b := V8.c1
    have l8 := V8.lt
    have c9a := V9.c0
    have c9b := V9.c1
    have l9 := V9.lt
    go_wp2
    all_goals
      go_ret
      first | exact ⟨rfl, (by repeat (first | exact H5.out | refine bl_alloc ?_ _ | refine bl_drew ?_ _))⟩ | exact ⟨ret_b (decide_eq_true (by omega)), (by repeat (first | exact H5.out | refine bl_alloc ?_ _ | refine bl_drew ?_ _))⟩ | exact ⟨ret_b (by simp; omega), (by repeat (first | exact H5.out | refine bl_alloc ?_ _ | refine bl_drew ?_ _))⟩
  · clear hin
    have C1 := Lib.hid (show ∀ W : World, Calls Try.prog 31 #[vec x y, .int .i64 k] W (fun e w' => e = .returned (.tuple #[vec X Y, .bool true]) ∧ Below W.heap.size W w') from fun W => by have t := implVClamp x y k W; rw [eX, eY, hb] at t; exact t)
    go_wp2_with fail
    refine (C1.out _).mono ?_
    rintro e w2 ⟨rfl, B2⟩
    have H2 := Lib.hid (bl_trans (bl_alloc (H1.out) _) B2)
    have V1 : VecAt w2 (w1.heap.size) x y := (VecAt.new _ _ x y _ (by first | rfl | simp)).step B2
    clear B2 C1 H1
    have c1a := V1.c0
    have c1b := V1.c1
    have l1 := V1.lt
    have C2 := Lib.hid (show ∀ W : World, Calls Try.prog 32 #[vec x y, .int .i64 k] W (fun e w' => e = .returned (.tuple #[vec X Y, .bool true]) ∧ Below W.heap.size W w') from fun W => by have t := specVClamp x y k W; rw [eX, eY, hb] at t; exact t)
    go_wp2_with fail
    refine (C2.out _).mono ?_
    rintro e w3 ⟨rfl, B3⟩
    have H3 := Lib.hid (bl_trans (bl_alloc (H2.out) _) B3)
    have V2 : VecAt w3 (w1.heap.size) x y := (V1.alloc _).step B3
    have V3 : VecAt w3 (w2.heap.size) X Y := (VecAt.new _ _ X Y _ (by first | rfl | simp)).step B3
    clear B3 C2 H2 V1 c1a c1b l1
    have c2a := V2.c0
    have c2b := V2.c1
    have l2 := V2.lt
    have c3a := V3.c0
    have c3b := V3.c1
    have l3 := V3.lt
    have C3 := Lib.hid (show ∀ W : World, Calls Try.prog 28 #[vec x y] W (fun e w' => e = .returned (.tuple #[.int .i64 n, .bool true]) ∧ Below W.heap.size W w') from fun W => by have t := implVLen x y W; rw [en, hv] at t; exact t)
    go_wp2_with fail
    refine (C3.out _).mono ?_
    rintro e w4 ⟨rfl, B4⟩
    have H4 := Lib.hid (bl_trans (bl_alloc (H3.out) _) B4)
    have V4 : VecAt w4 (w1.heap.size) x y := (V2.alloc _).step B4
    have V5 : VecAt w4 (w2.heap.size) X Y := (V3.alloc _).step B4
    have V6 : VecAt w4 (w3.heap.size) X Y := (VecAt.new _ _ X Y _ (by first | rfl | simp)).step B4
    clear B4 C3 H3 V2 c2a c2b l2 V3 c3a c3b l3
    have c4a := V4.c0
    have c4b := V4.c1
    have l4 := V4.lt
    have c5a := V5.c0
    have c5b := V5.c1
    have l5 := V5.lt
    have c6a := V6.c0
    have c6b := V6.c1
    have l6 := V6.lt
    have C4 := Lib.hid (show ∀ W : World, Calls Try.prog 28 #[vec X Y] W (fun e w' => e = .returned (.tuple #[.int .i64 t, .bool true]) ∧ Below W.heap.size W w') from fun W => by have t := implVLen X Y W; rw [et, hV] at t; exact t)
    go_wp2_with fail
    refine (C4.out _).mono ?_
    rintro e w5 ⟨rfl, B5⟩
    have H5 := Lib.hid (bl_trans (H4.out) B5)
    have V7 : VecAt w5 (w1.heap.size) x y := V4.step B5
    have V8 : VecAt w5 (w2.heap.size) X Y := V5.step B5
    have V9 : VecAt w5 (w3.heap.size) X Y := V6.step B5
    clear B5 C4 H4 V4 c4a c4b l4 V5 c5a c5b l5 V6 c6a c6b l6
    have c7a := V7.c0
    have c7b := V7.c1
    have l7 := V7.lt
    have c8a := V8.c0
    have c8b := V8.c1
    have l8 := V8.lt
    have c9a := V9.c0
    have c9b := V9.c1
    have l9 := V9.lt
    go_wp2
    all_goals
      go_ret
      first | exact ⟨rfl, (by repeat (first | exact H5.out | refine bl_alloc ?_ _ | refine bl_drew ?_ _))⟩ | exact ⟨ret_b (decide_eq_true (by omega)), (by repeat (first | exact H5.out | refine bl_alloc ?_ _ | refine bl_drew ?_ _))⟩ | exact ⟨ret_b (by simp; omega), (by repeat (first | exact H5.out | refine bl_alloc ?_ _ | refine bl_drew ?_ _))⟩

set_option maxHeartbeats 1000000 in
theorem walk_FnClampSide (a : Option Addr) (len cap : Nat) (zs : List Int) (w : World) (h : IsRow .u8 w a len cap zs) :
    Calls Try.prog 13 #[.slice a len cap] w fun e w' => e = .returned (.bool true) ∧ Below w.heap.size w w' := by
  have hm := h.bytes.1
  have hm2 := h.bytes.2.1
  unfold maxLen at hm2
  by_cases g : 1048576 < len
  · have g1 : (1048576 : Int) < (len : Int) := by omega
    go_enter Try.func13, Try.ntmps13
    go_wp2
    go_ret
    exact ⟨rfl, Below.refl _ _⟩
  have g1 : (len : Int) ≤ 1048576 := by omega
  go_enter Try.func13, Try.ntmps13
  go_wp2_with fail
  refine (draw_vclamp a len cap zs w h).mono ?_
  rintro e w1 ⟨x, y, k, ⟨⟨x1, x2⟩, y1, y2⟩, ⟨k1, k2⟩, rfl, B1⟩
  have H1 := Lib.hid B1
  clear B1 h
  cases hb : cpB x y k
  · have C1 := Lib.hid (show ∀ W : World, Calls Try.prog 31 #[vec x y, .int .i64 k] W (fun e w' => e = .returned (.tuple #[vec (cpX x y k) (cpY x y k), .bool false]) ∧ Below W.heap.size W w') from fun W => by have t := implVClamp x y k W; rw [hb] at t; exact t)
    go_wp2_with fail
    refine (C1.out _).mono ?_
    rintro e w2 ⟨rfl, B2⟩
    have H2 := Lib.hid (bl_trans (bl_alloc (H1.out) _) B2)
    have V1 : VecAt w2 (w1.heap.size) x y := (VecAt.new _ _ x y _ (by first | rfl | simp)).step B2
    clear B2 C1 H1
    have c1a := V1.c0
    have c1b := V1.c1
    have l1 := V1.lt
    have C2 := Lib.hid (show ∀ W : World, Calls Try.prog 32 #[vec x y, .int .i64 k] W (fun e w' => e = .returned (.tuple #[vec (cpX x y k) (cpY x y k), .bool false]) ∧ Below W.heap.size W w') from fun W => by have t := specVClamp x y k W; rw [hb] at t; exact t)
    go_wp2_with fail
    refine (C2.out _).mono ?_
    rintro e w3 ⟨rfl, B3⟩
    have H3 := Lib.hid (bl_trans (bl_alloc (H2.out) _) B3)
    have V2 : VecAt w3 (w1.heap.size) x y := (V1.alloc _).step B3
    have V3 : VecAt w3 (w2.heap.size) (cpX x y k) (cpY x y k) := (VecAt.new _ _ (cpX x y k) (cpY x y k) _ (by first | rfl | simp)).step B3
    clear B3 C2 H2 V1 c1a c1b l1
    have c2a := V2.c0
    have c2b := V2.c1
    have l2 := V2.lt
    have c3a := V3.c0
    have c3b := V3.c1
    have l3 := V3.lt
    go_wp2
    all_goals
      go_ret
      first | exact ⟨rfl, (by repeat (first | exact H3.out | refine bl_alloc ?_ _ | refine bl_drew ?_ _))⟩ | exact ⟨ret_b (decide_eq_true (by omega)), (by repeat (first | exact H3.out | refine bl_alloc ?_ _ | refine bl_drew ?_ _))⟩ | exact ⟨ret_b (by simp; omega), (by repeat (first | exact H3.out | refine bl_alloc ?_ _ | refine bl_drew ?_ _))⟩
  obtain ⟨X, Y, eX, eY, hv, hV, hm5, hl, hin, ⟨sx1, sx2⟩, sy1, sy2⟩ := cp_true hb
  obtain ⟨⟨b1, b2⟩, b3, b4⟩ := (vok_iff X Y).1 hV
  obtain ⟨⟨b5, b6⟩, b7, b8⟩ := (vok_iff x y).1 hv
  clear hin hl
  have p1 := mul_bd (a := X) (b := x) (by omega) (by omega) (by omega) (by omega)
  have p2 := mul_bd (a := Y) (b := y) (by omega) (by omega) (by omega) (by omega)
  have p3 := mul_bd (a := X) (b := X) (by omega) (by omega) (by omega) (by omega)
  have p4 := mul_bd (a := Y) (b := Y) (by omega) (by omega) (by omega) (by omega)
  have p5 := mul_bd (a := x) (b := x) (by omega) (by omega) (by omega) (by omega)
  have p6 := mul_bd (a := y) (b := y) (by omega) (by omega) (by omega) (by omega)
  have C1 := Lib.hid (show ∀ W : World, Calls Try.prog 31 #[vec x y, .int .i64 k] W (fun e w' => e = .returned (.tuple #[vec X Y, .bool true]) ∧ Below W.heap.size W w') from fun W => by have t := implVClamp x y k W; rw [eX, eY, hb] at t; exact t)
  go_wp2_with fail
  refine (C1.out _).mono ?_
  rintro e w2 ⟨rfl, B2⟩
  have H2 := Lib.hid (bl_trans (bl_alloc (H1.out) _) B2)
  have V1 : VecAt w2 (w1.heap.size) x y := (VecAt.new _ _ x y _ (by first | rfl | simp)).step B2
  clear B2 C1 H1
  have c1a := V1.c0
  have c1b := V1.c1
  have l1 := V1.lt
  have C2 := Lib.hid (show ∀ W : World, Calls Try.prog 32 #[vec x y, .int .i64 k] W (fun e w' => e = .returned (.tuple #[vec X Y, .bool true]) ∧ Below W.heap.size W w') from fun W => by have t := specVClamp x y k W; rw [eX, eY, hb] at t; exact t)
  go_wp2_with fail
  refine (C2.out _).mono ?_
  rintro e w3 ⟨rfl, B3⟩
  have H3 := Lib.hid (bl_trans (bl_alloc (H2.out) _) B3)
  have V2 : VecAt w3 (w1.heap.size) x y := (V1.alloc _).step B3
  have V3 : VecAt w3 (w2.heap.size) X Y := (VecAt.new _ _ X Y _ (by first | rfl | simp)).step B3
  clear B3 C2 H2 V1 c1a c1b l1
  have c2a := V2.c0
  have c2b := V2.c1
  have l2 := V2.lt
  have c3a := V3.c0
  have c3b := V3.c1
  have l3 := V3.lt
  go_wp2
  all_goals
    go_ret
    first | exact ⟨rfl, (by repeat (first | exact H3.out | refine bl_alloc ?_ _ | refine bl_drew ?_ _))⟩ | exact ⟨ret_b (decide_eq_true (by omega)), (by repeat (first | exact H3.out | refine bl_alloc ?_ _ | refine bl_drew ?_ _))⟩ | exact ⟨ret_b (by simp; omega), (by repeat (first | exact H3.out | refine bl_alloc ?_ _ | refine bl_drew ?_ _))⟩

end Go.Proofs.Ytmnojoddapdaoaa
