/-
  The walks of the laws of directions: each returns true at every code.
-/
import Derived.Test.YtmnojoddapdaoabDoorVecAt
import Derived.Test.YtmnojoddapdaoabDoorVecDirB
namespace Go.Proofs.YtmnojoddapdaoabDoor
open Go.RowKit
open M

set_option maxHeartbeats 1000000 in
theorem walk_FnDirectionAll (a : Option Addr) (len cap : Nat) (zs : List Int) (a2 : Option Addr) (len2 cap2 : Nat) (zs2 : List Int) (w : World) (h : IsRow .u8 w a len cap zs) (h2 : IsRow .u8 w a2 len2 cap2 zs2) (hQ : Quarter w) :
    Calls Tryd.prog 3 #[.slice a len cap, .slice a2 len2 cap2] w fun e w' => e = .returned (.bool true) ∧ Below w.heap.size w w' := by
  have hm := h.bytes.1
  have hm2 := h.bytes.2.1
  have hm3 := h2.bytes.1
  have hm4 := h2.bytes.2.1
  unfold maxLen at hm2 hm4
  by_cases g : 1048576 < len
  · have g1 : (1048576 : Int) < (len : Int) := by omega
    go_enter Tryd.func3, Tryd.ntmps3
    go_wp2
    go_ret
    exact ⟨rfl, Below.refl _ _⟩
  by_cases g2 : 1048576 < len2
  · have g1 : (len : Int) ≤ 1048576 := by omega
    have g3 : (1048576 : Int) < (len2 : Int) := by omega
    go_enter Tryd.func3, Tryd.ntmps3
    go_wp2
    go_ret
    exact ⟨rfl, Below.refl _ _⟩
  have g1 : (len : Int) ≤ 1048576 := by omega
  have g3 : (len2 : Int) ≤ 1048576 := by omega
  have g4 : (0 : Int) ≤ (len2 : Int) := by omega
  go_enter Tryd.func3, Tryd.ntmps3
  go_wp2_with fail
  refine (draw_vdir a len cap zs w h).mono ?_
  rintro e w1 ⟨d, ⟨d1, d2⟩, rfl, B1⟩
  have Q1 := hQ.step B1
  have H1 := Lib.hid B1
  clear B1 h h2 hQ
  cases hd : inB d 0 15
  · have C1 := Lib.hid (show ∀ W : World, Quarter W → Calls Tryd.prog 6 #[.int .i64 d] W (fun e w' => e = .returned (.tuple #[vec (dirX d) (dirY d), .bool false]) ∧ Below W.heap.size W w') from fun W hW => by have t := implVDir d W hW; rw [hd] at t; exact t)
    go_wp2_with fail
    refine (C1.out _ Q1).mono ?_
    rintro e w2 ⟨rfl, B2⟩
    have H2 := Lib.hid (bl_trans (H1.out) B2)
    have Q2 : Quarter w2 := Q1.step B2
    clear B2 C1 H1 Q1
    have C2 := Lib.hid (show ∀ W : World, Calls Tryd.prog 7 #[.int .i64 d] W (fun e w' => e = .returned (.tuple #[vec (dirX d) (dirY d), .bool false]) ∧ Below W.heap.size W w') from fun W => by have t := specVDir d W; rw [hd] at t; exact t)
    go_wp2_with fail
    refine (C2.out _).mono ?_
    rintro e w3 ⟨rfl, B3⟩
    have H3 := Lib.hid (bl_trans (bl_alloc (H2.out) _) B3)
    have Q3 : Quarter w3 := (Q2.alloc _).step B3
    have V1 : VecAt w3 (w2.heap.size) (dirX d) (dirY d) := (VecAt.new _ _ (dirX d) (dirY d) _ (by first | rfl | simp)).step B3
    clear B3 C2 H2 Q2
    have c1a := V1.c0
    have c1b := V1.c1
    have l1 := V1.lt
    go_wp2
    all_goals
      go_ret
      first | exact ⟨rfl, (by repeat (first | exact H3.out | refine bl_alloc ?_ _ | refine bl_drew ?_ _))⟩ | exact ⟨ret_b (decide_eq_true (by omega)), (by repeat (first | exact H3.out | refine bl_alloc ?_ _ | refine bl_drew ?_ _))⟩ | exact ⟨ret_b (by simp; omega), (by repeat (first | exact H3.out | refine bl_alloc ?_ _ | refine bl_drew ?_ _))⟩
  obtain ⟨d3, d4⟩ := in_dir hd
  obtain ⟨⟨z1, z2⟩, ⟨z3, z4⟩, _, _⟩ := dir_size hd
  obtain ⟨f3, f4⟩ := dir_all hd (j := (len2 : Int) % 15) (by omega) (by omega)
  by_cases c : dirX ((d + 1 + (len2 : Int) % 15) % 16) = dirX d
  · have c2 : (dirY ((d + 1 + (len2 : Int) % 15) % 16) == dirY d) = false := beq_eq_false_iff_ne.2 (f4.resolve_left (fun t => t c))
    clear f4
    have C1 := Lib.hid (show ∀ W : World, Quarter W → Calls Tryd.prog 6 #[.int .i64 d] W (fun e w' => e = .returned (.tuple #[vec (dirX d) (dirY d), .bool true]) ∧ Below W.heap.size W w') from fun W hW => by have t := implVDir d W hW; rw [hd] at t; exact t)
    go_wp2_with fail
    refine (C1.out _ Q1).mono ?_
    rintro e w2 ⟨rfl, B2⟩
    have H2 := Lib.hid (bl_trans (H1.out) B2)
    have Q2 : Quarter w2 := Q1.step B2
    clear B2 C1 H1 Q1
    have C2 := Lib.hid (show ∀ W : World, Calls Tryd.prog 7 #[.int .i64 d] W (fun e w' => e = .returned (.tuple #[vec (dirX d) (dirY d), .bool true]) ∧ Below W.heap.size W w') from fun W => by have t := specVDir d W; rw [hd] at t; exact t)
    go_wp2_with fail
    refine (C2.out _).mono ?_
    rintro e w3 ⟨rfl, B3⟩
    have H3 := Lib.hid (bl_trans (bl_alloc (H2.out) _) B3)
    have Q3 : Quarter w3 := (Q2.alloc _).step B3
    have V1 : VecAt w3 (w2.heap.size) (dirX d) (dirY d) := (VecAt.new _ _ (dirX d) (dirY d) _ (by first | rfl | simp)).step B3
    clear B3 C2 H2 Q2
    have c1a := V1.c0
    have c1b := V1.c1
    have l1 := V1.lt
    have C3 := Lib.hid (show ∀ W : World, Quarter W → Calls Tryd.prog 6 #[.int .i64 ((d + 1 + (len2 : Int) % 15) % 16)] W (fun e w' => e = .returned (.tuple #[vec (dirX ((d + 1 + (len2 : Int) % 15) % 16)) (dirY ((d + 1 + (len2 : Int) % 15) % 16)), .bool true]) ∧ Below W.heap.size W w') from fun W hW => by have t := implVDir ((d + 1 + (len2 : Int) % 15) % 16) W hW; rw [f3] at t; exact t)
    go_wp2_with fail
    refine (C3.out _ (Q3.alloc _)).mono ?_
    rintro e w4 ⟨rfl, B4⟩
    have H4 := Lib.hid (bl_trans (bl_alloc (H3.out) _) B4)
    have Q4 : Quarter w4 := (Q3.alloc _).step B4
    have V2 : VecAt w4 (w2.heap.size) (dirX d) (dirY d) := (V1.alloc _).step B4
    have V3 : VecAt w4 (w3.heap.size) (dirX d) (dirY d) := (VecAt.new _ _ (dirX d) (dirY d) _ (by first | rfl | simp)).step B4
    clear B4 C3 H3 Q3 V1 c1a c1b l1
    have c2a := V2.c0
    have c2b := V2.c1
    have l2 := V2.lt
    have c3a := V3.c0
    have c3b := V3.c1
    have l3 := V3.lt
    go_wp2
    all_goals
      go_ret
      first | exact ⟨rfl, (by repeat (first | exact H4.out | refine bl_alloc ?_ _ | refine bl_drew ?_ _))⟩ | exact ⟨ret_b (decide_eq_true (by omega)), (by repeat (first | exact H4.out | refine bl_alloc ?_ _ | refine bl_drew ?_ _))⟩ | exact ⟨ret_b (by simp; omega), (by repeat (first | exact H4.out | refine bl_alloc ?_ _ | refine bl_drew ?_ _))⟩
  · have c2 : (dirX ((d + 1 + (len2 : Int) % 15) % 16) == dirX d) = false := beq_eq_false_iff_ne.2 c
    clear f4 c
    have C1 := Lib.hid (show ∀ W : World, Quarter W → Calls Tryd.prog 6 #[.int .i64 d] W (fun e w' => e = .returned (.tuple #[vec (dirX d) (dirY d), .bool true]) ∧ Below W.heap.size W w') from fun W hW => by have t := implVDir d W hW; rw [hd] at t; exact t)
    go_wp2_with fail
    refine (C1.out _ Q1).mono ?_
    rintro e w2 ⟨rfl, B2⟩
    have H2 := Lib.hid (bl_trans (H1.out) B2)
    have Q2 : Quarter w2 := Q1.step B2
    clear B2 C1 H1 Q1
    have C2 := Lib.hid (show ∀ W : World, Calls Tryd.prog 7 #[.int .i64 d] W (fun e w' => e = .returned (.tuple #[vec (dirX d) (dirY d), .bool true]) ∧ Below W.heap.size W w') from fun W => by have t := specVDir d W; rw [hd] at t; exact t)
    go_wp2_with fail
    refine (C2.out _).mono ?_
    rintro e w3 ⟨rfl, B3⟩
    have H3 := Lib.hid (bl_trans (bl_alloc (H2.out) _) B3)
    have Q3 : Quarter w3 := (Q2.alloc _).step B3
    have V1 : VecAt w3 (w2.heap.size) (dirX d) (dirY d) := (VecAt.new _ _ (dirX d) (dirY d) _ (by first | rfl | simp)).step B3
    clear B3 C2 H2 Q2
    have c1a := V1.c0
    have c1b := V1.c1
    have l1 := V1.lt
    have C3 := Lib.hid (show ∀ W : World, Quarter W → Calls Tryd.prog 6 #[.int .i64 ((d + 1 + (len2 : Int) % 15) % 16)] W (fun e w' => e = .returned (.tuple #[vec (dirX ((d + 1 + (len2 : Int) % 15) % 16)) (dirY ((d + 1 + (len2 : Int) % 15) % 16)), .bool true]) ∧ Below W.heap.size W w') from fun W hW => by have t := implVDir ((d + 1 + (len2 : Int) % 15) % 16) W hW; rw [f3] at t; exact t)
    go_wp2_with fail
    refine (C3.out _ (Q3.alloc _)).mono ?_
    rintro e w4 ⟨rfl, B4⟩
    have H4 := Lib.hid (bl_trans (bl_alloc (H3.out) _) B4)
    have Q4 : Quarter w4 := (Q3.alloc _).step B4
    have V2 : VecAt w4 (w2.heap.size) (dirX d) (dirY d) := (V1.alloc _).step B4
    have V3 : VecAt w4 (w3.heap.size) (dirX d) (dirY d) := (VecAt.new _ _ (dirX d) (dirY d) _ (by first | rfl | simp)).step B4
    clear B4 C3 H3 Q3 V1 c1a c1b l1
    have c2a := V2.c0
    have c2b := V2.c1
    have l2 := V2.lt
    have c3a := V3.c0
    have c3b := V3.c1
    have l3 := V3.lt
    go_wp2
    all_goals
      go_ret
      first | exact ⟨rfl, (by repeat (first | exact H4.out | refine bl_alloc ?_ _ | refine bl_drew ?_ _))⟩ | exact ⟨ret_b (decide_eq_true (by omega)), (by repeat (first | exact H4.out | refine bl_alloc ?_ _ | refine bl_drew ?_ _))⟩ | exact ⟨ret_b (by simp; omega), (by repeat (first | exact H4.out | refine bl_alloc ?_ _ | refine bl_drew ?_ _))⟩

end Go.Proofs.YtmnojoddapdaoabDoor
