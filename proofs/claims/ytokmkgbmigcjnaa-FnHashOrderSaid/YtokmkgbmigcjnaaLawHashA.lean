/-
  The walks of the laws of hashes: each returns true at every code.
-/
import Derived.Test.YtokmkgbmigcjnaaHashImpl
import Derived.Test.YtokmkgbmigcjnaaIntRow
import Derived.Test.YtokmkgbmigcjnaaHashLaws
namespace Go.Proofs.Ytokmkgbmigcjnaa
open Go.RowKit
open M

set_option maxHeartbeats 2000000 in
theorem walk_FnHashEmpty (a : Option Addr) (len cap : Nat) (zs : List Int) (w : World) (h : IsRow .u8 w a len cap zs) :
    Calls Try.prog 5 #[.slice a len cap] w fun e w' => e = .returned (.bool true) ∧ Below w.heap.size w w' := by
  have hm := h.bytes.1
  have hm2 := h.bytes.2.1
  unfold maxLen at hm2
  by_cases g : 1048576 < len
  · have g1 : (1048576 : Int) < (len : Int) := by omega
    go_enter Try.func5, Try.ntmps5
    go_wp2
    go_ret
    exact ⟨rfl, Below.refl _ _⟩
  have g1 : (len : Int) ≤ 1048576 := by omega
  go_enter Try.func5, Try.ntmps5
  go_wp2_with fail
  refine (draw_hash a len cap zs w h).mono ?_
  rintro e w1 ⟨A, n, c, xs, hn, Fx, rfl, I1, B1⟩
  have H1 := Lib.hid B1
  have I1 := Lib.hid I1
  have hl := Lib.hid I1.out.1
  have Fx := Lib.hid Fx
  clear B1 h
  obtain ⟨v0, v1⟩ := hI_bd xs
  obtain ⟨v, hv⟩ : ∃ v, hI xs = v := ⟨_, rfl⟩
  have Q1 := Lib.hid (show ∀ W : World, Ints W A n xs → Calls Try.prog 15 #[.slice A n c] W (fun e w' => e = .returned (.int .i64 v) ∧ Below W.heap.size W w') from fun W J => by have t := implHash A n c xs W J (by omega); rw [hv] at t; exact t)
  have Q2 := Lib.hid (show ∀ W : World, Ints W A n xs → Calls Try.prog 16 #[.slice A n c] W (fun e w' => e = .returned (.int .i64 v) ∧ W = w') from fun W J => by have t := specHash A n c xs W J (by omega); rw [hv] at t; exact t)
  rw [hv] at v0 v1
  have hv := Lib.hid hv
  go_wp2_with fail
  refine (Q1.out _ I1.out).mono ?_
  rintro e w2 ⟨rfl, B2⟩
  have H2 := Lib.hid (bl_trans H1.out B2)
  have sz := H2.out.size
  have I2 := Lib.hid (I1.out.step B2)
  clear B2 H1 I1 Q1
  go_wp2_with fail
  refine (Q2.out _ I2.out).mono ?_
  rintro e w3 ⟨rfl, rfl⟩
  clear Q2
  have C := Lib.hid (show ∀ (W : World) (D : Option Addr) (k : Nat), Calls Try.prog 15 #[.slice D 0 k] W (fun e w' => e = .returned (.int .i64 17) ∧ Below W.heap.size W w') from fun W D k => by have t := implHash D 0 k [] W (Ints.nil W D) (by omega); rw [hash_none] at t; exact t)
  go_wp2_with fail
  refine (C.out _ _ _).mono ?_
  rintro e w4 ⟨rfl, B4⟩
  have H4 := Lib.hid (bl_trans (bl_alloc H2.out _) B4)
  clear B4 C
  go_wp2
  all_goals
    go_ret
    first | exact ⟨rfl, (by repeat (first | with_reducible exact H4.out | with_reducible refine bl_set ?_ _ _ _ (by omega) | with_reducible refine bl_alloc ?_ _ | with_reducible refine bl_drew1 ?_))⟩ | exact ⟨ret_b (decide_eq_true (by omega)), (by repeat (first | with_reducible exact H4.out | with_reducible refine bl_set ?_ _ _ _ (by omega) | with_reducible refine bl_alloc ?_ _ | with_reducible refine bl_drew1 ?_))⟩ | exact ⟨ret_b (by simp; omega), (by repeat (first | with_reducible exact H4.out | with_reducible refine bl_set ?_ _ _ _ (by omega) | with_reducible refine bl_alloc ?_ _ | with_reducible refine bl_drew1 ?_))⟩

set_option maxHeartbeats 2000000 in
theorem walk_FnHashOrder (a : Option Addr) (len cap : Nat) (zs : List Int) (a2 : Option Addr) (len2 cap2 : Nat) (zs2 : List Int) (w : World) (h : IsRow .u8 w a len cap zs) (h2 : IsRow .u8 w a2 len2 cap2 zs2) :
    Calls Try.prog 9 #[.slice a len cap, .slice a2 len2 cap2] w fun e w' => e = .returned (.bool true) ∧ Below w.heap.size w w' := by
  have hm := h.bytes.1
  have hm2 := h.bytes.2.1
  have hm3 := h2.bytes.1
  have hm4 := h2.bytes.2.1
  unfold maxLen at hm2 hm4
  by_cases g : 1048576 < len
  · have g1 : (1048576 : Int) < (len : Int) := by omega
    go_enter Try.func9, Try.ntmps9
    go_wp2
    go_ret
    exact ⟨rfl, Below.refl _ _⟩
  by_cases g2 : 1048576 < len2
  · have g1 : (len : Int) ≤ 1048576 := by omega
    have g3 : (1048576 : Int) < (len2 : Int) := by omega
    go_enter Try.func9, Try.ntmps9
    go_wp2
    go_ret
    exact ⟨rfl, Below.refl _ _⟩
  have g1 : (len : Int) ≤ 1048576 := by omega
  have g3 : (len2 : Int) ≤ 1048576 := by omega
  have g4 : (0 : Int) ≤ (len2 : Int) := by omega
  go_enter Try.func9, Try.ntmps9
  go_wp2_with fail
  refine (draw_hash a len cap zs w h).mono ?_
  rintro e w1 ⟨A, n, c, xs, hn, Fx, rfl, I1, B1⟩
  have H1 := Lib.hid B1
  have I1 := Lib.hid I1
  have hl := Lib.hid I1.out.1
  have Fx := Lib.hid Fx
  clear B1 h h2
  obtain ⟨v0, v1⟩ := hI_bd xs
  obtain ⟨v, hv⟩ : ∃ v, hI xs = v := ⟨_, rfl⟩
  have Q1 := Lib.hid (show ∀ W : World, Ints W A n xs → Calls Try.prog 15 #[.slice A n c] W (fun e w' => e = .returned (.int .i64 v) ∧ Below W.heap.size W w') from fun W J => by have t := implHash A n c xs W J (by omega); rw [hv] at t; exact t)
  have Q2 := Lib.hid (show ∀ W : World, Ints W A n xs → Calls Try.prog 16 #[.slice A n c] W (fun e w' => e = .returned (.int .i64 v) ∧ W = w') from fun W J => by have t := specHash A n c xs W J (by omega); rw [hv] at t; exact t)
  rw [hv] at v0 v1
  have hv := Lib.hid hv
  go_wp2_with fail
  refine (Q1.out _ I1.out).mono ?_
  rintro e w2 ⟨rfl, B2⟩
  have H2 := Lib.hid (bl_trans H1.out B2)
  have sz := H2.out.size
  have I2 := Lib.hid (I1.out.step B2)
  clear B2 H1 I1 Q1
  go_wp2_with fail
  refine (Q2.out _ I2.out).mono ?_
  rintro e w3 ⟨rfl, rfl⟩
  clear Q2
  obtain ⟨p, hp⟩ : ∃ p : Int, (len2 : Int) % 500 = p := ⟨_, rfl⟩
  obtain ⟨q, hq⟩ : ∃ q : Int, p + 1 + (len : Int) % 400 = q := ⟨_, rfl⟩
  have p0 : 0 ≤ p := by omega
  have p1 : p ≤ 499 := by omega
  have q0 : p + 1 ≤ q := by omega
  have q1 : q ≤ 1000 := by omega
  have hne := hash_order p0 q0 q1
  obtain ⟨x, hx⟩ : ∃ x, hI [p, q] = x := ⟨_, rfl⟩
  obtain ⟨y, hy⟩ : ∃ y, hI [q, p] = y := ⟨_, rfl⟩
  rw [hx, hy] at hne
  have hne' : (x != y) = true := by simpa [bne_iff_ne] using hne
  have C1 := Lib.hid (show ∀ (W : World) (D : Option Addr) (k : Nat), Ints W D 2 [p, q] → Calls Try.prog 15 #[.slice D 2 k] W (fun e w' => e = .returned (.int .i64 x) ∧ Below W.heap.size W w') from fun W D k J => by have t := implHash D 2 k [p, q] W J (by omega); rw [hx] at t; exact t)
  have C2 := Lib.hid (show ∀ (W : World) (D : Option Addr) (k : Nat), Ints W D 2 [q, p] → Calls Try.prog 15 #[.slice D 2 k] W (fun e w' => e = .returned (.int .i64 y) ∧ Below W.heap.size W w') from fun W D k J => by have t := implHash D 2 k [q, p] W J (by omega); rw [hy] at t; exact t)
  clear hx hy
  go_wp2_with fail
  refine (C1.out _ _ _ (Ints.two _ _ _ _)).mono ?_
  rintro e w4 ⟨rfl, B4⟩
  have H4 := Lib.hid (bl_trans (bl_alloc H2.out _) B4)
  clear B4 C1
  go_wp2_with fail
  refine (C2.out _ _ _ (Ints.two _ _ _ _)).mono ?_
  rintro e w5 ⟨rfl, B5⟩
  have H5 := Lib.hid (bl_trans (bl_alloc H4.out _) B5)
  clear B5 C2
  go_wp2
  all_goals
    go_ret
    first | exact ⟨rfl, (by repeat (first | with_reducible exact H5.out | with_reducible refine bl_set ?_ _ _ _ (by omega) | with_reducible refine bl_alloc ?_ _ | with_reducible refine bl_drew1 ?_))⟩ | exact ⟨ret_b (decide_eq_true (by omega)), (by repeat (first | with_reducible exact H5.out | with_reducible refine bl_set ?_ _ _ _ (by omega) | with_reducible refine bl_alloc ?_ _ | with_reducible refine bl_drew1 ?_))⟩ | exact ⟨ret_b (by simp; omega), (by repeat (first | with_reducible exact H5.out | with_reducible refine bl_set ?_ _ _ _ (by omega) | with_reducible refine bl_alloc ?_ _ | with_reducible refine bl_drew1 ?_))⟩

set_option maxHeartbeats 4000000 in
theorem walk_FnHashChange (a : Option Addr) (len cap : Nat) (zs : List Int) (a2 : Option Addr) (len2 cap2 : Nat) (zs2 : List Int) (w : World) (h : IsRow .u8 w a len cap zs) (h2 : IsRow .u8 w a2 len2 cap2 zs2) :
    Calls Try.prog 3 #[.slice a len cap, .slice a2 len2 cap2] w fun e w' => e = .returned (.bool true) ∧ Below w.heap.size w w' := by
  have hm := h.bytes.1
  have hm2 := h.bytes.2.1
  have hm3 := h2.bytes.1
  have hm4 := h2.bytes.2.1
  unfold maxLen at hm2 hm4
  by_cases g : 1048576 < len
  · have g1 : (1048576 : Int) < (len : Int) := by omega
    go_enter Try.func3, Try.ntmps3
    go_wp2
    go_ret
    exact ⟨rfl, Below.refl _ _⟩
  by_cases g2 : 1048576 < len2
  · have g1 : (len : Int) ≤ 1048576 := by omega
    have g3 : (1048576 : Int) < (len2 : Int) := by omega
    go_enter Try.func3, Try.ntmps3
    go_wp2
    go_ret
    exact ⟨rfl, Below.refl _ _⟩
  have g1 : (len : Int) ≤ 1048576 := by omega
  have g3 : (len2 : Int) ≤ 1048576 := by omega
  have g4 : (0 : Int) ≤ (len2 : Int) := by omega
  go_enter Try.func3, Try.ntmps3
  go_wp2_with fail
  refine (draw_hash a len cap zs w h).mono ?_
  rintro e w1 ⟨A, n, c, xs, hn, Fx, rfl, I1, B1⟩
  have H1 := Lib.hid B1
  have I1 := Lib.hid I1
  have hl := Lib.hid I1.out.1
  have Fx := Lib.hid Fx
  clear B1 h h2
  obtain ⟨v0, v1⟩ := hI_bd xs
  obtain ⟨v, hv⟩ : ∃ v, hI xs = v := ⟨_, rfl⟩
  have Q1 := Lib.hid (show ∀ W : World, Ints W A n xs → Calls Try.prog 15 #[.slice A n c] W (fun e w' => e = .returned (.int .i64 v) ∧ Below W.heap.size W w') from fun W J => by have t := implHash A n c xs W J (by omega); rw [hv] at t; exact t)
  have Q2 := Lib.hid (show ∀ W : World, Ints W A n xs → Calls Try.prog 16 #[.slice A n c] W (fun e w' => e = .returned (.int .i64 v) ∧ W = w') from fun W J => by have t := specHash A n c xs W J (by omega); rw [hv] at t; exact t)
  rw [hv] at v0 v1
  have hv := Lib.hid hv
  go_wp2_with fail
  refine (Q1.out _ I1.out).mono ?_
  rintro e w2 ⟨rfl, B2⟩
  have H2 := Lib.hid (bl_trans H1.out B2)
  have sz := H2.out.size
  have I2 := Lib.hid (I1.out.step B2)
  clear B2 H1 I1 Q1
  go_wp2_with fail
  refine (Q2.out _ I2.out).mono ?_
  rintro e w3 ⟨rfl, rfl⟩
  clear Q2
  by_cases t0 : v < 0
  · skip
    go_wp2
    all_goals
      go_ret
      first | exact ⟨rfl, (by repeat (first | with_reducible exact H2.out | with_reducible refine bl_set ?_ _ _ _ (by omega) | with_reducible refine bl_alloc ?_ _ | with_reducible refine bl_drew1 ?_))⟩ | exact ⟨ret_b (decide_eq_true (by omega)), (by repeat (first | with_reducible exact H2.out | with_reducible refine bl_set ?_ _ _ _ (by omega) | with_reducible refine bl_alloc ?_ _ | with_reducible refine bl_drew1 ?_))⟩ | exact ⟨ret_b (by simp; omega), (by repeat (first | with_reducible exact H2.out | with_reducible refine bl_set ?_ _ _ _ (by omega) | with_reducible refine bl_alloc ?_ _ | with_reducible refine bl_drew1 ?_))⟩
  by_cases n0 : n = 0
  · have n1 : (n : Int) = 0 := by omega
    subst n0
    go_wp2
    all_goals
      go_ret
      first | exact ⟨rfl, (by repeat (first | with_reducible exact H2.out | with_reducible refine bl_set ?_ _ _ _ (by omega) | with_reducible refine bl_alloc ?_ _ | with_reducible refine bl_drew1 ?_))⟩ | exact ⟨ret_b (decide_eq_true (by omega)), (by repeat (first | with_reducible exact H2.out | with_reducible refine bl_set ?_ _ _ _ (by omega) | with_reducible refine bl_alloc ?_ _ | with_reducible refine bl_drew1 ?_))⟩ | exact ⟨ret_b (by simp; omega), (by repeat (first | with_reducible exact H2.out | with_reducible refine bl_set ?_ _ _ _ (by omega) | with_reducible refine bl_alloc ?_ _ | with_reducible refine bl_drew1 ?_))⟩
  have n1 : ((n : Int) == 0) = false := beq_eq_false_iff_ne.2 (by omega)
  obtain ⟨k, ek⟩ : ∃ k : Nat, len2 % n = k := ⟨_, rfl⟩
  have kn : k < n := by rw [← ek]; exact Nat.mod_lt _ (by omega)
  have em : (len2 : Int) % (n : Int) = (k : Int) := by rw [← ek]; rfl
  have ek := Lib.hid ek
  obtain ⟨z, hz⟩ : ∃ z, xs.getD k 0 = z := ⟨_, rfl⟩
  have zb := ok_at (hI_pos (xs := xs) (by rw [hv.out]; omega)) (k := k) (by have := hl.out; omega)
  have hc := hash_change (xs := xs) (by rw [hv.out]; omega) (k := k) (by have := hl.out; omega) (d := 1 + (len : Int) % 1000) (by omega) (by omega)
  rw [hz] at zb hc
  obtain ⟨z0, z1⟩ := zb
  obtain ⟨y, hy⟩ : ∃ y, z + 1 + (len : Int) % 1000 = y := ⟨_, rfl⟩
  have y0 : z < y := by omega
  have y1 : y ≤ z + 1000 := by omega
  rw [show z + (1 + (len : Int) % 1000) = y by omega, hv.out] at hc
  have hz := Lib.hid hz
  go_wp2_with (at_builtin; refine append_ints _ rfl _ _ rfl w2.heap.size _ 0 [] rfl (World.ownsRow_lit (base := w2.heap.size) (e := 3) (size := 1) w2 #[] 0 (Nat.le_refl _) (by decide) (by simp)) A n c xs rfl (I2.out.alloc _) (by omega) (by simp) ?_)
  intro v4 w4 O4 G4 _
  have s4 : w2.heap.size < w4.heap.size := by have := G4.size; simp at this; omega
  have H4 := Lib.hid (bl_trans H2.out (((bl_alloc (bl_refl w2) _).grown G4 (by simp) (fun k e => by simp [Value.ownBlock] at e; omega))))
  have O4 : w4.ownsRow w2.heap.size 3 1 v4 n (xs.map (Value.int .i64)) := by simpa using O4
  clear G4 H2
  rcases O4.2 with ⟨_, e0⟩ | ⟨g', cap', cur, rfl, hbg, hh, _⟩
  · omega
  clear hh
  have f4 := O4.frozenAt k
  have c4 : w4.cell? ⟨g', k, none⟩ = some (.int .i64 z) := by
    rw [O4.cellAt k (by omega), List.getElem?_map, ← hz.out, List.getD_eq_getElem?_getD, List.getElem?_eq_getElem (by have := hl.out; omega)]
    rfl
  obtain ⟨O5, G5⟩ := O4.stored k (.int .i64 y)
  rw [← List.map_set] at O5
  obtain ⟨A5, cap5, hv5, I5⟩ := Ints.of_own O5
  simp only [Value.slice.injEq, true_and] at hv5
  obtain ⟨rfl, rfl⟩ := hv5
  have I5 := Lib.hid I5
  clear O4 O5 G5
  by_cases t1 : 2000000000 < y
  · clear hc
    go_wp2
    all_goals
      go_ret
      first | exact ⟨rfl, (by repeat (first | with_reducible exact H4.out | with_reducible refine bl_set ?_ _ _ _ (by omega) | with_reducible refine bl_alloc ?_ _ | with_reducible refine bl_drew1 ?_))⟩ | exact ⟨ret_b (decide_eq_true (by omega)), (by repeat (first | with_reducible exact H4.out | with_reducible refine bl_set ?_ _ _ _ (by omega) | with_reducible refine bl_alloc ?_ _ | with_reducible refine bl_drew1 ?_))⟩ | exact ⟨ret_b (by simp; omega), (by repeat (first | with_reducible exact H4.out | with_reducible refine bl_set ?_ _ _ _ (by omega) | with_reducible refine bl_alloc ?_ _ | with_reducible refine bl_drew1 ?_))⟩
  obtain ⟨x, hx⟩ : ∃ x, hI (xs.set k y) = x := ⟨_, rfl⟩
  rw [hx] at hc
  have hne : (x != v) = true := by have := hc (by omega); simpa [bne_iff_ne] using this
  clear hc
  have C := Lib.hid (show ∀ (W : World) (D : Option Addr) (q : Nat), Ints W D n (xs.set k y) → Calls Try.prog 15 #[.slice D n q] W (fun e w' => e = .returned (.int .i64 x) ∧ Below W.heap.size W w') from fun W D q J => by have t := implHash D n q (xs.set k y) W J (by omega); rw [hx] at t; exact t)
  clear hx
  go_wp2_with fail
  refine (C.out _ _ _ I5.out).mono ?_
  rintro e w6 ⟨rfl, B6⟩
  have H6 := Lib.hid (bl_trans (bl_set H4.out _ _ _ (by have := H4.out.size; omega)) B6)
  clear B6 C
  go_wp2
  all_goals
    go_ret
    first | exact ⟨rfl, (by repeat (first | with_reducible exact H6.out | with_reducible refine bl_set ?_ _ _ _ (by omega) | with_reducible refine bl_alloc ?_ _ | with_reducible refine bl_drew1 ?_))⟩ | exact ⟨ret_b (decide_eq_true (by omega)), (by repeat (first | with_reducible exact H6.out | with_reducible refine bl_set ?_ _ _ _ (by omega) | with_reducible refine bl_alloc ?_ _ | with_reducible refine bl_drew1 ?_))⟩ | exact ⟨ret_b (by simp; omega), (by repeat (first | with_reducible exact H6.out | with_reducible refine bl_set ?_ _ _ _ (by omega) | with_reducible refine bl_alloc ?_ _ | with_reducible refine bl_drew1 ?_))⟩

end Go.Proofs.Ytokmkgbmigcjnaa
