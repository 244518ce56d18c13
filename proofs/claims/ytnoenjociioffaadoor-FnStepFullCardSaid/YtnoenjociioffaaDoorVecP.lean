/-
  What the program's own functions of chapter 2 return, at every argument: the contracts.
  More contracts of the program's own functions of chapter 2.
  More contracts of the program's own functions of chapter 2.
  The contracts of the program's own functions of chapter 2, all but the directions'.
-/
import Derived.Test.YtnoenjociioffaaDoorVecS
namespace Go.Proofs.YtnoenjociioffaaDoor
open Go.RowKit
open M

/-- A vector in memory that may be written. -/
structure VCell (w : World) (b : Nat) (x y : Int) : Prop where
  c0 : w.cell? ⟨b, 0, none⟩ = some (.int .i64 x)
  c1 : w.cell? ⟨b, 1, none⟩ = some (.int .i64 y)
  f0 : w.frozen? ⟨b, 0, none⟩ = false
  f1 : w.frozen? ⟨b, 1, none⟩ = false
  lt : b < w.heap.size
theorem VCell.step {W w' : World} {b : Nat} {x y : Int} (h : VCell W b x y) (B : Below W.heap.size W w') : VCell w' b x y :=
  ⟨(B.cell (p := ⟨b, 0, none⟩) h.lt).trans h.c0, (B.cell (p := ⟨b, 1, none⟩) h.lt).trans h.c1, (B.frozen (p := ⟨b, 0, none⟩) h.lt).trans h.f0, (B.frozen (p := ⟨b, 1, none⟩) h.lt).trans h.f1, Nat.lt_of_lt_of_le h.lt B.size⟩
theorem VCell.alloc {W : World} {b : Nat} {x y : Int} (h : VCell W b x y) (o : Obj) : VCell (W.alloc o) b x y := h.step (bl_alloc (bl_refl W) o)
theorem VCell.new (W : World) (b : Nat) (x y : Int) (t : TypeId) (hb : b = W.heap.size) : VCell (W.alloc (.cells #[.int .i64 x, .int .i64 y] t)) b x y := by
  subst hb
  exact ⟨by simp, by simp, by simp, by simp, by simp⟩

theorem prod_bd {a b : Int} (a1 : -1000000 ≤ a) (a2 : a ≤ 1000000) (b1 : -1000000 ≤ b) (b2 : b ≤ 1000000) : -1000000000 ≤ mu a b ∧ mu a b ≤ 1000000000 := by
  have h : (mu a b).natAbs ≤ 1000000 * 1000000 / 1000 := by
    unfold mu
    rw [Int.natAbs_tdiv, Int.natAbs_mul]
    exact Nat.div_le_div_right (Nat.mul_le_mul (by omega) (by omega))
  omega
theorem mul_cl {a b : Int} (ha : okB a = true) (hb : okB b = true) : mulI a b = cl (mu a b) ∧ mulB a b = okB (mu a b) := mul_yes ha hb
theorem mul_in {a b : Int} (a1 : -1000000 ≤ a) (a2 : a ≤ 1000000) (b1 : -1000000 ≤ b) (b2 : b ≤ 1000000) : mulI a b = mu a b ∧ mulB a b = true := by
  have p := prod_bd a1 a2 b1 b2
  obtain ⟨h1, h2⟩ := mul_cl (a := a) (b := b) (ok_yes (by omega)) (ok_yes (by omega))
  exact ⟨h1.trans (cl_id (by omega)), h2.trans (ok_yes (by omega))⟩
theorem add_in {a b : Int} (a1 : -1000000000 ≤ a) (a2 : a ≤ 1000000000) (b1 : -1000000000 ≤ b) (b2 : b ≤ 1000000000) : addI a b = a + b ∧ addB a b = true := by
  obtain ⟨h1, h2⟩ := add_yes (a := a) (b := b) (ok_yes (by omega)) (ok_yes (by omega))
  exact ⟨h1.trans (cl_id (by omega)), h2.trans (ok_yes (by omega))⟩
theorem vok_cl_no {a b : Int} (h : vokB a b = false) : vokB (cl a) (cl b) = false := by
  have g := vok_false h
  refine vok_no fun k => g ?_
  rcases cl_three a with ⟨p, q, _⟩ | ⟨p, q, _⟩ | ⟨p, p2, q, _⟩ <;> rcases cl_three b with ⟨r, s, _⟩ | ⟨r, s, _⟩ | ⟨r, r2, s, _⟩ <;> rw [q, s] at k <;> omega
theorem vok_cl_yes {a b : Int} (h : vokB a b = true) : cl a = a ∧ cl b = b := by
  have g := (vok_iff a b).1 h
  exact ⟨cl_id (by omega), cl_id (by omega)⟩
theorem in_neg {m : Int} (h : m < 0) : inB m 0 1000000 = false := inB_no (by omega)
theorem in_big {m : Int} (h0 : 0 ≤ m) (h : inB m (-1000000) 1000000 = false) : inB m 0 1000000 = false := inB_no fun g => by
  rw [inB_yes (by omega)] at h; cases h
theorem in_mk {m : Int} (h0 : 0 ≤ m) (h : inB m (-1000000) 1000000 = true) : inB m 0 1000000 = true ∧ m ≤ 1000000 := by
  have g : -1000000 ≤ m ∧ m ≤ 1000000 := by simpa [inB] using h
  exact ⟨inB_yes (by omega), by omega⟩

theorem implCoord (n : Int) (w : World) : Calls Tryd.prog 87 #[.int .i64 n] w fun e w' => e = .returned (.bool (inB n (-1000000) 1000000)) ∧ w = w' := by
  by_cases h1 : -1000000 ≤ n
  · by_cases h2 : n ≤ 1000000
    · have E := Lib.hid (inB_yes (n := n) ⟨h1, h2⟩)
      go_enter Tryd.func87, Tryd.ntmps87
      go_wp2
      go_ret
      exact ⟨ret_b (by rw [E.out]), rfl⟩
    · have E := Lib.hid (inB_no (n := n) (lo := -1000000) (hi := 1000000) (by omega))
      go_enter Tryd.func87, Tryd.ntmps87
      go_wp2
      go_ret
      exact ⟨ret_b (by rw [E.out]), rfl⟩
  · have E := Lib.hid (inB_no (n := n) (lo := -1000000) (hi := 1000000) (by omega))
    go_enter Tryd.func87, Tryd.ntmps87
    go_wp2
    go_ret
    exact ⟨ret_b (by rw [E.out]), rfl⟩

theorem implVecOk (x y : Int) (w : World) : Calls Tryd.prog 52 #[vec x y] w fun e w' => e = .returned (.bool (vokB x y)) ∧ Below w.heap.size w w' := by
  cases hx : inB x (-1000000) 1000000
  · have E := Lib.hid (vok_no1 (y := y) hx)
    go_enter Tryd.func52, Tryd.ntmps52
    go_wp2_with (go_at_call 87; refine (implCoord _ _).mono ?_; rintro e w' ⟨rfl, rfl⟩)
    go_ret
    exact ⟨ret_b (by rw [E.out]), bl_alloc (Below.refl _ _) _⟩
  · have E := Lib.hid (vok_yes1 (y := y) hx)
    go_enter Tryd.func52, Tryd.ntmps52
    go_wp2_with (go_at_call 87; refine (implCoord _ _).mono ?_; rintro e w' ⟨rfl, rfl⟩)
    go_ret
    exact ⟨ret_b (by rw [E.out]), bl_alloc (Below.refl _ _) _⟩

/-- The contract of VecOk with its answer given. -/
theorem implVecOk' (x y : Int) (b : Bool) (w : World) (h : vokB x y = b) : Calls Tryd.prog 52 #[vec x y] w fun e w' => e = .returned (.bool b) ∧ Below w.heap.size w w' := by
  subst h
  exact implVecOk x y w

theorem va_out {x y u v : Int} (h : vokB x y = true) (g : vokB u v = true) (k : vokB (x + u) (y + v) = false) : vaX x y u v = 0 ∧ vaY x y u v = 0 ∧ vaB x y u v = false := by
  obtain ⟨e1, e2, e3⟩ := va_yes h g
  obtain ⟨r1, r2⟩ := rng_no k
  exact ⟨e1.trans r1, e2.trans r2, e3.trans k⟩
theorem va_got {x y u v : Int} (h : vokB x y = true) (g : vokB u v = true) (k : vokB (x + u) (y + v) = true) : vaX x y u v = x + u ∧ vaY x y u v = y + v ∧ vaB x y u v = true := by
  obtain ⟨e1, e2, e3⟩ := va_yes h g
  obtain ⟨r1, r2⟩ := rng_yes k
  exact ⟨e1.trans r1, e2.trans r2, e3.trans k⟩

set_option maxHeartbeats 1000000 in
theorem implVAdd (x y u v : Int) (w : World) : Calls Tryd.prog 103 #[vec x y, vec u v] w fun e w' => e = .returned (.tuple #[vec (vaX x y u v) (vaY x y u v), .bool (vaB x y u v)]) ∧ Below w.heap.size w w' := by
  cases h : vokB x y
  · have E := Lib.hid (va_no1 (u := u) (v := v) h)
    have h := Lib.hid h
    go_enter Tryd.func103, Tryd.ntmps103
    go_wp2_with fail
    refine (implVecOk' x y false _ h.out).mono ?_
    rintro e w1 ⟨rfl, B1⟩
    have H1 := Lib.hid (bl_trans (bl_alloc (bl_alloc (bl_alloc (bl_refl w) _) _) _) B1)
    have V1 : VCell w1 (w.heap.size) x y := (((VCell.new _ _ x y _ (by first | rfl | simp)).alloc _).alloc _).step B1
    have V2 : VCell w1 (w.heap.size + 1) u v := ((VCell.new _ _ u v _ (by first | rfl | simp)).alloc _).step B1
    have V3 : VCell w1 (w.heap.size + 1 + 1) 0 0 := (VCell.new _ _ 0 0 _ (by first | rfl | simp)).step B1
    clear B1
    have c1a := V1.c0
    have c1b := V1.c1
    have f1a := V1.f0
    have f1b := V1.f1
    have l1 := V1.lt
    have c2a := V2.c0
    have c2b := V2.c1
    have f2a := V2.f0
    have f2b := V2.f1
    have l2 := V2.lt
    have c3a := V3.c0
    have c3b := V3.c1
    have f3a := V3.f0
    have f3b := V3.f1
    have l3 := V3.lt
    go_wp2
    exact bodyPost_ret (v := .tuple #[vec 0 0, .bool false]) (by simp [results, Tryd.results103, go_sem, c3a, c3b]) rfl ⟨ret_vb (by rw [E.out.1]) (by rw [E.out.2.1]) (by rw [E.out.2.2]), by repeat (first | exact H1.out | refine bl_alloc ?_ _ | refine bl_set ?_ _ _ _ (by omega) | refine bl_drew ?_ _)⟩
  cases g : vokB u v
  · have E := Lib.hid (va_no2 (x := x) (y := y) g)
    have h := Lib.hid h
    have g := Lib.hid g
    go_enter Tryd.func103, Tryd.ntmps103
    go_wp2_with fail
    refine (implVecOk' x y true _ h.out).mono ?_
    rintro e w1 ⟨rfl, B1⟩
    have H1 := Lib.hid (bl_trans (bl_alloc (bl_alloc (bl_alloc (bl_refl w) _) _) _) B1)
    have V1 : VCell w1 (w.heap.size) x y := (((VCell.new _ _ x y _ (by first | rfl | simp)).alloc _).alloc _).step B1
    have V2 : VCell w1 (w.heap.size + 1) u v := ((VCell.new _ _ u v _ (by first | rfl | simp)).alloc _).step B1
    have V3 : VCell w1 (w.heap.size + 1 + 1) 0 0 := (VCell.new _ _ 0 0 _ (by first | rfl | simp)).step B1
    clear B1
    have c1a := V1.c0
    have c1b := V1.c1
    have f1a := V1.f0
    have f1b := V1.f1
    have l1 := V1.lt
    have c2a := V2.c0
    have c2b := V2.c1
    have f2a := V2.f0
    have f2b := V2.f1
    have l2 := V2.lt
    have c3a := V3.c0
    have c3b := V3.c1
    have f3a := V3.f0
    have f3b := V3.f1
    have l3 := V3.lt
    go_wp2_with fail
    refine (implVecOk' u v false _ g.out).mono ?_
    rintro e w2 ⟨rfl, B2⟩
    have H2 := Lib.hid (bl_trans (H1.out) B2)
    have V4 : VCell w2 w.heap.size x y := V1.step B2
    have V5 : VCell w2 (w.heap.size + 1) u v := V2.step B2
    have V6 : VCell w2 (w.heap.size + 1 + 1) 0 0 := V3.step B2
    clear B2 H1 V1 c1a c1b f1a f1b l1 V2 c2a c2b f2a f2b l2 V3 c3a c3b f3a f3b l3
    have c4a := V4.c0
    have c4b := V4.c1
    have f4a := V4.f0
    have f4b := V4.f1
    have l4 := V4.lt
    have c5a := V5.c0
    have c5b := V5.c1
    have f5a := V5.f0
    have f5b := V5.f1
    have l5 := V5.lt
    have c6a := V6.c0
    have c6b := V6.c1
    have f6a := V6.f0
    have f6b := V6.f1
    have l6 := V6.lt
    go_wp2
    exact bodyPost_ret (v := .tuple #[vec 0 0, .bool false]) (by simp [results, Tryd.results103, go_sem, c6a, c6b]) rfl ⟨ret_vb (by rw [E.out.1]) (by rw [E.out.2.1]) (by rw [E.out.2.2]), by repeat (first | exact H2.out | refine bl_alloc ?_ _ | refine bl_set ?_ _ _ _ (by omega) | refine bl_drew ?_ _)⟩
  obtain ⟨⟨x1, x2⟩, y1, y2⟩ := (vok_iff x y).1 h
  obtain ⟨⟨u1, u2⟩, v1, v2⟩ := (vok_iff u v).1 g
  cases k : vokB (x + u) (y + v)
  · have E := Lib.hid (va_out h g k)
    have h := Lib.hid h
    have g := Lib.hid g
    have k := Lib.hid k
    go_enter Tryd.func103, Tryd.ntmps103
    go_wp2_with fail
    refine (implVecOk' x y true _ h.out).mono ?_
    rintro e w1 ⟨rfl, B1⟩
    have H1 := Lib.hid (bl_trans (bl_alloc (bl_alloc (bl_alloc (bl_refl w) _) _) _) B1)
    have V1 : VCell w1 (w.heap.size) x y := (((VCell.new _ _ x y _ (by first | rfl | simp)).alloc _).alloc _).step B1
    have V2 : VCell w1 (w.heap.size + 1) u v := ((VCell.new _ _ u v _ (by first | rfl | simp)).alloc _).step B1
    have V3 : VCell w1 (w.heap.size + 1 + 1) 0 0 := (VCell.new _ _ 0 0 _ (by first | rfl | simp)).step B1
    clear B1
    have c1a := V1.c0
    have c1b := V1.c1
    have f1a := V1.f0
    have f1b := V1.f1
    have l1 := V1.lt
    have c2a := V2.c0
    have c2b := V2.c1
    have f2a := V2.f0
    have f2b := V2.f1
    have l2 := V2.lt
    have c3a := V3.c0
    have c3b := V3.c1
    have f3a := V3.f0
    have f3b := V3.f1
    have l3 := V3.lt
    go_wp2_with fail
    refine (implVecOk' u v true _ g.out).mono ?_
    rintro e w2 ⟨rfl, B2⟩
    have H2 := Lib.hid (bl_trans (H1.out) B2)
    have V4 : VCell w2 w.heap.size x y := V1.step B2
    have V5 : VCell w2 (w.heap.size + 1) u v := V2.step B2
    have V6 : VCell w2 (w.heap.size + 1 + 1) 0 0 := V3.step B2
    clear B2 H1 V1 c1a c1b f1a f1b l1 V2 c2a c2b f2a f2b l2 V3 c3a c3b f3a f3b l3
    have c4a := V4.c0
    have c4b := V4.c1
    have f4a := V4.f0
    have f4b := V4.f1
    have l4 := V4.lt
    have c5a := V5.c0
    have c5b := V5.c1
    have f5a := V5.f0
    have f5b := V5.f1
    have l5 := V5.lt
    have c6a := V6.c0
    have c6b := V6.c1
    have f6a := V6.f0
    have f6b := V6.f1
    have l6 := V6.lt
    go_wp2_with fail
    refine (implVecOk' (x + u) (y + v) false _ k.out).mono ?_
    rintro e w3 ⟨rfl, B3⟩
    have H3 := Lib.hid (bl_trans (bl_alloc (H2.out) _) B3)
    have V7 : VCell w3 w.heap.size x y := (V4.alloc _).step B3
    have V8 : VCell w3 (w.heap.size + 1) u v := (V5.alloc _).step B3
    have V9 : VCell w3 (w.heap.size + 1 + 1) 0 0 := (V6.alloc _).step B3
    have V10 : VCell w3 (w2.heap.size) (x + u) (y + v) := (VCell.new _ _ (x + u) (y + v) _ (by first | rfl | simp)).step B3
    clear B3 H2 V4 c4a c4b f4a f4b l4 V5 c5a c5b f5a f5b l5 V6 c6a c6b f6a f6b l6
    have c7a := V7.c0
    have c7b := V7.c1
    have f7a := V7.f0
    have f7b := V7.f1
    have l7 := V7.lt
    have c8a := V8.c0
    have c8b := V8.c1
    have f8a := V8.f0
    have f8b := V8.f1
    have l8 := V8.lt
    have c9a := V9.c0
    have c9b := V9.c1
    have f9a := V9.f0
    have f9b := V9.f1
    have l9 := V9.lt
    have c10a := V10.c0
    have c10b := V10.c1
    have f10a := V10.f0
    have f10b := V10.f1
    have l10 := V10.lt
    go_wp2
    exact bodyPost_ret (v := .tuple #[vec 0 0, .bool false]) (by simp [results, Tryd.results103, go_sem, c9a, c9b]) rfl ⟨ret_vb (by rw [E.out.1]) (by rw [E.out.2.1]) (by rw [E.out.2.2]), by repeat (first | exact H3.out | refine bl_alloc ?_ _ | refine bl_set ?_ _ _ _ (by omega) | refine bl_drew ?_ _)⟩
  · have E := Lib.hid (va_got h g k)
    have h := Lib.hid h
    have g := Lib.hid g
    have k := Lib.hid k
    go_enter Tryd.func103, Tryd.ntmps103
    go_wp2_with fail
    refine (implVecOk' x y true _ h.out).mono ?_
    rintro e w1 ⟨rfl, B1⟩
    have H1 := Lib.hid (bl_trans (bl_alloc (bl_alloc (bl_alloc (bl_refl w) _) _) _) B1)
    have V1 : VCell w1 (w.heap.size) x y := (((VCell.new _ _ x y _ (by first | rfl | simp)).alloc _).alloc _).step B1
    have V2 : VCell w1 (w.heap.size + 1) u v := ((VCell.new _ _ u v _ (by first | rfl | simp)).alloc _).step B1
    have V3 : VCell w1 (w.heap.size + 1 + 1) 0 0 := (VCell.new _ _ 0 0 _ (by first | rfl | simp)).step B1
    clear B1
    have c1a := V1.c0
    have c1b := V1.c1
    have f1a := V1.f0
    have f1b := V1.f1
    have l1 := V1.lt
    have c2a := V2.c0
    have c2b := V2.c1
    have f2a := V2.f0
    have f2b := V2.f1
    have l2 := V2.lt
    have c3a := V3.c0
    have c3b := V3.c1
    have f3a := V3.f0
    have f3b := V3.f1
    have l3 := V3.lt
    go_wp2_with fail
    refine (implVecOk' u v true _ g.out).mono ?_
    rintro e w2 ⟨rfl, B2⟩
    have H2 := Lib.hid (bl_trans (H1.out) B2)
    have V4 : VCell w2 w.heap.size x y := V1.step B2
    have V5 : VCell w2 (w.heap.size + 1) u v := V2.step B2
    have V6 : VCell w2 (w.heap.size + 1 + 1) 0 0 := V3.step B2
    clear B2 H1 V1 c1a c1b f1a f1b l1 V2 c2a c2b f2a f2b l2 V3 c3a c3b f3a f3b l3
    have c4a := V4.c0
    have c4b := V4.c1
    have f4a := V4.f0
    have f4b := V4.f1
    have l4 := V4.lt
    have c5a := V5.c0
    have c5b := V5.c1
    have f5a := V5.f0
    have f5b := V5.f1
    have l5 := V5.lt
    have c6a := V6.c0
    have c6b := V6.c1
    have f6a := V6.f0
    have f6b := V6.f1
    have l6 := V6.lt
    go_wp2_with fail
    refine (implVecOk' (x + u) (y + v) true _ k.out).mono ?_
    rintro e w3 ⟨rfl, B3⟩
    have H3 := Lib.hid (bl_trans (bl_alloc (H2.out) _) B3)
    have V7 : VCell w3 w.heap.size x y := (V4.alloc _).step B3
    have V8 : VCell w3 (w.heap.size + 1) u v := (V5.alloc _).step B3
    have V9 : VCell w3 (w.heap.size + 1 + 1) 0 0 := (V6.alloc _).step B3
    have V10 : VCell w3 (w2.heap.size) (x + u) (y + v) := (VCell.new _ _ (x + u) (y + v) _ (by first | rfl | simp)).step B3
    clear B3 H2 V4 c4a c4b f4a f4b l4 V5 c5a c5b f5a f5b l5 V6 c6a c6b f6a f6b l6
    have c7a := V7.c0
    have c7b := V7.c1
    have f7a := V7.f0
    have f7b := V7.f1
    have l7 := V7.lt
    have c8a := V8.c0
    have c8b := V8.c1
    have f8a := V8.f0
    have f8b := V8.f1
    have l8 := V8.lt
    have c9a := V9.c0
    have c9b := V9.c1
    have f9a := V9.f0
    have f9b := V9.f1
    have l9 := V9.lt
    have c10a := V10.c0
    have c10b := V10.c1
    have f10a := V10.f0
    have f10b := V10.f1
    have l10 := V10.lt
    go_wp2
    exact bodyPost_ret (v := .tuple #[vec (x + u) (y + v), .bool true]) (by simp [results, Tryd.results103, go_sem, c9a, c9b]) rfl ⟨ret_vb (by rw [E.out.1]) (by rw [E.out.2.1]) (by rw [E.out.2.2]), by repeat (first | exact H3.out | refine bl_alloc ?_ _ | refine bl_set ?_ _ _ _ (by omega) | refine bl_drew ?_ _)⟩

end Go.Proofs.YtnoenjociioffaaDoor

namespace Go.Proofs.YtnoenjociioffaaDoor
open Go.RowKit
open M

/-- The contract of FixOk with its answer given. -/
theorem implOk' (n : Int) (b : Bool) (w : World) (h : okB n = b) : Calls Tryd.prog 57 #[.int .i64 n] w fun e w' => e = .returned (.bool b) ∧ w = w' := by
  subst h
  exact implOk n w
theorem vs_out {x y k : Int} (h : vokB x y = true) (g : okB k = true) (q : vokB (mu x k) (mu y k) = false) : vsX x y k = 0 ∧ vsY x y k = 0 ∧ vsB x y k = false := by
  obtain ⟨e1, e2, e3⟩ := vs_yes h g
  obtain ⟨r1, r2⟩ := rng_no q
  exact ⟨e1.trans r1, e2.trans r2, e3.trans q⟩
theorem vs_got {x y k : Int} (h : vokB x y = true) (g : okB k = true) (q : vokB (mu x k) (mu y k) = true) : vsX x y k = mu x k ∧ vsY x y k = mu y k ∧ vsB x y k = true := by
  obtain ⟨e1, e2, e3⟩ := vs_yes h g
  obtain ⟨r1, r2⟩ := rng_yes q
  exact ⟨e1.trans r1, e2.trans r2, e3.trans q⟩

set_option maxHeartbeats 1000000 in
theorem implVScale (x y k : Int) (w : World) : Calls Tryd.prog 27 #[vec x y, .int .i64 k] w fun e w' => e = .returned (.tuple #[vec (vsX x y k) (vsY x y k), .bool (vsB x y k)]) ∧ Below w.heap.size w w' := by
  cases h : vokB x y
  · have E := Lib.hid (vs_no1 (k := k) h)
    have h := Lib.hid h
    go_enter Tryd.func27, Tryd.ntmps27
    go_wp2_with fail
    refine (implVecOk' x y false _ h.out).mono ?_
    rintro e w1 ⟨rfl, B1⟩
    have H1 := Lib.hid (bl_trans (bl_alloc (bl_alloc (bl_refl w) _) _) B1)
    have V1 : VCell w1 (w.heap.size) x y := ((VCell.new _ _ x y _ (by first | rfl | simp)).alloc _).step B1
    have V2 : VCell w1 (w.heap.size + 1) 0 0 := (VCell.new _ _ 0 0 _ (by first | rfl | simp)).step B1
    clear B1
    have c1a := V1.c0
    have c1b := V1.c1
    have f1a := V1.f0
    have f1b := V1.f1
    have l1 := V1.lt
    have c2a := V2.c0
    have c2b := V2.c1
    have f2a := V2.f0
    have f2b := V2.f1
    have l2 := V2.lt
    go_wp2
    exact bodyPost_ret (v := .tuple #[vec 0 0, .bool false]) (by simp [results, Tryd.results27, go_sem, c2a, c2b]) rfl ⟨ret_vb (by rw [E.out.1]) (by rw [E.out.2.1]) (by rw [E.out.2.2]), by repeat (first | exact H1.out | refine bl_alloc ?_ _ | refine bl_set ?_ _ _ _ (by omega) | refine bl_drew ?_ _)⟩
  cases g : okB k
  · have E := Lib.hid (vs_no2 (x := x) (y := y) g)
    have h := Lib.hid h
    have g := Lib.hid g
    go_enter Tryd.func27, Tryd.ntmps27
    go_wp2_with fail
    refine (implVecOk' x y true _ h.out).mono ?_
    rintro e w1 ⟨rfl, B1⟩
    have H1 := Lib.hid (bl_trans (bl_alloc (bl_alloc (bl_refl w) _) _) B1)
    have V1 : VCell w1 (w.heap.size) x y := ((VCell.new _ _ x y _ (by first | rfl | simp)).alloc _).step B1
    have V2 : VCell w1 (w.heap.size + 1) 0 0 := (VCell.new _ _ 0 0 _ (by first | rfl | simp)).step B1
    clear B1
    have c1a := V1.c0
    have c1b := V1.c1
    have f1a := V1.f0
    have f1b := V1.f1
    have l1 := V1.lt
    have c2a := V2.c0
    have c2b := V2.c1
    have f2a := V2.f0
    have f2b := V2.f1
    have l2 := V2.lt
    go_wp2_with fail
    refine (implOk' k false _ g.out).mono ?_
    rintro e w' ⟨rfl, rfl⟩
    go_wp2
    exact bodyPost_ret (v := .tuple #[vec 0 0, .bool false]) (by simp [results, Tryd.results27, go_sem, c2a, c2b]) rfl ⟨ret_vb (by rw [E.out.1]) (by rw [E.out.2.1]) (by rw [E.out.2.2]), by repeat (first | exact H1.out | refine bl_alloc ?_ _ | refine bl_set ?_ _ _ _ (by omega) | refine bl_drew ?_ _)⟩
  obtain ⟨⟨x1, x2⟩, y1, y2⟩ := (vok_iff x y).1 h
  obtain ⟨k1, k2⟩ := (ok_iff k).1 g
  obtain ⟨M1a, M1b⟩ := mul_cl (a := x) (ok_yes (by omega)) g
  obtain ⟨M2a, M2b⟩ := mul_cl (a := y) (ok_yes (by omega)) g
  cases q : vokB (mu x k) (mu y k)
  · have E := Lib.hid (vs_out h g q)
    have q := vok_cl_no q
    obtain ⟨X, hX⟩ : ∃ X, cl (mu x k) = X := ⟨_, rfl⟩
    obtain ⟨Y, hY⟩ : ∃ Y, cl (mu y k) = Y := ⟨_, rfl⟩
    obtain ⟨b1, hb1⟩ : ∃ b, okB (mu x k) = b := ⟨_, rfl⟩
    obtain ⟨b2, hb2⟩ : ∃ b, okB (mu y k) = b := ⟨_, rfl⟩
    rw [hX, hY] at q
    rw [hX] at M1a
    rw [hY] at M2a
    rw [hb1] at M1b
    rw [hb2] at M2b
    have M1 := Lib.hid (show ∀ W : World, Calls Tryd.prog 58 #[.int .i64 x, .int .i64 k] W (fun e w' => e = .returned (.tuple #[.int .i64 X, .bool b1]) ∧ W = w') from fun W => by have t := implMul x k W; rw [M1a, M1b] at t; exact t)
    have M2 := Lib.hid (show ∀ W : World, Calls Tryd.prog 58 #[.int .i64 y, .int .i64 k] W (fun e w' => e = .returned (.tuple #[.int .i64 Y, .bool b2]) ∧ W = w') from fun W => by have t := implMul y k W; rw [M2a, M2b] at t; exact t)
    clear M1a M1b M2a M2b hX hY hb1 hb2
    have h := Lib.hid h
    have g := Lib.hid g
    have q := Lib.hid q
    go_enter Tryd.func27, Tryd.ntmps27
    go_wp2_with fail
    refine (implVecOk' x y true _ h.out).mono ?_
    rintro e w1 ⟨rfl, B1⟩
    have H1 := Lib.hid (bl_trans (bl_alloc (bl_alloc (bl_refl w) _) _) B1)
    have V1 : VCell w1 (w.heap.size) x y := ((VCell.new _ _ x y _ (by first | rfl | simp)).alloc _).step B1
    have V2 : VCell w1 (w.heap.size + 1) 0 0 := (VCell.new _ _ 0 0 _ (by first | rfl | simp)).step B1
    clear B1
    have c1a := V1.c0
    have c1b := V1.c1
    have f1a := V1.f0
    have f1b := V1.f1
    have l1 := V1.lt
    have c2a := V2.c0
    have c2b := V2.c1
    have f2a := V2.f0
    have f2b := V2.f1
    have l2 := V2.lt
    go_wp2_with fail
    refine (implOk' k true _ g.out).mono ?_
    rintro e w' ⟨rfl, rfl⟩
    go_wp2_with fail
    refine (M1.out _).mono ?_
    rintro e w' ⟨rfl, rfl⟩
    go_wp2_with fail
    refine (M2.out _).mono ?_
    rintro e w' ⟨rfl, rfl⟩
    go_wp2_with fail
    refine (implVecOk' X Y false _ q.out).mono ?_
    rintro e w2 ⟨rfl, B2⟩
    have H2 := Lib.hid (bl_trans (bl_alloc (H1.out) _) B2)
    have V3 : VCell w2 w.heap.size x y := (V1.alloc _).step B2
    have V4 : VCell w2 (w.heap.size + 1) 0 0 := (V2.alloc _).step B2
    have V5 : VCell w2 (w1.heap.size) X Y := (VCell.new _ _ X Y _ (by first | rfl | simp)).step B2
    clear B2 H1 V1 c1a c1b f1a f1b l1 V2 c2a c2b f2a f2b l2
    have c3a := V3.c0
    have c3b := V3.c1
    have f3a := V3.f0
    have f3b := V3.f1
    have l3 := V3.lt
    have c4a := V4.c0
    have c4b := V4.c1
    have f4a := V4.f0
    have f4b := V4.f1
    have l4 := V4.lt
    have c5a := V5.c0
    have c5b := V5.c1
    have f5a := V5.f0
    have f5b := V5.f1
    have l5 := V5.lt
    go_wp2
    exact bodyPost_ret (v := .tuple #[vec 0 0, .bool false]) (by simp [results, Tryd.results27, go_sem, c4a, c4b]) rfl ⟨ret_vb (by rw [E.out.1]) (by rw [E.out.2.1]) (by rw [E.out.2.2]), by repeat (first | exact H2.out | refine bl_alloc ?_ _ | refine bl_set ?_ _ _ _ (by omega) | refine bl_drew ?_ _)⟩
  · have E := Lib.hid (vs_got h g q)
    obtain ⟨c1, c2⟩ := vok_cl_yes q
    rw [c1] at M1a
    rw [c2] at M2a
    have M1 := Lib.hid (show ∀ W : World, Calls Tryd.prog 58 #[.int .i64 x, .int .i64 k] W (fun e w' => e = .returned (.tuple #[.int .i64 (mu x k), .bool (okB (mu x k))]) ∧ W = w') from fun W => by have t := implMul x k W; rw [M1a, M1b] at t; exact t)
    have M2 := Lib.hid (show ∀ W : World, Calls Tryd.prog 58 #[.int .i64 y, .int .i64 k] W (fun e w' => e = .returned (.tuple #[.int .i64 (mu y k), .bool (okB (mu y k))]) ∧ W = w') from fun W => by have t := implMul y k W; rw [M2a, M2b] at t; exact t)
    clear M1a M1b M2a M2b c1 c2
    have h := Lib.hid h
    have g := Lib.hid g
    have q := Lib.hid q
    go_enter Tryd.func27, Tryd.ntmps27
    go_wp2_with fail
    refine (implVecOk' x y true _ h.out).mono ?_
    rintro e w1 ⟨rfl, B1⟩
    have H1 := Lib.hid (bl_trans (bl_alloc (bl_alloc (bl_refl w) _) _) B1)
    have V1 : VCell w1 (w.heap.size) x y := ((VCell.new _ _ x y _ (by first | rfl | simp)).alloc _).step B1
    have V2 : VCell w1 (w.heap.size + 1) 0 0 := (VCell.new _ _ 0 0 _ (by first | rfl | simp)).step B1
    clear B1
    have c1a := V1.c0
    have c1b := V1.c1
    have f1a := V1.f0
    have f1b := V1.f1
    have l1 := V1.lt
    have c2a := V2.c0
    have c2b := V2.c1
    have f2a := V2.f0
    have f2b := V2.f1
    have l2 := V2.lt
    go_wp2_with fail
    refine (implOk' k true _ g.out).mono ?_
    rintro e w' ⟨rfl, rfl⟩
    go_wp2_with fail
    refine (M1.out _).mono ?_
    rintro e w' ⟨rfl, rfl⟩
    go_wp2_with fail
    refine (M2.out _).mono ?_
    rintro e w' ⟨rfl, rfl⟩
    go_wp2_with fail
    refine (implVecOk' (mu x k) (mu y k) true _ q.out).mono ?_
    rintro e w2 ⟨rfl, B2⟩
    have H2 := Lib.hid (bl_trans (bl_alloc (H1.out) _) B2)
    have V3 : VCell w2 w.heap.size x y := (V1.alloc _).step B2
    have V4 : VCell w2 (w.heap.size + 1) 0 0 := (V2.alloc _).step B2
    have V5 : VCell w2 (w1.heap.size) (mu x k) (mu y k) := (VCell.new _ _ (mu x k) (mu y k) _ (by first | rfl | simp)).step B2
    clear B2 H1 V1 c1a c1b f1a f1b l1 V2 c2a c2b f2a f2b l2
    have c3a := V3.c0
    have c3b := V3.c1
    have f3a := V3.f0
    have f3b := V3.f1
    have l3 := V3.lt
    have c4a := V4.c0
    have c4b := V4.c1
    have f4a := V4.f0
    have f4b := V4.f1
    have l4 := V4.lt
    have c5a := V5.c0
    have c5b := V5.c1
    have f5a := V5.f0
    have f5b := V5.f1
    have l5 := V5.lt
    go_wp2
    exact bodyPost_ret (v := .tuple #[vec (mu x k) (mu y k), .bool true]) (by simp [results, Tryd.results27, go_sem, c4a, c4b]) rfl ⟨ret_vb (by rw [E.out.1]) (by rw [E.out.2.1]) (by rw [E.out.2.2]), by repeat (first | exact H2.out | refine bl_alloc ?_ _ | refine bl_set ?_ _ _ _ (by omega) | refine bl_drew ?_ _)⟩

end Go.Proofs.YtnoenjociioffaaDoor

namespace Go.Proofs.YtnoenjociioffaaDoor
open Go.RowKit
open M

set_option maxHeartbeats 400000 in
theorem implVLen0 (x y : Int) (w : World) (x1 : -1000000 ≤ x) (x2 : x ≤ 1000000) (y1 : -1000000 ≤ y) (y2 : y ≤ 1000000) : Calls Tryd.prog 89 #[vec x y] w fun e w' => e = .returned (.int .i64 (vl x y)) ∧ Below w.heap.size w w' := by
  have a := square_bd x1 x2
  have b := square_bd y1 y2
  go_enter Tryd.func89, Tryd.ntmps89
  go_wp2_with fail
  go_quiet (fail)
  go_wp2_with fail
  refine (implRoot _ _ (by omega) (by omega)).mono ?_
  rintro e w' ⟨rfl, rfl⟩
  go_wp2
  go_ret
  exact ⟨ret_int rfl, by repeat (first | exact bl_refl _ | refine bl_alloc ?_ _ | refine bl_drew ?_ _)⟩
theorem implVLen0' (x y L : Int) (w : World) (hL : vl x y = L) (x1 : -1000000 ≤ x) (x2 : x ≤ 1000000) (y1 : -1000000 ≤ y) (y2 : y ≤ 1000000) : Calls Tryd.prog 89 #[vec x y] w fun e w' => e = .returned (.int .i64 L) ∧ Below w.heap.size w w' := by
  subst hL
  exact implVLen0 x y w x1 x2 y1 y2

theorem implVLen (x y : Int) (w : World) : Calls Tryd.prog 54 #[vec x y] w fun e w' => e = .returned (.tuple #[.int .i64 (vlI x y), .bool (vokB x y)]) ∧ Below w.heap.size w w' := by
  cases h : vokB x y
  · have E := Lib.hid (vl_no h)
    have h := Lib.hid h
    go_enter Tryd.func54, Tryd.ntmps54
    go_wp2_with fail
    refine (implVecOk' x y false _ h.out).mono ?_
    rintro e w1 ⟨rfl, B1⟩
    have H1 := Lib.hid (bl_trans (bl_alloc (bl_refl w) _) B1)
    have V1 : VCell w1 (w.heap.size) x y := (VCell.new _ _ x y _ (by first | rfl | simp)).step B1
    clear B1
    have c1a := V1.c0
    have c1b := V1.c1
    have f1a := V1.f0
    have f1b := V1.f1
    have l1 := V1.lt
    go_wp2
    go_ret2
    exact ⟨ret_ib (by rw [E.out]) rfl, by repeat (first | exact H1.out | refine bl_alloc ?_ _ | refine bl_drew ?_ _)⟩
  · have E := Lib.hid (vl_yes h)
    obtain ⟨⟨x1, x2⟩, y1, y2⟩ := (vok_iff x y).1 h
    have h := Lib.hid h
    go_enter Tryd.func54, Tryd.ntmps54
    go_wp2_with fail
    refine (implVecOk' x y true _ h.out).mono ?_
    rintro e w1 ⟨rfl, B1⟩
    have H1 := Lib.hid (bl_trans (bl_alloc (bl_refl w) _) B1)
    have V1 : VCell w1 (w.heap.size) x y := (VCell.new _ _ x y _ (by first | rfl | simp)).step B1
    clear B1
    have c1a := V1.c0
    have c1b := V1.c1
    have f1a := V1.f0
    have f1b := V1.f1
    have l1 := V1.lt
    go_wp2_with fail
    refine (implVLen0 _ _ _ x1 x2 y1 y2).mono ?_
    rintro e w2 ⟨rfl, B2⟩
    have H2 := Lib.hid (bl_trans (H1.out) B2)
    have V2 : VCell w2 w.heap.size x y := V1.step B2
    clear B2 H1 V1 c1a c1b f1a f1b l1
    have c2a := V2.c0
    have c2b := V2.c1
    have f2a := V2.f0
    have f2b := V2.f1
    have l2 := V2.lt
    go_wp2
    go_ret2
    exact ⟨ret_ib (by rw [E.out]) rfl, by repeat (first | exact H2.out | refine bl_alloc ?_ _ | refine bl_drew ?_ _)⟩

/-- The contract of coordinateOk with its answer given. -/
theorem implCoord' (n : Int) (b : Bool) (w : World) (h : inB n (-1000000) 1000000 = b) : Calls Tryd.prog 87 #[.int .i64 n] w fun e w' => e = .returned (.bool b) ∧ w = w' := by
  subst h
  exact implCoord n w

set_option maxHeartbeats 1000000 in
theorem implVClamp (x y m : Int) (w : World) : Calls Tryd.prog 104 #[vec x y, .int .i64 m] w fun e w' => e = .returned (.tuple #[vec (cpX x y m) (cpY x y m), .bool (cpB x y m)]) ∧ Below w.heap.size w w' := by
  cases h : vokB x y
  · have E := Lib.hid (cp_no1 (m := m) h)
    have h := Lib.hid h
    go_enter Tryd.func104, Tryd.ntmps104
    go_wp2_with fail
    refine (implVecOk' x y false _ h.out).mono ?_
    rintro e w1 ⟨rfl, B1⟩
    have H1 := Lib.hid (bl_trans (bl_alloc (bl_alloc (bl_refl w) _) _) B1)
    have V1 : VCell w1 (w.heap.size) x y := ((VCell.new _ _ x y _ (by first | rfl | simp)).alloc _).step B1
    have V2 : VCell w1 (w.heap.size + 1) 0 0 := (VCell.new _ _ 0 0 _ (by first | rfl | simp)).step B1
    clear B1
    have c1a := V1.c0
    have c1b := V1.c1
    have f1a := V1.f0
    have f1b := V1.f1
    have l1 := V1.lt
    have c2a := V2.c0
    have c2b := V2.c1
    have f2a := V2.f0
    have f2b := V2.f1
    have l2 := V2.lt
    go_wp2
    exact bodyPost_ret (v := .tuple #[vec 0 0, .bool false]) (by simp [results, Tryd.results104, go_sem, c2a, c2b]) rfl ⟨ret_vb (by rw [E.out.1]) (by rw [E.out.2.1]) (by rw [E.out.2.2]), by repeat (first | exact H1.out | refine bl_alloc ?_ _ | refine bl_set ?_ _ _ _ (by omega) | refine bl_drew ?_ _)⟩
  by_cases m1 : m < 0
  · have E := Lib.hid (cp_no2 (x := x) (y := y) (in_neg m1))
    have h := Lib.hid h
    go_enter Tryd.func104, Tryd.ntmps104
    go_wp2_with fail
    refine (implVecOk' x y true _ h.out).mono ?_
    rintro e w1 ⟨rfl, B1⟩
    have H1 := Lib.hid (bl_trans (bl_alloc (bl_alloc (bl_refl w) _) _) B1)
    have V1 : VCell w1 (w.heap.size) x y := ((VCell.new _ _ x y _ (by first | rfl | simp)).alloc _).step B1
    have V2 : VCell w1 (w.heap.size + 1) 0 0 := (VCell.new _ _ 0 0 _ (by first | rfl | simp)).step B1
    clear B1
    have c1a := V1.c0
    have c1b := V1.c1
    have f1a := V1.f0
    have f1b := V1.f1
    have l1 := V1.lt
    have c2a := V2.c0
    have c2b := V2.c1
    have f2a := V2.f0
    have f2b := V2.f1
    have l2 := V2.lt
    go_wp2
    exact bodyPost_ret (v := .tuple #[vec 0 0, .bool false]) (by simp [results, Tryd.results104, go_sem, c2a, c2b]) rfl ⟨ret_vb (by rw [E.out.1]) (by rw [E.out.2.1]) (by rw [E.out.2.2]), by repeat (first | exact H1.out | refine bl_alloc ?_ _ | refine bl_set ?_ _ _ _ (by omega) | refine bl_drew ?_ _)⟩
  have m1 : 0 ≤ m := by omega
  cases g : inB m (-1000000) 1000000
  · have E := Lib.hid (cp_no2 (x := x) (y := y) (in_big m1 g))
    have h := Lib.hid h
    have g := Lib.hid g
    go_enter Tryd.func104, Tryd.ntmps104
    go_wp2_with fail
    refine (implVecOk' x y true _ h.out).mono ?_
    rintro e w1 ⟨rfl, B1⟩
    have H1 := Lib.hid (bl_trans (bl_alloc (bl_alloc (bl_refl w) _) _) B1)
    have V1 : VCell w1 (w.heap.size) x y := ((VCell.new _ _ x y _ (by first | rfl | simp)).alloc _).step B1
    have V2 : VCell w1 (w.heap.size + 1) 0 0 := (VCell.new _ _ 0 0 _ (by first | rfl | simp)).step B1
    clear B1
    have c1a := V1.c0
    have c1b := V1.c1
    have f1a := V1.f0
    have f1b := V1.f1
    have l1 := V1.lt
    have c2a := V2.c0
    have c2b := V2.c1
    have f2a := V2.f0
    have f2b := V2.f1
    have l2 := V2.lt
    go_wp2_with fail
    refine (implCoord' m false _ g.out).mono ?_
    rintro e w' ⟨rfl, rfl⟩
    go_wp2
    exact bodyPost_ret (v := .tuple #[vec 0 0, .bool false]) (by simp [results, Tryd.results104, go_sem, c2a, c2b]) rfl ⟨ret_vb (by rw [E.out.1]) (by rw [E.out.2.1]) (by rw [E.out.2.2]), by repeat (first | exact H1.out | refine bl_alloc ?_ _ | refine bl_set ?_ _ _ _ (by omega) | refine bl_drew ?_ _)⟩
  obtain ⟨gm, m2⟩ := in_mk m1 g
  obtain ⟨⟨x1, x2⟩, y1, y2⟩ := (vok_iff x y).1 h
  obtain ⟨l1, l2⟩ := vl_bd x1 x2 y1 y2
  by_cases c : vl x y ≤ m
  · have E := Lib.hid (cp_in h gm c)
    obtain ⟨L, hL⟩ : ∃ L, vl x y = L := ⟨_, rfl⟩
    rw [hL] at c l1 l2
    have hL := Lib.hid hL
    clear gm
    have h := Lib.hid h
    have g := Lib.hid g
    go_enter Tryd.func104, Tryd.ntmps104
    go_wp2_with fail
    refine (implVecOk' x y true _ h.out).mono ?_
    rintro e w1 ⟨rfl, B1⟩
    have H1 := Lib.hid (bl_trans (bl_alloc (bl_alloc (bl_refl w) _) _) B1)
    have V1 : VCell w1 (w.heap.size) x y := ((VCell.new _ _ x y _ (by first | rfl | simp)).alloc _).step B1
    have V2 : VCell w1 (w.heap.size + 1) 0 0 := (VCell.new _ _ 0 0 _ (by first | rfl | simp)).step B1
    clear B1
    have c1a := V1.c0
    have c1b := V1.c1
    have f1a := V1.f0
    have f1b := V1.f1
    have l1 := V1.lt
    have c2a := V2.c0
    have c2b := V2.c1
    have f2a := V2.f0
    have f2b := V2.f1
    have l2 := V2.lt
    go_wp2_with fail
    refine (implCoord' m true _ g.out).mono ?_
    rintro e w' ⟨rfl, rfl⟩
    go_wp2_with fail
    refine (implVLen0' _ _ L _ hL.out x1 x2 y1 y2).mono ?_
    rintro e w2 ⟨rfl, B2⟩
    have H2 := Lib.hid (bl_trans (H1.out) B2)
    have V3 : VCell w2 w.heap.size x y := V1.step B2
    have V4 : VCell w2 (w.heap.size + 1) 0 0 := V2.step B2
    clear B2 H1 V1 c1a c1b f1a f1b l1 V2 c2a c2b f2a f2b l2
    have c3a := V3.c0
    have c3b := V3.c1
    have f3a := V3.f0
    have f3b := V3.f1
    have l3 := V3.lt
    have c4a := V4.c0
    have c4b := V4.c1
    have f4a := V4.f0
    have f4b := V4.f1
    have l4 := V4.lt
    go_wp2
    exact bodyPost_ret (v := .tuple #[vec x y, .bool true]) (by simp [results, Tryd.results104, go_sem, c4a, c4b]) rfl ⟨ret_vb (by rw [E.out.1]) (by rw [E.out.2.1]) (by rw [E.out.2.2]), by repeat (first | exact H2.out | refine bl_alloc ?_ _ | refine bl_set ?_ _ _ _ (by omega) | refine bl_drew ?_ _)⟩
  · have E := Lib.hid (cp_out h gm c)
    have p1 := mul_bd (a := x) (b := m) (by omega) (by omega) (by omega) (by omega)
    have p2 := mul_bd (a := y) (b := m) (by omega) (by omega) (by omega) (by omega)
    have s1 := clamp_bd (n := vl x y) x1 x2 m1 m2
    have s2 := clamp_bd (n := vl x y) y1 y2 m1 m2
    have n0 : vl x y ≠ 0 := by omega
    have w1' : IntKind.i64.wrap (x * m) = x * m := IntWalk.i64_in _ (by omega)
    have w2' : IntKind.i64.wrap (y * m) = y * m := IntWalk.i64_in _ (by omega)
    have w3' : IntKind.i64.wrap ((x * m).tdiv (vl x y)) = (x * m).tdiv (vl x y) := IntWalk.i64_in _ (by omega)
    have w4' : IntKind.i64.wrap ((y * m).tdiv (vl x y)) = (y * m).tdiv (vl x y) := IntWalk.i64_in _ (by omega)
    have n1 : m < vl x y := by omega
    clear gm c
    obtain ⟨L, hL⟩ : ∃ L, vl x y = L := ⟨_, rfl⟩
    rw [hL] at E s1 s2 n0 n1 w3' w4' l1 l2
    have hL := Lib.hid hL
    have h := Lib.hid h
    have g := Lib.hid g
    go_enter Tryd.func104, Tryd.ntmps104
    go_wp2_with fail
    refine (implVecOk' x y true _ h.out).mono ?_
    rintro e w1 ⟨rfl, B1⟩
    have H1 := Lib.hid (bl_trans (bl_alloc (bl_alloc (bl_refl w) _) _) B1)
    have V1 : VCell w1 (w.heap.size) x y := ((VCell.new _ _ x y _ (by first | rfl | simp)).alloc _).step B1
    have V2 : VCell w1 (w.heap.size + 1) 0 0 := (VCell.new _ _ 0 0 _ (by first | rfl | simp)).step B1
    clear B1
    have c1a := V1.c0
    have c1b := V1.c1
    have f1a := V1.f0
    have f1b := V1.f1
    have l1 := V1.lt
    have c2a := V2.c0
    have c2b := V2.c1
    have f2a := V2.f0
    have f2b := V2.f1
    have l2 := V2.lt
    go_wp2_with fail
    refine (implCoord' m true _ g.out).mono ?_
    rintro e w' ⟨rfl, rfl⟩
    go_wp2_with fail
    refine (implVLen0' _ _ L _ hL.out x1 x2 y1 y2).mono ?_
    rintro e w2 ⟨rfl, B2⟩
    have H2 := Lib.hid (bl_trans (H1.out) B2)
    have V3 : VCell w2 w.heap.size x y := V1.step B2
    have V4 : VCell w2 (w.heap.size + 1) 0 0 := V2.step B2
    clear B2 H1 V1 c1a c1b f1a f1b l1 V2 c2a c2b f2a f2b l2
    have c3a := V3.c0
    have c3b := V3.c1
    have f3a := V3.f0
    have f3b := V3.f1
    have l3 := V3.lt
    have c4a := V4.c0
    have c4b := V4.c1
    have f4a := V4.f0
    have f4b := V4.f1
    have l4 := V4.lt
    go_wp2
    exact bodyPost_ret (v := .tuple #[vec ((x * m).tdiv L) ((y * m).tdiv L), .bool true]) (by simp [results, Tryd.results104, go_sem, c4a, c4b]) rfl ⟨ret_vb (by rw [E.out.1]) (by rw [E.out.2.1]) (by rw [E.out.2.2]), by repeat (first | exact H2.out | refine bl_alloc ?_ _ | refine bl_set ?_ _ _ _ (by omega) | refine bl_drew ?_ _)⟩

end Go.Proofs.YtnoenjociioffaaDoor
