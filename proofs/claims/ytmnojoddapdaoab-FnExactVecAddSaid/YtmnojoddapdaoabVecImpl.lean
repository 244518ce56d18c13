/-
  What the program's own functions of chapter 2 return, at every argument: the contracts.
-/
import Derived.Test.YtmnojoddapdaoabVecC
namespace Go.Proofs.Ytmnojoddapdaoab
open Go.RowKit
open M

/-- A vector in memory that may be written. -/
structure VCell (w : World) (b : Nat) (x y : Int) : Prop where
  c0 : w.cell? ⟨b, 0, none⟩ = some (.int .i64 x)
  c1 : w.cell? ⟨b, 1, none⟩ = some (.int .i64 y)
  f0 : w.frozen? ⟨b, 0, none⟩ = false
  f1 : w.frozen? ⟨b, 1, none⟩ = false
  lt : b < w.heap.size
theorem VCell.step {W w' : World} {b : Nat} {x y : Int} (h : VCell W b x y) (B : Below W.heap.size W w') : VCell w' b x y :=
  ⟨(B.cell (p := ⟨b, 0, none⟩) h.lt).trans h.c0, (B.cell (p := ⟨b, 1, none⟩) h.lt).trans h.c1, (B.frozen (p := ⟨b, 0, none⟩) h.lt).trans h.f0, (B.frozen (p := ⟨b, 1, none⟩) h.lt).trans h.f1, Nat.lt_of_lt_of_le h.lt B.size⟩
theorem VCell.alloc {W : World} {b : Nat} {x y : Int} (h : VCell W b x y) (o : Obj) : VCell (W.alloc o) b x y := h.step (bl_alloc (bl_refl W) o)
theorem VCell.new (W : World) (b : Nat) (x y : Int) (t : TypeId) (hb : b = W.heap.size) : VCell (W.alloc (.cells #[.int .i64 x, .int .i64 y] t)) b x y := by
  subst hb
  exact ⟨by simp, by simp, by simp, by simp, by simp⟩

theorem prod_bd {a b : Int} (a1 : -1000000 ≤ a) (a2 : a ≤ 1000000) (b1 : -1000000 ≤ b) (b2 : b ≤ 1000000) : -1000000000 ≤ mu a b ∧ mu a b ≤ 1000000000 := by
  have h : (mu a b).natAbs ≤ 1000000 * 1000000 / 1000 := by
    unfold mu
    rw [Int.natAbs_tdiv, Int.natAbs_mul]
    exact Nat.div_le_div_right (Nat.mul_le_mul (by omega) (by omega))
  omega
theorem mul_cl {a b : Int} (ha : okB a = true) (hb : okB b = true) : mulI a b = cl (mu a b) ∧ mulB a b = okB (mu a b) := mul_yes ha hb
theorem mul_in {a b : Int} (a1 : -1000000 ≤ a) (a2 : a ≤ 1000000) (b1 : -1000000 ≤ b) (b2 : b ≤ 1000000) : mulI a b = mu a b ∧ mulB a b = true := by
  have p := prod_bd a1 a2 b1 b2
  obtain ⟨h1, h2⟩ := mul_cl (a := a) (b := b) (ok_yes (by omega)) (ok_yes (by omega))
  exact ⟨h1.trans (cl_id (by omega)), h2.trans (ok_yes (by omega))⟩
theorem add_in {a b : Int} (a1 : -1000000000 ≤ a) (a2 : a ≤ 1000000000) (b1 : -1000000000 ≤ b) (b2 : b ≤ 1000000000) : addI a b = a + b ∧ addB a b = true := by
  obtain ⟨h1, h2⟩ := add_yes (a := a) (b := b) (ok_yes (by omega)) (ok_yes (by omega))
  exact ⟨h1.trans (cl_id (by omega)), h2.trans (ok_yes (by omega))⟩
theorem vok_cl_no {a b : Int} (h : vokB a b = false) : vokB (cl a) (cl b) = false := by
  have g := vok_false h
  refine vok_no fun k => g ?_
  rcases cl_three a with ⟨p, q, _⟩ | ⟨p, q, _⟩ | ⟨p, p2, q, _⟩ <;> rcases cl_three b with ⟨r, s, _⟩ | ⟨r, s, _⟩ | ⟨r, r2, s, _⟩ <;> rw [q, s] at k <;> omega
theorem vok_cl_yes {a b : Int} (h : vokB a b = true) : cl a = a ∧ cl b = b := by
  have g := (vok_iff a b).1 h
  exact ⟨cl_id (by omega), cl_id (by omega)⟩
theorem in_neg {m : Int} (h : m < 0) : inB m 0 1000000 = false := inB_no (by omega)
theorem in_big {m : Int} (h0 : 0 ≤ m) (h : inB m (-1000000) 1000000 = false) : inB m 0 1000000 = false := inB_no fun g => by
  rw [inB_yes (by omega)] at h; cases h
theorem in_mk {m : Int} (h0 : 0 ≤ m) (h : inB m (-1000000) 1000000 = true) : inB m 0 1000000 = true ∧ m ≤ 1000000 := by
  have g : -1000000 ≤ m ∧ m ≤ 1000000 := by simpa [inB] using h
  exact ⟨inB_yes (by omega), by omega⟩

theorem implCoord (n : Int) (w : World) : Calls Try.prog 33 #[.int .i64 n] w fun e w' => e = .returned (.bool (inB n (-1000000) 1000000)) ∧ w = w' := by
  by_cases h1 : -1000000 ≤ n
  · by_cases h2 : n ≤ 1000000
    · have E := Lib.hid (inB_yes (n := n) ⟨h1, h2⟩)
      go_enter Try.func33, Try.ntmps33
      go_wp2
      go_ret
      exact ⟨ret_b (by rw [E.out]), rfl⟩
    · have E := Lib.hid (inB_no (n := n) (lo := -1000000) (hi := 1000000) (by omega))
      go_enter Try.func33, Try.ntmps33
      go_wp2
      go_ret
      exact ⟨ret_b (by rw [E.out]), rfl⟩
  · have E := Lib.hid (inB_no (n := n) (lo := -1000000) (hi := 1000000) (by omega))
    go_enter Try.func33, Try.ntmps33
    go_wp2
    go_ret
    exact ⟨ret_b (by rw [E.out]), rfl⟩

theorem implVecOk (x y : Int) (w : World) : Calls Try.prog 17 #[vec x y] w fun e w' => e = .returned (.bool (vokB x y)) ∧ Below w.heap.size w w' := by
  cases hx : inB x (-1000000) 1000000
  · have E := Lib.hid (vok_no1 (y := y) hx)
    go_enter Try.func17, Try.ntmps17
    go_wp2_with (go_at_call 33; refine (implCoord _ _).mono ?_; rintro e w' ⟨rfl, rfl⟩)
    go_ret
    exact ⟨ret_b (by rw [E.out]), bl_alloc (Below.refl _ _) _⟩
  · have E := Lib.hid (vok_yes1 (y := y) hx)
    go_enter Try.func17, Try.ntmps17
    go_wp2_with (go_at_call 33; refine (implCoord _ _).mono ?_; rintro e w' ⟨rfl, rfl⟩)
    go_ret
    exact ⟨ret_b (by rw [E.out]), bl_alloc (Below.refl _ _) _⟩

/-- The contract of VecOk with its answer given. -/
theorem implVecOk' (x y : Int) (b : Bool) (w : World) (h : vokB x y = b) : Calls Try.prog 17 #[vec x y] w fun e w' => e = .returned (.bool b) ∧ Below w.heap.size w w' := by
  subst h
  exact implVecOk x y w

theorem va_out {x y u v : Int} (h : vokB x y = true) (g : vokB u v = true) (k : vokB (x + u) (y + v) = false) : vaX x y u v = 0 ∧ vaY x y u v = 0 ∧ vaB x y u v = false := by
  obtain ⟨e1, e2, e3⟩ := va_yes h g
  obtain ⟨r1, r2⟩ := rng_no k
  exact ⟨e1.trans r1, e2.trans r2, e3.trans k⟩
theorem va_got {x y u v : Int} (h : vokB x y = true) (g : vokB u v = true) (k : vokB (x + u) (y + v) = true) : vaX x y u v = x + u ∧ vaY x y u v = y + v ∧ vaB x y u v = true := by
  obtain ⟨e1, e2, e3⟩ := va_yes h g
  obtain ⟨r1, r2⟩ := rng_yes k
  exact ⟨e1.trans r1, e2.trans r2, e3.trans k⟩

set_option maxHeartbeats 1000000 in
theorem implVAdd (x y u v : Int) (w : World) : Calls Try.prog 19 #[vec x y, vec u v] w fun e w' => e = .returned (.tuple #[vec (vaX x y u v) (vaY x y u v), .bool (vaB x y u v)]) ∧ Below w.heap.size w w' := by
  cases h : vokB x y
  · have E := Lib.hid (va_no1 (u := u) (v := v) h)
    have h := Lib.hid h
    go_enter Try.func19, Try.ntmps19
    go_wp2_with fail
    refine (implVecOk' x y false _ h.out).mono ?_
    rintro e w1 ⟨rfl, B1⟩
    have H1 := Lib.hid (bl_trans (bl_alloc (bl_alloc (bl_alloc (bl_refl w) _) _) _) B1)
    have V1 : VCell w1 (w.heap.size) x y := (((VCell.new _ _ x y _ (by first | rfl | simp)).alloc _).alloc _).step B1
    have V2 : VCell w1 (w.heap.size + 1) u v := ((VCell.new _ _ u v _ (by first | rfl | simp)).alloc _).step B1
    have V3 : VCell w1 (w.heap.size + 1 + 1) 0 0 := (VCell.new _ _ 0 0 _ (by first | rfl | simp)).step B1
    clear B1
    have c1a := V1.c0
    have c1b := V1.c1
    have f1a := V1.f0
    have f1b := V1.f1
    have l1 := V1.lt
    have c2a := V2.c0
    have c2b := V2.c1
    have f2a := V2.f0
    have f2b := V2.f1
    have l2 := V2.lt
    have c3a := V3.c0
    have c3b := V3.c1
    have f3a := V3.f0
    have f3b := V3.f1
    have l3 := V3.lt
    go_wp2
    exact bodyPost_ret (v := .tuple #[vec 0 0, .bool false]) (by simp [results, Try.results19, go_sem, c1a, c1b, c2a, c2b, c3a, c3b]) rfl ⟨ret_vb (by rw [E.out.1]) (by rw [E.out.2.1]) (by rw [E.out.2.2]), by repeat (first | exact H1.out | refine bl_alloc ?_ _ | refine bl_set ?_ _ _ _ (by omega) | refine bl_drew ?_ _)⟩
  cases g : vokB u v
  · have E := Lib.hid (va_no2 (x := x) (y := y) g)
    have h := Lib.hid h
    have g := Lib.hid g
    go_enter Try.func19, Try.ntmps19
    go_wp2_with fail
    refine (implVecOk' x y true _ h.out).mono ?_
    rintro e w1 ⟨rfl, B1⟩
    have H1 := Lib.hid (bl_trans (bl_alloc (bl_alloc (bl_alloc (bl_refl w) _) _) _) B1)
    have V1 : VCell w1 (w.heap.size) x y := (((VCell.new _ _ x y _ (by first | rfl | simp)).alloc _).alloc _).step B1
    have V2 : VCell w1 (w.heap.size + 1) u v := ((VCell.new _ _ u v _ (by first | rfl | simp)).alloc _).step B1
    have V3 : VCell w1 (w.heap.size + 1 + 1) 0 0 := (VCell.new _ _ 0 0 _ (by first | rfl | simp)).step B1
    clear B1
    have c1a := V1.c0
    have c1b := V1.c1
    have f1a := V1.f0
    have f1b := V1.f1
    have l1 := V1.lt
    have c2a := V2.c0
    have c2b := V2.c1
    have f2a := V2.f0
    have f2b := V2.f1
    have l2 := V2.lt
    have c3a := V3.c0
    have c3b := V3.c1
    have f3a := V3.f0
    have f3b := V3.f1
    have l3 := V3.lt
    go_wp2_with fail
    refine (implVecOk' u v false _ g.out).mono ?_
    rintro e w2 ⟨rfl, B2⟩
    have H2 := Lib.hid (bl_trans (H1.out) B2)
    have V4 : VCell w2 w.heap.size x y := V1.step B2
    have V5 : VCell w2 (w.heap.size + 1) u v := V2.step B2
    have V6 : VCell w2 (w.heap.size + 1 + 1) 0 0 := V3.step B2
    clear B2 H1 V1 c1a c1b f1a f1b l1 V2 c2a c2b f2a f2b l2 V3 c3a c3b f3a f3b l3
    have c4a := V4.c0
    have c4b := V4.c1
    have f4a := V4.f0
    have f4b := V4.f1
    have l4 := V4.lt
    have c5a := V5.c0
    have c5b := V5.c1
    have f5a := V5.f0
    have f5b := V5.f1
    have l5 := V5.lt
    have c6a := V6.c0
    have c6b := V6.c1
    have f6a := V6.f0
    have f6b := V6.f1
    have l6 := V6.lt
    go_wp2
    exact bodyPost_ret (v := .tuple #[vec 0 0, .bool false]) (by simp [results, Try.results19, go_sem, c4a, c4b, c5a, c5b, c6a, c6b]) rfl ⟨ret_vb (by rw [E.out.1]) (by rw [E.out.2.1]) (by rw [E.out.2.2]), by repeat (first | exact H2.out | refine bl_alloc ?_ _ | refine bl_set ?_ _ _ _ (by omega) | refine bl_drew ?_ _)⟩
  obtain ⟨⟨x1, x2⟩, y1, y2⟩ := (vok_iff x y).1 h
  obtain ⟨⟨u1, u2⟩, v1, v2⟩ := (vok_iff u v).1 g
  cases k : vokB (x + u) (y + v)
  · have E := Lib.hid (va_out h g k)
    have h := Lib.hid h
    have g := Lib.hid g
    have k := Lib.hid k
    go_enter Try.func19, Try.ntmps19
    go_wp2_with fail
    refine (implVecOk' x y true _ h.out).mono ?_
    rintro e w1 ⟨rfl, B1⟩
    have H1 := Lib.hid (bl_trans (bl_alloc (bl_alloc (bl_alloc (bl_refl w) _) _) _) B1)
    have V1 : VCell w1 (w.heap.size) x y := (((VCell.new _ _ x y _ (by first | rfl | simp)).alloc _).alloc _).step B1
    have V2 : VCell w1 (w.heap.size + 1) u v := ((VCell.new _ _ u v _ (by first | rfl | simp)).alloc _).step B1
    have V3 : VCell w1 (w.heap.size + 1 + 1) 0 0 := (VCell.new _ _ 0 0 _ (by first | rfl | simp)).step B1
    clear B1
    have c1a := V1.c0
    have c1b := V1.c1
    have f1a := V1.f0
    have f1b := V1.f1
    have l1 := V1.lt
    have c2a := V2.c0
    have c2b := V2.c1
    have f2a := V2.f0
    have f2b := V2.f1
    have l2 := V2.lt
    have c3a := V3.c0
    have c3b := V3.c1
    have f3a := V3.f0
    have f3b := V3.f1
    have l3 := V3.lt
    go_wp2_with fail
    refine (implVecOk' u v true _ g.out).mono ?_
    rintro e w2 ⟨rfl, B2⟩
    have H2 := Lib.hid (bl_trans (H1.out) B2)
    have V4 : VCell w2 w.heap.size x y := V1.step B2
    have V5 : VCell w2 (w.heap.size + 1) u v := V2.step B2
    have V6 : VCell w2 (w.heap.size + 1 + 1) 0 0 := V3.step B2
    clear B2 H1 V1 c1a c1b f1a f1b l1 V2 c2a c2b f2a f2b l2 V3 c3a c3b f3a f3b l3
    have c4a := V4.c0
    have c4b := V4.c1
    have f4a := V4.f0
    have f4b := V4.f1
    have l4 := V4.lt
    have c5a := V5.c0
    have c5b := V5.c1
    have f5a := V5.f0
    have f5b := V5.f1
    have l5 := V5.lt
    have c6a := V6.c0
    have c6b := V6.c1
    have f6a := V6.f0
    have f6b := V6.f1
    have l6 := V6.lt
    go_wp2_with fail
    refine (implVecOk' (x + u) (y + v) false _ k.out).mono ?_
    rintro e w3 ⟨rfl, B3⟩
    have H3 := Lib.hid (bl_trans (bl_alloc (H2.out) _) B3)
    have V7 : VCell w3 w.heap.size x y := (V4.alloc _).step B3
    have V8 : VCell w3 (w.heap.size + 1) u v := (V5.alloc _).step B3
    have V9 : VCell w3 (w.heap.size + 1 + 1) 0 0 := (V6.alloc _).step B3
    have V10 : VCell w3 (w2.heap.size) (x + u) (y + v) := (VCell.new _ _ (x + u) (y + v) _ (by first | rfl | simp)).step B3
    clear B3 H2 V4 c4a c4b f4a f4b l4 V5 c5a c5b f5a f5b l5 V6 c6a c6b f6a f6b l6
    have c7a := V7.c0
    have c7b := V7.c1
    have f7a := V7.f0
    have f7b := V7.f1
    have l7 := V7.lt
    have c8a := V8.c0
    have c8b := V8.c1
    have f8a := V8.f0
    have f8b := V8.f1
    have l8 := V8.lt
    have c9a := V9.c0
    have c9b := V9.c1
    have f9a := V9.f0
    have f9b := V9.f1
    have l9 := V9.lt
    have c10a := V10.c0
    have c10b := V10.c1
    have f10a := V10.f0
    have f10b := V10.f1
    have l10 := V10.lt
    go_wp2
    exact bodyPost_ret (v := .tuple #[vec 0 0, .bool false]) (by simp [results, Try.results19, go_sem, c7a, c7b, c8a, c8b, c9a, c9b, c10a, c10b]) rfl ⟨ret_vb (by rw [E.out.1]) (by rw [E.out.2.1]) (by rw [E.out.2.2]), by repeat (first | exact H3.out | refine bl_alloc ?_ _ | refine bl_set ?_ _ _ _ (by omega) | refine bl_drew ?_ _)⟩
  · have E := Lib.hid (va_got h g k)
    have h := Lib.hid h
    have g := Lib.hid g
    have k := Lib.hid k
    go_enter Try.func19, Try.ntmps19
    go_wp2_with fail
    refine (implVecOk' x y true _ h.out).mono ?_
    rintro e w1 ⟨rfl, B1⟩
    have H1 := Lib.hid (bl_trans (bl_alloc (bl_alloc (bl_alloc (bl_refl w) _) _) _) B1)
    have V1 : VCell w1 (w.heap.size) x y := (((VCell.new _ _ x y _ (by first | rfl | simp)).alloc _).alloc _).step B1
    have V2 : VCell w1 (w.heap.size + 1) u v := ((VCell.new _ _ u v _ (by first | rfl | simp)).alloc _).step B1
    have V3 : VCell w1 (w.heap.size + 1 + 1) 0 0 := (VCell.new _ _ 0 0 _ (by first | rfl | simp)).step B1
    clear B1
    have c1a := V1.c0
    have c1b := V1.c1
    have f1a := V1.f0
    have f1b := V1.f1
    have l1 := V1.lt
    have c2a := V2.c0
    have c2b := V2.c1
    have f2a := V2.f0
    have f2b := V2.f1
    have l2 := V2.lt
    have c3a := V3.c0
    have c3b := V3.c1
    have f3a := V3.f0
    have f3b := V3.f1
    have l3 := V3.lt
    go_wp2_with fail
    refine (implVecOk' u v true _ g.out).mono ?_
    rintro e w2 ⟨rfl, B2⟩
    have H2 := Lib.hid (bl_trans (H1.out) B2)
    have V4 : VCell w2 w.heap.size x y := V1.step B2
    have V5 : VCell w2 (w.heap.size + 1) u v := V2.step B2
    have V6 : VCell w2 (w.heap.size + 1 + 1) 0 0 := V3.step B2
    clear B2 H1 V1 c1a c1b f1a f1b l1 V2 c2a c2b f2a f2b l2 V3 c3a c3b f3a f3b l3
    have c4a := V4.c0
    have c4b := V4.c1
    have f4a := V4.f0
    have f4b := V4.f1
    have l4 := V4.lt
    have c5a := V5.c0
    have c5b := V5.c1
    have f5a := V5.f0
    have f5b := V5.f1
    have l5 := V5.lt
    have c6a := V6.c0
    have c6b := V6.c1
    have f6a := V6.f0
    have f6b := V6.f1
    have l6 := V6.lt
    go_wp2_with fail
    refine (implVecOk' (x + u) (y + v) true _ k.out).mono ?_
    rintro e w3 ⟨rfl, B3⟩
    have H3 := Lib.hid (bl_trans (bl_alloc (H2.out) _) B3)
    have V7 : VCell w3 w.heap.size x y := (V4.alloc _).step B3
    have V8 : VCell w3 (w.heap.size + 1) u v := (V5.alloc _).step B3
    have V9 : VCell w3 (w.heap.size + 1 + 1) 0 0 := (V6.alloc _).step B3
    have V10 : VCell w3 (w2.heap.size) (x + u) (y + v) := (VCell.new _ _ (x + u) (y + v) _ (by first | rfl | simp)).step B3
    clear B3 H2 V4 c4a c4b f4a f4b l4 V5 c5a c5b f5a f5b l5 V6 c6a c6b f6a f6b l6
    have c7a := V7.c0
    have c7b := V7.c1
    have f7a := V7.f0
    have f7b := V7.f1
    have l7 := V7.lt
    have c8a := V8.c0
    have c8b := V8.c1
    have f8a := V8.f0
    have f8b := V8.f1
    have l8 := V8.lt
    have c9a := V9.c0
    have c9b := V9.c1
    have f9a := V9.f0
    have f9b := V9.f1
    have l9 := V9.lt
    have c10a := V10.c0
    have c10b := V10.c1
    have f10a := V10.f0
    have f10b := V10.f1
    have l10 := V10.lt
    go_wp2
    exact bodyPost_ret (v := .tuple #[vec (x + u) (y + v), .bool true]) (by simp [results, Try.results19, go_sem, c7a, c7b, c8a, c8b, c9a, c9b, c10a, c10b]) rfl ⟨ret_vb (by rw [E.out.1]) (by rw [E.out.2.1]) (by rw [E.out.2.2]), by repeat (first | exact H3.out | refine bl_alloc ?_ _ | refine bl_set ?_ _ _ _ (by omega) | refine bl_drew ?_ _)⟩

end Go.Proofs.Ytmnojoddapdaoab
