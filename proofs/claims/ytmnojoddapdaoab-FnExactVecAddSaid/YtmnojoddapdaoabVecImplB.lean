/-
  More contracts of the program's own functions of chapter 2.
-/
import Derived.Test.YtmnojoddapdaoabVecImpl
namespace Go.Proofs.Ytmnojoddapdaoab
open Go.RowKit
open M

/-- The contract of FixOk with its answer given. -/
theorem implOk' (n : Int) (b : Bool) (w : World) (h : okB n = b) : Calls Try.prog 43 #[.int .i64 n] w fun e w' => e = .returned (.bool b) ∧ w = w' := by
  subst h
  exact implOk n w
theorem vs_out {x y k : Int} (h : vokB x y = true) (g : okB k = true) (q : vokB (mu x k) (mu y k) = false) : vsX x y k = 0 ∧ vsY x y k = 0 ∧ vsB x y k = false := by
  obtain ⟨e1, e2, e3⟩ := vs_yes h g
  obtain ⟨r1, r2⟩ := rng_no q
  exact ⟨e1.trans r1, e2.trans r2, e3.trans q⟩
theorem vs_got {x y k : Int} (h : vokB x y = true) (g : okB k = true) (q : vokB (mu x k) (mu y k) = true) : vsX x y k = mu x k ∧ vsY x y k = mu y k ∧ vsB x y k = true := by
  obtain ⟨e1, e2, e3⟩ := vs_yes h g
  obtain ⟨r1, r2⟩ := rng_yes q
  exact ⟨e1.trans r1, e2.trans r2, e3.trans q⟩

set_option maxHeartbeats 1000000 in
theorem implVScale (x y k : Int) (w : World) : Calls Try.prog 28 #[vec x y, .int .i64 k] w fun e w' => e = .returned (.tuple #[vec (vsX x y k) (vsY x y k), .bool (vsB x y k)]) ∧ Below w.heap.size w w' := by
  cases h : vokB x y
  · have E := Lib.hid (vs_no1 (k := k) h)
    have h := Lib.hid h
    go_enter Try.func28, Try.ntmps28
    go_wp2_with fail
    refine (implVecOk' x y false _ h.out).mono ?_
    rintro e w1 ⟨rfl, B1⟩
    have H1 := Lib.hid (bl_trans (bl_alloc (bl_alloc (bl_refl w) _) _) B1)
    have V1 : VCell w1 (w.heap.size) x y := ((VCell.new _ _ x y _ (by first | rfl | simp)).alloc _).step B1
    have V2 : VCell w1 (w.heap.size + 1) 0 0 := (VCell.new _ _ 0 0 _ (by first | rfl | simp)).step B1
    clear B1
    have c1a := V1.c0
    have c1b := V1.c1
    have f1a := V1.f0
    have f1b := V1.f1
    have l1 := V1.lt
    have c2a := V2.c0
    have c2b := V2.c1
    have f2a := V2.f0
    have f2b := V2.f1
    have l2 := V2.lt
    go_wp2
    exact bodyPost_ret (v := .tuple #[vec 0 0, .bool false]) (by simp [results, Try.results28, go_sem, c1a, c1b, c2a, c2b]) rfl ⟨ret_vb (by rw [E.out.1]) (by rw [E.out.2.1]) (by rw [E.out.2.2]), by repeat (first | exact H1.out | refine bl_alloc ?_ _ | refine bl_set ?_ _ _ _ (by omega) | refine bl_drew ?_ _)⟩
  cases g : okB k
  · have E := Lib.hid (vs_no2 (x := x) (y := y) g)
    have h := Lib.hid h
    have g := Lib.hid g
    go_enter Try.func28, Try.ntmps28
    go_wp2_with fail
    refine (implVecOk' x y true _ h.out).mono ?_
    rintro e w1 ⟨rfl, B1⟩
    have H1 := Lib.hid (bl_trans (bl_alloc (bl_alloc (bl_refl w) _) _) B1)
    have V1 : VCell w1 (w.heap.size) x y := ((VCell.new _ _ x y _ (by first | rfl | simp)).alloc _).step B1
    have V2 : VCell w1 (w.heap.size + 1) 0 0 := (VCell.new _ _ 0 0 _ (by first | rfl | simp)).step B1
    clear B1
    have c1a := V1.c0
    have c1b := V1.c1
    have f1a := V1.f0
    have f1b := V1.f1
    have l1 := V1.lt
    have c2a := V2.c0
    have c2b := V2.c1
    have f2a := V2.f0
    have f2b := V2.f1
    have l2 := V2.lt
    go_wp2_with fail
    refine (implOk' k false _ g.out).mono ?_
    rintro e w' ⟨rfl, rfl⟩
    go_wp2
    exact bodyPost_ret (v := .tuple #[vec 0 0, .bool false]) (by simp [results, Try.results28, go_sem, c1a, c1b, c2a, c2b]) rfl ⟨ret_vb (by rw [E.out.1]) (by rw [E.out.2.1]) (by rw [E.out.2.2]), by repeat (first | exact H1.out | refine bl_alloc ?_ _ | refine bl_set ?_ _ _ _ (by omega) | refine bl_drew ?_ _)⟩
  obtain ⟨⟨x1, x2⟩, y1, y2⟩ := (vok_iff x y).1 h
  obtain ⟨k1, k2⟩ := (ok_iff k).1 g
  obtain ⟨M1a, M1b⟩ := mul_cl (a := x) (ok_yes (by omega)) g
  obtain ⟨M2a, M2b⟩ := mul_cl (a := y) (ok_yes (by omega)) g
  cases q : vokB (mu x k) (mu y k)
  · have E := Lib.hid (vs_out h g q)
    have q := vok_cl_no q
    obtain ⟨X, hX⟩ : ∃ X, cl (mu x k) = X := ⟨_, rfl⟩
    obtain ⟨Y, hY⟩ : ∃ Y, cl (mu y k) = Y := ⟨_, rfl⟩
    obtain ⟨b1, hb1⟩ : ∃ b, okB (mu x k) = b := ⟨_, rfl⟩
    obtain ⟨b2, hb2⟩ : ∃ b, okB (mu y k) = b := ⟨_, rfl⟩
    rw [hX, hY] at q
    rw [hX] at M1a
    rw [hY] at M2a
    rw [hb1] at M1b
    rw [hb2] at M2b
    have M1 := Lib.hid (show ∀ W : World, Calls Try.prog 38 #[.int .i64 x, .int .i64 k] W (fun e w' => e = .returned (.tuple #[.int .i64 X, .bool b1]) ∧ W = w') from fun W => by have t := implMul x k W; rw [M1a, M1b] at t; exact t)
    have M2 := Lib.hid (show ∀ W : World, Calls Try.prog 38 #[.int .i64 y, .int .i64 k] W (fun e w' => e = .returned (.tuple #[.int .i64 Y, .bool b2]) ∧ W = w') from fun W => by have t := implMul y k W; rw [M2a, M2b] at t; exact t)
    clear M1a M1b M2a M2b hX hY hb1 hb2
    have h := Lib.hid h
    have g := Lib.hid g
    have q := Lib.hid q
    go_enter Try.func28, Try.ntmps28
    go_wp2_with fail
    refine (implVecOk' x y true _ h.out).mono ?_
    rintro e w1 ⟨rfl, B1⟩
    have H1 := Lib.hid (bl_trans (bl_alloc (bl_alloc (bl_refl w) _) _) B1)
    have V1 : VCell w1 (w.heap.size) x y := ((VCell.new _ _ x y _ (by first | rfl | simp)).alloc _).step B1
    have V2 : VCell w1 (w.heap.size + 1) 0 0 := (VCell.new _ _ 0 0 _ (by first | rfl | simp)).step B1
    clear B1
    have c1a := V1.c0
    have c1b := V1.c1
    have f1a := V1.f0
    have f1b := V1.f1
    have l1 := V1.lt
    have c2a := V2.c0
    have c2b := V2.c1
    have f2a := V2.f0
    have f2b := V2.f1
    have l2 := V2.lt
    go_wp2_with fail
    refine (implOk' k true _ g.out).mono ?_
    rintro e w' ⟨rfl, rfl⟩
    go_wp2_with fail
    refine (M1.out _).mono ?_
    rintro e w' ⟨rfl, rfl⟩
    go_wp2_with fail
    refine (M2.out _).mono ?_
    rintro e w' ⟨rfl, rfl⟩
    go_wp2_with fail
    refine (implVecOk' X Y false _ q.out).mono ?_
    rintro e w2 ⟨rfl, B2⟩
    have H2 := Lib.hid (bl_trans (bl_alloc (H1.out) _) B2)
    have V3 : VCell w2 w.heap.size x y := (V1.alloc _).step B2
    have V4 : VCell w2 (w.heap.size + 1) 0 0 := (V2.alloc _).step B2
    have V5 : VCell w2 (w1.heap.size) X Y := (VCell.new _ _ X Y _ (by first | rfl | simp)).step B2
    clear B2 H1 V1 c1a c1b f1a f1b l1 V2 c2a c2b f2a f2b l2
    have c3a := V3.c0
    have c3b := V3.c1
    have f3a := V3.f0
    have f3b := V3.f1
    have l3 := V3.lt
    have c4a := V4.c0
    have c4b := V4.c1
    have f4a := V4.f0
    have f4b := V4.f1
    have l4 := V4.lt
    have c5a := V5.c0
    have c5b := V5.c1
    have f5a := V5.f0
    have f5b := V5.f1
    have l5 := V5.lt
    go_wp2
    exact bodyPost_ret (v := .tuple #[vec 0 0, .bool false]) (by simp [results, Try.results28, go_sem, c3a, c3b, c4a, c4b, c5a, c5b]) rfl ⟨ret_vb (by rw [E.out.1]) (by rw [E.out.2.1]) (by rw [E.out.2.2]), by repeat (first | exact H2.out | refine bl_alloc ?_ _ | refine bl_set ?_ _ _ _ (by omega) | refine bl_drew ?_ _)⟩
  · have E := Lib.hid (vs_got h g q)
    obtain ⟨c1, c2⟩ := vok_cl_yes q
    rw [c1] at M1a
    rw [c2] at M2a
    have M1 := Lib.hid (show ∀ W : World, Calls Try.prog 38 #[.int .i64 x, .int .i64 k] W (fun e w' => e = .returned (.tuple #[.int .i64 (mu x k), .bool (okB (mu x k))]) ∧ W = w') from fun W => by have t := implMul x k W; rw [M1a, M1b] at t; exact t)
    have M2 := Lib.hid (show ∀ W : World, Calls Try.prog 38 #[.int .i64 y, .int .i64 k] W (fun e w' => e = .returned (.tuple #[.int .i64 (mu y k), .bool (okB (mu y k))]) ∧ W = w') from fun W => by have t := implMul y k W; rw [M2a, M2b] at t; exact t)
    clear M1a M1b M2a M2b c1 c2
    have h := Lib.hid h
    have g := Lib.hid g
    have q := Lib.hid q
    go_enter Try.func28, Try.ntmps28
    go_wp2_with fail
    refine (implVecOk' x y true _ h.out).mono ?_
    rintro e w1 ⟨rfl, B1⟩
    have H1 := Lib.hid (bl_trans (bl_alloc (bl_alloc (bl_refl w) _) _) B1)
    have V1 : VCell w1 (w.heap.size) x y := ((VCell.new _ _ x y _ (by first | rfl | simp)).alloc _).step B1
    have V2 : VCell w1 (w.heap.size + 1) 0 0 := (VCell.new _ _ 0 0 _ (by first | rfl | simp)).step B1
    clear B1
    have c1a := V1.c0
    have c1b := V1.c1
    have f1a := V1.f0
    have f1b := V1.f1
    have l1 := V1.lt
    have c2a := V2.c0
    have c2b := V2.c1
    have f2a := V2.f0
    have f2b := V2.f1
    have l2 := V2.lt
    go_wp2_with fail
    refine (implOk' k true _ g.out).mono ?_
    rintro e w' ⟨rfl, rfl⟩
    go_wp2_with fail
    refine (M1.out _).mono ?_
    rintro e w' ⟨rfl, rfl⟩
    go_wp2_with fail
    refine (M2.out _).mono ?_
    rintro e w' ⟨rfl, rfl⟩
    go_wp2_with fail
    refine (implVecOk' (mu x k) (mu y k) true _ q.out).mono ?_
    rintro e w2 ⟨rfl, B2⟩
    have H2 := Lib.hid (bl_trans (bl_alloc (H1.out) _) B2)
    have V3 : VCell w2 w.heap.size x y := (V1.alloc _).step B2
    have V4 : VCell w2 (w.heap.size + 1) 0 0 := (V2.alloc _).step B2
    have V5 : VCell w2 (w1.heap.size) (mu x k) (mu y k) := (VCell.new _ _ (mu x k) (mu y k) _ (by first | rfl | simp)).step B2
    clear B2 H1 V1 c1a c1b f1a f1b l1 V2 c2a c2b f2a f2b l2
    have c3a := V3.c0
    have c3b := V3.c1
    have f3a := V3.f0
    have f3b := V3.f1
    have l3 := V3.lt
    have c4a := V4.c0
    have c4b := V4.c1
    have f4a := V4.f0
    have f4b := V4.f1
    have l4 := V4.lt
    have c5a := V5.c0
    have c5b := V5.c1
    have f5a := V5.f0
    have f5b := V5.f1
    have l5 := V5.lt
    go_wp2
    exact bodyPost_ret (v := .tuple #[vec (mu x k) (mu y k), .bool true]) (by simp [results, Try.results28, go_sem, c3a, c3b, c4a, c4b, c5a, c5b]) rfl ⟨ret_vb (by rw [E.out.1]) (by rw [E.out.2.1]) (by rw [E.out.2.2]), by repeat (first | exact H2.out | refine bl_alloc ?_ _ | refine bl_set ?_ _ _ _ (by omega) | refine bl_drew ?_ _)⟩

set_option maxHeartbeats 1000000 in
theorem implVDot (x y u v : Int) (w : World) : Calls Try.prog 23 #[vec x y, vec u v] w fun e w' => e = .returned (.tuple #[.int .i64 (vdI x y u v), .bool (vdB x y u v)]) ∧ Below w.heap.size w w' := by
  cases h : vokB x y
  · have E := Lib.hid (vd_no1 (u := u) (v := v) h)
    have h := Lib.hid h
    go_enter Try.func23, Try.ntmps23
    go_wp2_with fail
    refine (implVecOk' x y false _ h.out).mono ?_
    rintro e w1 ⟨rfl, B1⟩
    have H1 := Lib.hid (bl_trans (bl_alloc (bl_alloc (bl_refl w) _) _) B1)
    have V1 : VCell w1 (w.heap.size) x y := ((VCell.new _ _ x y _ (by first | rfl | simp)).alloc _).step B1
    have V2 : VCell w1 (w.heap.size + 1) u v := (VCell.new _ _ u v _ (by first | rfl | simp)).step B1
    clear B1
    have c1a := V1.c0
    have c1b := V1.c1
    have f1a := V1.f0
    have f1b := V1.f1
    have l1 := V1.lt
    have c2a := V2.c0
    have c2b := V2.c1
    have f2a := V2.f0
    have f2b := V2.f1
    have l2 := V2.lt
    go_wp2
    go_ret2
    exact ⟨ret_ib (by rw [E.out.1]) (by rw [E.out.2]), by repeat (first | exact H1.out | refine bl_alloc ?_ _ | refine bl_drew ?_ _)⟩
  cases g : vokB u v
  · have E := Lib.hid (vd_no2 (x := x) (y := y) g)
    have h := Lib.hid h
    have g := Lib.hid g
    go_enter Try.func23, Try.ntmps23
    go_wp2_with fail
    refine (implVecOk' x y true _ h.out).mono ?_
    rintro e w1 ⟨rfl, B1⟩
    have H1 := Lib.hid (bl_trans (bl_alloc (bl_alloc (bl_refl w) _) _) B1)
    have V1 : VCell w1 (w.heap.size) x y := ((VCell.new _ _ x y _ (by first | rfl | simp)).alloc _).step B1
    have V2 : VCell w1 (w.heap.size + 1) u v := (VCell.new _ _ u v _ (by first | rfl | simp)).step B1
    clear B1
    have c1a := V1.c0
    have c1b := V1.c1
    have f1a := V1.f0
    have f1b := V1.f1
    have l1 := V1.lt
    have c2a := V2.c0
    have c2b := V2.c1
    have f2a := V2.f0
    have f2b := V2.f1
    have l2 := V2.lt
    go_wp2_with fail
    refine (implVecOk' u v false _ g.out).mono ?_
    rintro e w2 ⟨rfl, B2⟩
    have H2 := Lib.hid (bl_trans (H1.out) B2)
    have V3 : VCell w2 w.heap.size x y := V1.step B2
    have V4 : VCell w2 (w.heap.size + 1) u v := V2.step B2
    clear B2 H1 V1 c1a c1b f1a f1b l1 V2 c2a c2b f2a f2b l2
    have c3a := V3.c0
    have c3b := V3.c1
    have f3a := V3.f0
    have f3b := V3.f1
    have l3 := V3.lt
    have c4a := V4.c0
    have c4b := V4.c1
    have f4a := V4.f0
    have f4b := V4.f1
    have l4 := V4.lt
    go_wp2
    go_ret2
    exact ⟨ret_ib (by rw [E.out.1]) (by rw [E.out.2]), by repeat (first | exact H2.out | refine bl_alloc ?_ _ | refine bl_drew ?_ _)⟩
  · have E := Lib.hid (vd_yes h g)
    obtain ⟨⟨x1, x2⟩, y1, y2⟩ := (vok_iff x y).1 h
    obtain ⟨⟨u1, u2⟩, v1, v2⟩ := (vok_iff u v).1 g
    obtain ⟨M1a, M1b⟩ := mul_in x1 x2 u1 u2
    obtain ⟨M2a, M2b⟩ := mul_in y1 y2 v1 v2
    obtain ⟨p1, p2⟩ := prod_bd x1 x2 u1 u2
    obtain ⟨q1, q2⟩ := prod_bd y1 y2 v1 v2
    obtain ⟨M3a, M3b⟩ := add_in p1 p2 q1 q2
    have M1 := Lib.hid (show ∀ W : World, Calls Try.prog 38 #[.int .i64 x, .int .i64 u] W (fun e w' => e = .returned (.tuple #[.int .i64 (mu x u), .bool true]) ∧ W = w') from fun W => by have t := implMul x u W; rw [M1a, M1b] at t; exact t)
    have M2 := Lib.hid (show ∀ W : World, Calls Try.prog 38 #[.int .i64 y, .int .i64 v] W (fun e w' => e = .returned (.tuple #[.int .i64 (mu y v), .bool true]) ∧ W = w') from fun W => by have t := implMul y v W; rw [M2a, M2b] at t; exact t)
    have M3 := Lib.hid (show ∀ W : World, Calls Try.prog 39 #[.int .i64 (mu x u), .int .i64 (mu y v)] W (fun e w' => e = .returned (.tuple #[.int .i64 (mu x u + mu y v), .bool true]) ∧ W = w') from fun W => by have t := implAdd (mu x u) (mu y v) W; rw [M3a, M3b] at t; exact t)
    clear M1a M1b M2a M2b M3a M3b
    have h := Lib.hid h
    have g := Lib.hid g
    go_enter Try.func23, Try.ntmps23
    go_wp2_with fail
    refine (implVecOk' x y true _ h.out).mono ?_
    rintro e w1 ⟨rfl, B1⟩
    have H1 := Lib.hid (bl_trans (bl_alloc (bl_alloc (bl_refl w) _) _) B1)
    have V1 : VCell w1 (w.heap.size) x y := ((VCell.new _ _ x y _ (by first | rfl | simp)).alloc _).step B1
    have V2 : VCell w1 (w.heap.size + 1) u v := (VCell.new _ _ u v _ (by first | rfl | simp)).step B1
    clear B1
    have c1a := V1.c0
    have c1b := V1.c1
    have f1a := V1.f0
    have f1b := V1.f1
    have l1 := V1.lt
    have c2a := V2.c0
    have c2b := V2.c1
    have f2a := V2.f0
    have f2b := V2.f1
    have l2 := V2.lt
    go_wp2_with fail
    refine (implVecOk' u v true _ g.out).mono ?_
    rintro e w2 ⟨rfl, B2⟩
    have H2 := Lib.hid (bl_trans (H1.out) B2)
    have V3 : VCell w2 w.heap.size x y := V1.step B2
    have V4 : VCell w2 (w.heap.size + 1) u v := V2.step B2
    clear B2 H1 V1 c1a c1b f1a f1b l1 V2 c2a c2b f2a f2b l2
    have c3a := V3.c0
    have c3b := V3.c1
    have f3a := V3.f0
    have f3b := V3.f1
    have l3 := V3.lt
    have c4a := V4.c0
    have c4b := V4.c1
    have f4a := V4.f0
    have f4b := V4.f1
    have l4 := V4.lt
    go_wp2_with fail
    refine (M1.out _).mono ?_
    rintro e w' ⟨rfl, rfl⟩
    go_wp2_with fail
    refine (M2.out _).mono ?_
    rintro e w' ⟨rfl, rfl⟩
    go_wp2_with fail
    refine (M3.out _).mono ?_
    rintro e w' ⟨rfl, rfl⟩
    go_wp2
    go_ret2
    exact ⟨ret_ib (by rw [E.out.1]) (by rw [E.out.2]), by repeat (first | exact H2.out | refine bl_alloc ?_ _ | refine bl_drew ?_ _)⟩

end Go.Proofs.Ytmnojoddapdaoab
