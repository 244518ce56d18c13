/-
  More contracts of the program's own functions of chapter 2.
-/
import Derived.Test.YtmnojoddapdaoaaVecImplB
namespace Go.Proofs.Ytmnojoddapdaoaa
open Go.RowKit
open M

set_option maxHeartbeats 400000 in
theorem implVLen0 (x y : Int) (w : World) (x1 : -1000000 ≤ x) (x2 : x ≤ 1000000) (y1 : -1000000 ≤ y) (y2 : y ≤ 1000000) : Calls Try.prog 45 #[vec x y] w fun e w' => e = .returned (.int .i64 (vl x y)) ∧ Below w.heap.size w w' := by
  have a := square_bd x1 x2
  have b := square_bd y1 y2
  go_enter Try.func45, Try.ntmps45
  go_wp2_with fail
  go_quiet (fail)
  go_wp2_with fail
  refine (implRoot _ _ (by omega) (by omega)).mono ?_
  rintro e w' ⟨rfl, rfl⟩
  go_wp2
  go_ret
  exact ⟨ret_int rfl, by repeat (first | exact bl_refl _ | refine bl_alloc ?_ _ | refine bl_drew ?_ _)⟩
theorem implVLen0' (x y L : Int) (w : World) (hL : vl x y = L) (x1 : -1000000 ≤ x) (x2 : x ≤ 1000000) (y1 : -1000000 ≤ y) (y2 : y ≤ 1000000) : Calls Try.prog 45 #[vec x y] w fun e w' => e = .returned (.int .i64 L) ∧ Below w.heap.size w w' := by
  subst hL
  exact implVLen0 x y w x1 x2 y1 y2

theorem implVLen (x y : Int) (w : World) : Calls Try.prog 28 #[vec x y] w fun e w' => e = .returned (.tuple #[.int .i64 (vlI x y), .bool (vokB x y)]) ∧ Below w.heap.size w w' := by
  cases h : vokB x y
  · have E := Lib.hid (vl_no h)
    have h := Lib.hid h
    go_enter Try.func28, Try.ntmps28
    go_wp2_with fail
    refine (implVecOk' x y false _ h.out).mono ?_
    rintro e w1 ⟨rfl, B1⟩
    have H1 := Lib.hid (bl_trans (bl_alloc (bl_refl w) _) B1)
    have V1 : VCell w1 (w.heap.size) x y := (VCell.new _ _ x y _ (by first | rfl | simp)).step B1
    clear B1
    have c1a := V1.c0
    have c1b := V1.c1
    have f1a := V1.f0
    have f1b := V1.f1
    have l1 := V1.lt
    go_wp2
    go_ret2
    exact ⟨ret_ib (by rw [E.out]) rfl, by repeat (first | exact H1.out | refine bl_alloc ?_ _ | refine bl_drew ?_ _)⟩
  · have E := Lib.hid (vl_yes h)
    obtain ⟨⟨x1, x2⟩, y1, y2⟩ := (vok_iff x y).1 h
    have h := Lib.hid h
    go_enter Try.func28, Try.ntmps28
    go_wp2_with fail
    refine (implVecOk' x y true _ h.out).mono ?_
    rintro e w1 ⟨rfl, B1⟩
    have H1 := Lib.hid (bl_trans (bl_alloc (bl_refl w) _) B1)
    have V1 : VCell w1 (w.heap.size) x y := (VCell.new _ _ x y _ (by first | rfl | simp)).step B1
    clear B1
    have c1a := V1.c0
    have c1b := V1.c1
    have f1a := V1.f0
    have f1b := V1.f1
    have l1 := V1.lt
    go_wp2_with fail
    refine (implVLen0 _ _ _ x1 x2 y1 y2).mono ?_
    rintro e w2 ⟨rfl, B2⟩
    have H2 := Lib.hid (bl_trans (H1.out) B2)
    have V2 : VCell w2 w.heap.size x y := V1.step B2
    clear B2 H1 V1 c1a c1b f1a f1b l1
    have c2a := V2.c0
    have c2b := V2.c1
    have f2a := V2.f0
    have f2b := V2.f1
    have l2 := V2.lt
    go_wp2
    go_ret2
    exact ⟨ret_ib (by rw [E.out]) rfl, by repeat (first | exact H2.out | refine bl_alloc ?_ _ | refine bl_drew ?_ _)⟩

/-- The contract of coordinateOk with its answer given. -/
theorem implCoord' (n : Int) (b : Bool) (w : World) (h : inB n (-1000000) 1000000 = b) : Calls Try.prog 36 #[.int .i64 n] w fun e w' => e = .returned (.bool b) ∧ w = w' := by
  subst h
  exact implCoord n w

set_option maxHeartbeats 1000000 in
theorem implVClamp (x y m : Int) (w : World) : Calls Try.prog 31 #[vec x y, .int .i64 m] w fun e w' => e = .returned (.tuple #[vec (cpX x y m) (cpY x y m), .bool (cpB x y m)]) ∧ Below w.heap.size w w' := by
  cases h : vokB x y
  · have E := Lib.hid (cp_no1 (m := m) h)
    have h := Lib.hid h
    go_enter Try.func31, Try.ntmps31
    go_wp2_with fail
    refine (implVecOk' x y false _ h.out).mono ?_
    rintro e w1 ⟨rfl, B1⟩
    have H1 := Lib.hid (bl_trans (bl_alloc (bl_alloc (bl_refl w) _) _) B1)
    have V1 : VCell w1 (w.heap.size) x y := ((VCell.new _ _ x y _ (by first | rfl | simp)).alloc _).step B1
    have V2 : VCell w1 (w.heap.size + 1) 0 0 := (VCell.new _ _ 0 0 _ (by first | rfl | simp)).step B1
    clear B1
    have c1a := V1.c0
    have c1b := V1.c1
    have f1a := V1.f0
    have f1b := V1.f1
    have l1 := V1.lt
    have c2a := V2.c0
    have c2b := V2.c1
    have f2a := V2.f0
    have f2b := V2.f1
    have l2 := V2.lt
    go_wp2
    exact bodyPost_ret (v := .tuple #[vec 0 0, .bool false]) (by simp [results, Try.results31, go_sem, c1a, c1b, c2a, c2b]) rfl ⟨ret_vb (by rw [E.out.1]) (by rw [E.out.2.1]) (by rw [E.out.2.2]), by repeat (first | exact H1.out | refine bl_alloc ?_ _ | refine bl_set ?_ _ _ _ (by omega) | refine bl_drew ?_ _)⟩
  by_cases m1 : m < 0
  · have E := Lib.hid (cp_no2 (x := x) (y := y) (in_neg m1))
    have h := Lib.hid h
    go_enter Try.func31, Try.ntmps31
    go_wp2_with fail
    refine (implVecOk' x y true _ h.out).mono ?_
    rintro e w1 ⟨rfl, B1⟩
    have H1 := Lib.hid (bl_trans (bl_alloc (bl_alloc (bl_refl w) _) _) B1)
    have V1 : VCell w1 (w.heap.size) x y := ((VCell.new _ _ x y _ (by first | rfl | simp)).alloc _).step B1
    have V2 : VCell w1 (w.heap.size + 1) 0 0 := (VCell.new _ _ 0 0 _ (by first | rfl | simp)).step B1
    clear B1
    have c1a := V1.c0
    have c1b := V1.c1
    have f1a := V1.f0
    have f1b := V1.f1
    have l1 := V1.lt
    have c2a := V2.c0
    have c2b := V2.c1
    have f2a := V2.f0
    have f2b := V2.f1
    have l2 := V2.lt
    go_wp2
    exact bodyPost_ret (v := .tuple #[vec 0 0, .bool false]) (by simp [results, Try.results31, go_sem, c1a, c1b, c2a, c2b]) rfl ⟨ret_vb (by rw [E.out.1]) (by rw [E.out.2.1]) (by rw [E.out.2.2]), by repeat (first | exact H1.out | refine bl_alloc ?_ _ | refine bl_set ?_ _ _ _ (by omega) | refine bl_drew ?_ _)⟩
  have m1 : 0 ≤ m := by omega
  cases g : inB m (-1000000) 1000000
  · have E := Lib.hid (cp_no2 (x := x) (y := y) (in_big m1 g))
    have h := Lib.hid h
    have g := Lib.hid g
    go_enter Try.func31, Try.ntmps31
    go_wp2_with fail
    refine (implVecOk' x y true _ h.out).mono ?_
    rintro e w1 ⟨rfl, B1⟩
    have H1 := Lib.hid (bl_trans (bl_alloc (bl_alloc (bl_refl w) _) _) B1)
    have V1 : VCell w1 (w.heap.size) x y := ((VCell.new _ _ x y _ (by first | rfl | simp)).alloc _).step B1
    have V2 : VCell w1 (w.heap.size + 1) 0 0 := (VCell.new _ _ 0 0 _ (by first | rfl | simp)).step B1
    clear B1
    have c1a := V1.c0
    have c1b := V1.c1
    have f1a := V1.f0
    have f1b := V1.f1
    have l1 := V1.lt
    have c2a := V2.c0
    have c2b := V2.c1
    have f2a := V2.f0
    have f2b := V2.f1
    have l2 := V2.lt
    go_wp2_with fail
    refine (implCoord' m false _ g.out).mono ?_
    rintro e w' ⟨rfl, rfl⟩
    go_wp2
    exact bodyPost_ret (v := .tuple #[vec 0 0, .bool false]) (by simp [results, Try.results31, go_sem, c1a, c1b, c2a, c2b]) rfl ⟨ret_vb (by rw [E.out.1]) (by rw [E.out.2.1]) (by rw [E.out.2.2]), by repeat (first | exact H1.out | refine bl_alloc ?_ _ | refine bl_set ?_ _ _ _ (by omega) | refine bl_drew ?_ _)⟩
  obtain ⟨gm, m2⟩ := in_mk m1 g
  obtain ⟨⟨x1, x2⟩, y1, y2⟩ := (vok_iff x y).1 h
  obtain ⟨l1, l2⟩ := vl_bd x1 x2 y1 y2
  by_cases c : vl x y ≤ m
  · have E := Lib.hid (cp_in h gm c)
    obtain ⟨L, hL⟩ : ∃ L, vl x y = L := ⟨_, rfl⟩
    rw [hL] at c l1 l2
    have hL := Lib.hid hL
    clear gm
    have h := Lib.hid h
    have g := Lib.hid g
    go_enter Try.func31, Try.ntmps31
    go_wp2_with fail
    refine (implVecOk' x y true _ h.out).mono ?_
    rintro e w1 ⟨rfl, B1⟩
    have H1 := Lib.hid (bl_trans (bl_alloc (bl_alloc (bl_refl w) _) _) B1)
    have V1 : VCell w1 (w.heap.size) x y := ((VCell.new _ _ x y _ (by first | rfl | simp)).alloc _).step B1
    have V2 : VCell w1 (w.heap.size + 1) 0 0 := (VCell.new _ _ 0 0 _ (by first | rfl | simp)).step B1
    clear B1
    have c1a := V1.c0
    have c1b := V1.c1
    have f1a := V1.f0
    have f1b := V1.f1
    have l1 := V1.lt
    have c2a := V2.c0
    have c2b := V2.c1
    have f2a := V2.f0
    have f2b := V2.f1
    have l2 := V2.lt
    go_wp2_with fail
    refine (implCoord' m true _ g.out).mono ?_
    rintro e w' ⟨rfl, rfl⟩
    go_wp2_with fail
    refine (implVLen0' _ _ L _ hL.out x1 x2 y1 y2).mono ?_
    rintro e w2 ⟨rfl, B2⟩
    have H2 := Lib.hid (bl_trans (H1.out) B2)
    have V3 : VCell w2 w.heap.size x y := V1.step B2
    have V4 : VCell w2 (w.heap.size + 1) 0 0 := V2.step B2
    clear B2 H1 V1 c1a c1b f1a f1b l1 V2 c2a c2b f2a f2b l2
    have c3a := V3.c0
    have c3b := V3.c1
    have f3a := V3.f0
    have f3b := V3.f1
    have l3 := V3.lt
    have c4a := V4.c0
    have c4b := V4.c1
    have f4a := V4.f0
    have f4b := V4.f1
    have l4 := V4.lt
    go_wp2
    exact bodyPost_ret (v := .tuple #[vec x y, .bool true]) (by simp [results, Try.results31, go_sem, c3a, c3b, c4a, c4b]) rfl ⟨ret_vb (by rw [E.out.1]) (by rw [E.out.2.1]) (by rw [E.out.2.2]), by repeat (first | exact H2.out | refine bl_alloc ?_ _ | refine bl_set ?_ _ _ _ (by omega) | refine bl_drew ?_ _)⟩
  · have E := Lib.hid (cp_out h gm c)
    have p1 := mul_bd (a := x) (b := m) (by omega) (by omega) (by omega) (by omega)
    have p2 := mul_bd (a := y) (b := m) (by omega) (by omega) (by omega) (by omega)
    have s1 := clamp_bd (n := vl x y) x1 x2 m1 m2
    have s2 := clamp_bd (n := vl x y) y1 y2 m1 m2
    have n0 : vl x y ≠ 0 := by omega
    have w1' : IntKind.i64.wrap (x * m) = x * m := IntWalk.i64_in _ (by omega)
    have w2' : IntKind.i64.wrap (y * m) = y * m := IntWalk.i64_in _ (by omega)
    have w3' : IntKind.i64.wrap ((x * m).tdiv (vl x y)) = (x * m).tdiv (vl x y) := IntWalk.i64_in _ (by omega)
    have w4' : IntKind.i64.wrap ((y * m).tdiv (vl x y)) = (y * m).tdiv (vl x y) := IntWalk.i64_in _ (by omega)
    have n1 : m < vl x y := by omega
    clear gm c
    obtain ⟨L, hL⟩ : ∃ L, vl x y = L := ⟨_, rfl⟩
    rw [hL] at E s1 s2 n0 n1 w3' w4' l1 l2
    have hL := Lib.hid hL
    have h := Lib.hid h
    have g := Lib.hid g
    go_enter Try.func31, Try.ntmps31
    go_wp2_with fail
    refine (implVecOk' x y true _ h.out).mono ?_
    rintro e w1 ⟨rfl, B1⟩
    have H1 := Lib.hid (bl_trans (bl_alloc (bl_alloc (bl_refl w) _) _) B1)
    have V1 : VCell w1 (w.heap.size) x y := ((VCell.new _ _ x y _ (by first | rfl | simp)).alloc _).step B1
    have V2 : VCell w1 (w.heap.size + 1) 0 0 := (VCell.new _ _ 0 0 _ (by first | rfl | simp)).step B1
    clear B1
    have c1a := V1.c0
    have c1b := V1.c1
    have f1a := V1.f0
    have f1b := V1.f1
    have l1 := V1.lt
    have c2a := V2.c0
    have c2b := V2.c1
    have f2a := V2.f0
    have f2b := V2.f1
    have l2 := V2.lt
    go_wp2_with fail
    refine (implCoord' m true _ g.out).mono ?_
    rintro e w' ⟨rfl, rfl⟩
    go_wp2_with fail
    refine (implVLen0' _ _ L _ hL.out x1 x2 y1 y2).mono ?_
    rintro e w2 ⟨rfl, B2⟩
    have H2 := Lib.hid (bl_trans (H1.out) B2)
    have V3 : VCell w2 w.heap.size x y := V1.step B2
    have V4 : VCell w2 (w.heap.size + 1) 0 0 := V2.step B2
    clear B2 H1 V1 c1a c1b f1a f1b l1 V2 c2a c2b f2a f2b l2
    have c3a := V3.c0
    have c3b := V3.c1
    have f3a := V3.f0
    have f3b := V3.f1
    have l3 := V3.lt
    have c4a := V4.c0
    have c4b := V4.c1
    have f4a := V4.f0
    have f4b := V4.f1
    have l4 := V4.lt
    go_wp2
    exact bodyPost_ret (v := .tuple #[vec ((x * m).tdiv L) ((y * m).tdiv L), .bool true]) (by simp [results, Try.results31, go_sem, c3a, c3b, c4a, c4b]) rfl ⟨ret_vb (by rw [E.out.1]) (by rw [E.out.2.1]) (by rw [E.out.2.2]), by repeat (first | exact H2.out | refine bl_alloc ?_ _ | refine bl_set ?_ _ _ _ (by omega) | refine bl_drew ?_ _)⟩

end Go.Proofs.Ytmnojoddapdaoaa
