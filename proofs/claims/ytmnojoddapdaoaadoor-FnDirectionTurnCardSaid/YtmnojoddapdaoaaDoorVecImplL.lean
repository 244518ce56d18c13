/-
  More contracts of the program's own functions of chapter 2.
-/
import Derived.Test.YtmnojoddapdaoaaDoorVecImplB
namespace Go.Proofs.YtmnojoddapdaoaaDoor
open Go.RowKit
open M

set_option maxHeartbeats 400000 in
theorem implVLen0 (x y : Int) (w : World) (x1 : -1000000 ≤ x) (x2 : x ≤ 1000000) (y1 : -1000000 ≤ y) (y2 : y ≤ 1000000) : Calls Tryd.prog 15 #[vec x y] w fun e w' => e = .returned (.int .i64 (vl x y)) ∧ Below w.heap.size w w' := by
  have a := square_bd x1 x2
  have b := square_bd y1 y2
  go_enter Tryd.func15, Tryd.ntmps15
  go_wp2_with fail
  go_quiet (fail)
  go_wp2_with fail
  refine (implRoot _ _ (by omega) (by omega)).mono ?_
  rintro e w' ⟨rfl, rfl⟩
  go_wp2
  go_ret
  exact ⟨ret_int rfl, by repeat (first | exact bl_refl _ | refine bl_alloc ?_ _ | refine bl_drew ?_ _)⟩
theorem implVLen0' (x y L : Int) (w : World) (hL : vl x y = L) (x1 : -1000000 ≤ x) (x2 : x ≤ 1000000) (y1 : -1000000 ≤ y) (y2 : y ≤ 1000000) : Calls Tryd.prog 15 #[vec x y] w fun e w' => e = .returned (.int .i64 L) ∧ Below w.heap.size w w' := by
  subst hL
  exact implVLen0 x y w x1 x2 y1 y2

theorem implVLen (x y : Int) (w : World) : Calls Tryd.prog 8 #[vec x y] w fun e w' => e = .returned (.tuple #[.int .i64 (vlI x y), .bool (vokB x y)]) ∧ Below w.heap.size w w' := by
  cases h : vokB x y
  · have E := Lib.hid (vl_no h)
    have h := Lib.hid h
    go_enter Tryd.func8, Tryd.ntmps8
    go_wp2_with fail
    refine (implVecOk' x y false _ h.out).mono ?_
    rintro e w1 ⟨rfl, B1⟩
    have H1 := Lib.hid (bl_trans (bl_alloc (bl_refl w) _) B1)
    have V1 : VCell w1 (w.heap.size) x y := (VCell.new _ _ x y _ (by first | rfl | simp)).step B1
    clear B1
    have c1a := V1.c0
    have c1b := V1.c1
    have f1a := V1.f0
    have f1b := V1.f1
    have l1 := V1.lt
    go_wp2
    go_ret2
    exact ⟨ret_ib (by rw [E.out]) rfl, by repeat (first | exact H1.out | refine bl_alloc ?_ _ | refine bl_drew ?_ _)⟩
  · have E := Lib.hid (vl_yes h)
    obtain ⟨⟨x1, x2⟩, y1, y2⟩ := (vok_iff x y).1 h
    have h := Lib.hid h
    go_enter Tryd.func8, Tryd.ntmps8
    go_wp2_with fail
    refine (implVecOk' x y true _ h.out).mono ?_
    rintro e w1 ⟨rfl, B1⟩
    have H1 := Lib.hid (bl_trans (bl_alloc (bl_refl w) _) B1)
    have V1 : VCell w1 (w.heap.size) x y := (VCell.new _ _ x y _ (by first | rfl | simp)).step B1
    clear B1
    have c1a := V1.c0
    have c1b := V1.c1
    have f1a := V1.f0
    have f1b := V1.f1
    have l1 := V1.lt
    go_wp2_with fail
    refine (implVLen0 _ _ _ x1 x2 y1 y2).mono ?_
    rintro e w2 ⟨rfl, B2⟩
    have H2 := Lib.hid (bl_trans (H1.out) B2)
    have V2 : VCell w2 w.heap.size x y := V1.step B2
    clear B2 H1 V1 c1a c1b f1a f1b l1
    have c2a := V2.c0
    have c2b := V2.c1
    have f2a := V2.f0
    have f2b := V2.f1
    have l2 := V2.lt
    go_wp2
    go_ret2
    exact ⟨ret_ib (by rw [E.out]) rfl, by repeat (first | exact H2.out | refine bl_alloc ?_ _ | refine bl_drew ?_ _)⟩

/-- The contract of coordinateOk with its answer given. -/
theorem implCoord' (n : Int) (b : Bool) (w : World) (h : inB n (-1000000) 1000000 = b) : Calls Tryd.prog 18 #[.int .i64 n] w fun e w' => e = .returned (.bool b) ∧ w = w' := by
  subst h
  exact implCoord n w

end Go.Proofs.YtmnojoddapdaoaaDoor
