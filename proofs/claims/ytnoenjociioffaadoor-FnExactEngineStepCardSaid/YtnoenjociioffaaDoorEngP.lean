/-
  What the program's own functions of states return, that are no step: ended, possible, EngineValid.
-/
import Derived.Test.YtnoenjociioffaaDoorEngVal
import Derived.Test.YtnoenjociioffaaDoorVecP
import Derived.Test.YtnoenjociioffaaDoorLevImpl
namespace Go.Proofs.YtnoenjociioffaaDoor
open Go.RowKit
open M

set_option maxRecDepth 100000 in
theorem implEnded (k ax ay fx fy u g : Int) (d o : Bool) (w : World) : Calls Tryd.prog 46 #[sta k ax ay fx fy u g d o] w fun e w' => e = .returned (.bool (d || o)) ∧ Below w.heap.size w w' := by
  cases d <;> cases o
  · go_enter Tryd.func46, Tryd.ntmps46
    go_wp2
    go_ret
    exact ⟨rfl, bl_alloc (bl_refl w) _⟩
  · go_enter Tryd.func46, Tryd.ntmps46
    go_wp2
    go_ret
    exact ⟨rfl, bl_alloc (bl_refl w) _⟩
  · go_enter Tryd.func46, Tryd.ntmps46
    go_wp2
    go_ret
    exact ⟨rfl, bl_alloc (bl_refl w) _⟩
  · go_enter Tryd.func46, Tryd.ntmps46
    go_wp2
    go_ret
    exact ⟨rfl, bl_alloc (bl_refl w) _⟩

theorem M.own_iff0 (k ax ay fx fy u g : Int) (d o : Bool) : ownB k ax ay fx fy u g d o = true ↔ (0 ≤ k ∧ k ≤ 60) ∧ vokB ax ay = true ∧ vokB fx fy = true ∧ vl fx fy ≤ 2000 ∧ (0 ≤ u ∧ u ≤ 15) ∧ (0 ≤ g ∧ g ≤ 3) ∧ (d && o) = false := by
  simp only [ownB, inB, Bool.and_eq_true, decide_eq_true_eq, Bool.not_eq_true']
theorem M.own_no {k ax ay fx fy u g : Int} {d o : Bool} (h : ¬ ((0 ≤ k ∧ k ≤ 60) ∧ vokB ax ay = true ∧ vokB fx fy = true ∧ vl fx fy ≤ 2000 ∧ (0 ≤ u ∧ u ≤ 15) ∧ (0 ≤ g ∧ g ≤ 3) ∧ (d && o) = false)) : ownB k ax ay fx fy u g d o = false := by
  cases e : ownB k ax ay fx fy u g d o
  · rfl
  · exact absurd ((own_iff0 ..).1 e) h

set_option maxRecDepth 100000 in
set_option maxHeartbeats 4000000 in
theorem implPoss (k ax ay fx fy u g : Int) (d o : Bool) (w : World) : Calls Tryd.prog 50 #[sta k ax ay fx fy u g d o] w fun e w' => e = .returned (.bool (ownB k ax ay fx fy u g d o)) ∧ Below w.heap.size w w' := by
  have C1 := fun W => implVLen fx fy W
  have C2 := fun W => implVecOk ax ay W
  cases h3 : vokB fx fy
  · rw [vl_no h3, h3] at C1
    have C1 := Lib.hid C1
    have E := Lib.hid (show ownB k ax ay fx fy u g d o = false from own_no (by rw [h3]; simp))
    clear h3 C2
    have P : CellsAt (w.alloc (.cells #[.int .i64 k, .int .i64 ax, .int .i64 ay, .int .i64 fx, .int .i64 fy, .int .i64 u, .int .i64 g, .bool d, .bool o] 31)) w.heap.size (stv k ax ay fx fy u g d o) := CellsAt.new w _ _ _ rfl
    have H := Lib.hid (bl_alloc (bl_refl w) (.cells #[.int .i64 k, .int .i64 ax, .int .i64 ay, .int .i64 fx, .int .i64 fy, .int .i64 u, .int .i64 g, .bool d, .bool o] 31))
    go_enter Tryd.func50, Tryd.ntmps50
    have Pc0 := P.cell 0 _ rfl
    have Pc1 := P.cell 1 _ rfl
    have Pc2 := P.cell 2 _ rfl
    have Pc3 := P.cell 3 _ rfl
    have Pc4 := P.cell 4 _ rfl
    have Pc5 := P.cell 5 _ rfl
    have Pc6 := P.cell 6 _ rfl
    have Pc7 := P.cell 7 _ rfl
    have Pc8 := P.cell 8 _ rfl
    have Pl := P.lt
    go_wp2_with fail
    clear Pc0 Pc1 Pc2 Pc3 Pc4 Pc5 Pc6 Pc7 Pc8 Pl
    refine (C1.out _).mono ?_
    rintro e w1 ⟨rfl, B⟩
    replace P := P.step B
    replace H := Lib.hid (bl_trans H.out B)
    clear B
    have Pc0 := P.cell 0 _ rfl
    have Pc1 := P.cell 1 _ rfl
    have Pc2 := P.cell 2 _ rfl
    have Pc3 := P.cell 3 _ rfl
    have Pc4 := P.cell 4 _ rfl
    have Pc5 := P.cell 5 _ rfl
    have Pc6 := P.cell 6 _ rfl
    have Pc7 := P.cell 7 _ rfl
    have Pc8 := P.cell 8 _ rfl
    have Pl := P.lt
    go_wp2
    go_ret
    exact ⟨ret_b (by rw [E.out]), H.out⟩
  rw [vl_yes h3, h3] at C1
  have C1 := Lib.hid C1
  by_cases h4 : vl fx fy ≤ 2000
  rotate_left
  · have d4 : decide (vl fx fy ≤ 2000) = false := decide_eq_false h4
    have E := Lib.hid (show ownB k ax ay fx fy u g d o = false from own_no (by exact fun q => h4 q.2.2.2.1))
    clear h3 h4 C2
    have P : CellsAt (w.alloc (.cells #[.int .i64 k, .int .i64 ax, .int .i64 ay, .int .i64 fx, .int .i64 fy, .int .i64 u, .int .i64 g, .bool d, .bool o] 31)) w.heap.size (stv k ax ay fx fy u g d o) := CellsAt.new w _ _ _ rfl
    have H := Lib.hid (bl_alloc (bl_refl w) (.cells #[.int .i64 k, .int .i64 ax, .int .i64 ay, .int .i64 fx, .int .i64 fy, .int .i64 u, .int .i64 g, .bool d, .bool o] 31))
    go_enter Tryd.func50, Tryd.ntmps50
    have Pc0 := P.cell 0 _ rfl
    have Pc1 := P.cell 1 _ rfl
    have Pc2 := P.cell 2 _ rfl
    have Pc3 := P.cell 3 _ rfl
    have Pc4 := P.cell 4 _ rfl
    have Pc5 := P.cell 5 _ rfl
    have Pc6 := P.cell 6 _ rfl
    have Pc7 := P.cell 7 _ rfl
    have Pc8 := P.cell 8 _ rfl
    have Pl := P.lt
    go_wp2_with fail
    clear Pc0 Pc1 Pc2 Pc3 Pc4 Pc5 Pc6 Pc7 Pc8 Pl
    refine (C1.out _).mono ?_
    rintro e w1 ⟨rfl, B⟩
    replace P := P.step B
    replace H := Lib.hid (bl_trans H.out B)
    clear B
    have Pc0 := P.cell 0 _ rfl
    have Pc1 := P.cell 1 _ rfl
    have Pc2 := P.cell 2 _ rfl
    have Pc3 := P.cell 3 _ rfl
    have Pc4 := P.cell 4 _ rfl
    have Pc5 := P.cell 5 _ rfl
    have Pc6 := P.cell 6 _ rfl
    have Pc7 := P.cell 7 _ rfl
    have Pc8 := P.cell 8 _ rfl
    have Pl := P.lt
    go_wp2
    go_ret
    exact ⟨ret_b (by rw [E.out]), H.out⟩
  cases h2 : vokB ax ay
  · rw [h2] at C2
    have C2 := Lib.hid C2
    have E := Lib.hid (show ownB k ax ay fx fy u g d o = false from own_no (by rw [h2]; simp))
    clear h2 h3
    have P : CellsAt (w.alloc (.cells #[.int .i64 k, .int .i64 ax, .int .i64 ay, .int .i64 fx, .int .i64 fy, .int .i64 u, .int .i64 g, .bool d, .bool o] 31)) w.heap.size (stv k ax ay fx fy u g d o) := CellsAt.new w _ _ _ rfl
    have H := Lib.hid (bl_alloc (bl_refl w) (.cells #[.int .i64 k, .int .i64 ax, .int .i64 ay, .int .i64 fx, .int .i64 fy, .int .i64 u, .int .i64 g, .bool d, .bool o] 31))
    go_enter Tryd.func50, Tryd.ntmps50
    have Pc0 := P.cell 0 _ rfl
    have Pc1 := P.cell 1 _ rfl
    have Pc2 := P.cell 2 _ rfl
    have Pc3 := P.cell 3 _ rfl
    have Pc4 := P.cell 4 _ rfl
    have Pc5 := P.cell 5 _ rfl
    have Pc6 := P.cell 6 _ rfl
    have Pc7 := P.cell 7 _ rfl
    have Pc8 := P.cell 8 _ rfl
    have Pl := P.lt
    go_wp2_with fail
    clear Pc0 Pc1 Pc2 Pc3 Pc4 Pc5 Pc6 Pc7 Pc8 Pl
    refine (C1.out _).mono ?_
    rintro e w1 ⟨rfl, B⟩
    replace P := P.step B
    replace H := Lib.hid (bl_trans H.out B)
    clear B
    have Pc0 := P.cell 0 _ rfl
    have Pc1 := P.cell 1 _ rfl
    have Pc2 := P.cell 2 _ rfl
    have Pc3 := P.cell 3 _ rfl
    have Pc4 := P.cell 4 _ rfl
    have Pc5 := P.cell 5 _ rfl
    have Pc6 := P.cell 6 _ rfl
    have Pc7 := P.cell 7 _ rfl
    have Pc8 := P.cell 8 _ rfl
    have Pl := P.lt
    go_wp2_with fail
    clear Pc0 Pc1 Pc2 Pc3 Pc4 Pc5 Pc6 Pc7 Pc8 Pl
    refine (C2.out _).mono ?_
    rintro e w2 ⟨rfl, B⟩
    replace P := P.step B
    replace H := Lib.hid (bl_trans H.out B)
    clear B
    have Pc0 := P.cell 0 _ rfl
    have Pc1 := P.cell 1 _ rfl
    have Pc2 := P.cell 2 _ rfl
    have Pc3 := P.cell 3 _ rfl
    have Pc4 := P.cell 4 _ rfl
    have Pc5 := P.cell 5 _ rfl
    have Pc6 := P.cell 6 _ rfl
    have Pc7 := P.cell 7 _ rfl
    have Pc8 := P.cell 8 _ rfl
    have Pl := P.lt
    go_wp2
    go_ret
    exact ⟨ret_b (by rw [E.out]), H.out⟩
  rw [h2] at C2
  have C2 := Lib.hid C2
  by_cases x0 : 0 ≤ k
  rotate_left
  · have y0 : decide (0 ≤ k) = false := decide_eq_false x0
    have E := Lib.hid (show ownB k ax ay fx fy u g d o = false from own_no (by exact fun q => x0 q.1.1))
    clear h2 h3 x0
    have P : CellsAt (w.alloc (.cells #[.int .i64 k, .int .i64 ax, .int .i64 ay, .int .i64 fx, .int .i64 fy, .int .i64 u, .int .i64 g, .bool d, .bool o] 31)) w.heap.size (stv k ax ay fx fy u g d o) := CellsAt.new w _ _ _ rfl
    have H := Lib.hid (bl_alloc (bl_refl w) (.cells #[.int .i64 k, .int .i64 ax, .int .i64 ay, .int .i64 fx, .int .i64 fy, .int .i64 u, .int .i64 g, .bool d, .bool o] 31))
    go_enter Tryd.func50, Tryd.ntmps50
    have Pc0 := P.cell 0 _ rfl
    have Pc1 := P.cell 1 _ rfl
    have Pc2 := P.cell 2 _ rfl
    have Pc3 := P.cell 3 _ rfl
    have Pc4 := P.cell 4 _ rfl
    have Pc5 := P.cell 5 _ rfl
    have Pc6 := P.cell 6 _ rfl
    have Pc7 := P.cell 7 _ rfl
    have Pc8 := P.cell 8 _ rfl
    have Pl := P.lt
    go_wp2_with fail
    clear Pc0 Pc1 Pc2 Pc3 Pc4 Pc5 Pc6 Pc7 Pc8 Pl
    refine (C1.out _).mono ?_
    rintro e w1 ⟨rfl, B⟩
    replace P := P.step B
    replace H := Lib.hid (bl_trans H.out B)
    clear B
    have Pc0 := P.cell 0 _ rfl
    have Pc1 := P.cell 1 _ rfl
    have Pc2 := P.cell 2 _ rfl
    have Pc3 := P.cell 3 _ rfl
    have Pc4 := P.cell 4 _ rfl
    have Pc5 := P.cell 5 _ rfl
    have Pc6 := P.cell 6 _ rfl
    have Pc7 := P.cell 7 _ rfl
    have Pc8 := P.cell 8 _ rfl
    have Pl := P.lt
    go_wp2_with fail
    clear Pc0 Pc1 Pc2 Pc3 Pc4 Pc5 Pc6 Pc7 Pc8 Pl
    refine (C2.out _).mono ?_
    rintro e w2 ⟨rfl, B⟩
    replace P := P.step B
    replace H := Lib.hid (bl_trans H.out B)
    clear B
    have Pc0 := P.cell 0 _ rfl
    have Pc1 := P.cell 1 _ rfl
    have Pc2 := P.cell 2 _ rfl
    have Pc3 := P.cell 3 _ rfl
    have Pc4 := P.cell 4 _ rfl
    have Pc5 := P.cell 5 _ rfl
    have Pc6 := P.cell 6 _ rfl
    have Pc7 := P.cell 7 _ rfl
    have Pc8 := P.cell 8 _ rfl
    have Pl := P.lt
    go_wp2
    go_ret
    exact ⟨ret_b (by rw [E.out]), H.out⟩
  by_cases x1 : k ≤ 60
  rotate_left
  · have y1 : decide (k ≤ 60) = false := decide_eq_false x1
    have E := Lib.hid (show ownB k ax ay fx fy u g d o = false from own_no (by exact fun q => x1 q.1.2))
    clear h2 h3 x1
    have P : CellsAt (w.alloc (.cells #[.int .i64 k, .int .i64 ax, .int .i64 ay, .int .i64 fx, .int .i64 fy, .int .i64 u, .int .i64 g, .bool d, .bool o] 31)) w.heap.size (stv k ax ay fx fy u g d o) := CellsAt.new w _ _ _ rfl
    have H := Lib.hid (bl_alloc (bl_refl w) (.cells #[.int .i64 k, .int .i64 ax, .int .i64 ay, .int .i64 fx, .int .i64 fy, .int .i64 u, .int .i64 g, .bool d, .bool o] 31))
    go_enter Tryd.func50, Tryd.ntmps50
    have Pc0 := P.cell 0 _ rfl
    have Pc1 := P.cell 1 _ rfl
    have Pc2 := P.cell 2 _ rfl
    have Pc3 := P.cell 3 _ rfl
    have Pc4 := P.cell 4 _ rfl
    have Pc5 := P.cell 5 _ rfl
    have Pc6 := P.cell 6 _ rfl
    have Pc7 := P.cell 7 _ rfl
    have Pc8 := P.cell 8 _ rfl
    have Pl := P.lt
    go_wp2_with fail
    clear Pc0 Pc1 Pc2 Pc3 Pc4 Pc5 Pc6 Pc7 Pc8 Pl
    refine (C1.out _).mono ?_
    rintro e w1 ⟨rfl, B⟩
    replace P := P.step B
    replace H := Lib.hid (bl_trans H.out B)
    clear B
    have Pc0 := P.cell 0 _ rfl
    have Pc1 := P.cell 1 _ rfl
    have Pc2 := P.cell 2 _ rfl
    have Pc3 := P.cell 3 _ rfl
    have Pc4 := P.cell 4 _ rfl
    have Pc5 := P.cell 5 _ rfl
    have Pc6 := P.cell 6 _ rfl
    have Pc7 := P.cell 7 _ rfl
    have Pc8 := P.cell 8 _ rfl
    have Pl := P.lt
    go_wp2_with fail
    clear Pc0 Pc1 Pc2 Pc3 Pc4 Pc5 Pc6 Pc7 Pc8 Pl
    refine (C2.out _).mono ?_
    rintro e w2 ⟨rfl, B⟩
    replace P := P.step B
    replace H := Lib.hid (bl_trans H.out B)
    clear B
    have Pc0 := P.cell 0 _ rfl
    have Pc1 := P.cell 1 _ rfl
    have Pc2 := P.cell 2 _ rfl
    have Pc3 := P.cell 3 _ rfl
    have Pc4 := P.cell 4 _ rfl
    have Pc5 := P.cell 5 _ rfl
    have Pc6 := P.cell 6 _ rfl
    have Pc7 := P.cell 7 _ rfl
    have Pc8 := P.cell 8 _ rfl
    have Pl := P.lt
    go_wp2
    go_ret
    exact ⟨ret_b (by rw [E.out]), H.out⟩
  by_cases x2 : 0 ≤ u
  rotate_left
  · have y2 : decide (0 ≤ u) = false := decide_eq_false x2
    have E := Lib.hid (show ownB k ax ay fx fy u g d o = false from own_no (by exact fun q => x2 q.2.2.2.2.1.1))
    clear h2 h3 x2
    have P : CellsAt (w.alloc (.cells #[.int .i64 k, .int .i64 ax, .int .i64 ay, .int .i64 fx, .int .i64 fy, .int .i64 u, .int .i64 g, .bool d, .bool o] 31)) w.heap.size (stv k ax ay fx fy u g d o) := CellsAt.new w _ _ _ rfl
    have H := Lib.hid (bl_alloc (bl_refl w) (.cells #[.int .i64 k, .int .i64 ax, .int .i64 ay, .int .i64 fx, .int .i64 fy, .int .i64 u, .int .i64 g, .bool d, .bool o] 31))
    go_enter Tryd.func50, Tryd.ntmps50
    have Pc0 := P.cell 0 _ rfl
    have Pc1 := P.cell 1 _ rfl
    have Pc2 := P.cell 2 _ rfl
    have Pc3 := P.cell 3 _ rfl
    have Pc4 := P.cell 4 _ rfl
    have Pc5 := P.cell 5 _ rfl
    have Pc6 := P.cell 6 _ rfl
    have Pc7 := P.cell 7 _ rfl
    have Pc8 := P.cell 8 _ rfl
    have Pl := P.lt
    go_wp2_with fail
    clear Pc0 Pc1 Pc2 Pc3 Pc4 Pc5 Pc6 Pc7 Pc8 Pl
    refine (C1.out _).mono ?_
    rintro e w1 ⟨rfl, B⟩
    replace P := P.step B
    replace H := Lib.hid (bl_trans H.out B)
    clear B
    have Pc0 := P.cell 0 _ rfl
    have Pc1 := P.cell 1 _ rfl
    have Pc2 := P.cell 2 _ rfl
    have Pc3 := P.cell 3 _ rfl
    have Pc4 := P.cell 4 _ rfl
    have Pc5 := P.cell 5 _ rfl
    have Pc6 := P.cell 6 _ rfl
    have Pc7 := P.cell 7 _ rfl
    have Pc8 := P.cell 8 _ rfl
    have Pl := P.lt
    go_wp2_with fail
    clear Pc0 Pc1 Pc2 Pc3 Pc4 Pc5 Pc6 Pc7 Pc8 Pl
    refine (C2.out _).mono ?_
    rintro e w2 ⟨rfl, B⟩
    replace P := P.step B
    replace H := Lib.hid (bl_trans H.out B)
    clear B
    have Pc0 := P.cell 0 _ rfl
    have Pc1 := P.cell 1 _ rfl
    have Pc2 := P.cell 2 _ rfl
    have Pc3 := P.cell 3 _ rfl
    have Pc4 := P.cell 4 _ rfl
    have Pc5 := P.cell 5 _ rfl
    have Pc6 := P.cell 6 _ rfl
    have Pc7 := P.cell 7 _ rfl
    have Pc8 := P.cell 8 _ rfl
    have Pl := P.lt
    go_wp2
    go_ret
    exact ⟨ret_b (by rw [E.out]), H.out⟩
  by_cases x3 : u < 16
  rotate_left
  · have y3 : decide (u < 16) = false := decide_eq_false x3
    have E := Lib.hid (show ownB k ax ay fx fy u g d o = false from own_no (by intro q; exact x3 (by have := q.2.2.2.2.1.2; omega)))
    clear h2 h3 x3
    have P : CellsAt (w.alloc (.cells #[.int .i64 k, .int .i64 ax, .int .i64 ay, .int .i64 fx, .int .i64 fy, .int .i64 u, .int .i64 g, .bool d, .bool o] 31)) w.heap.size (stv k ax ay fx fy u g d o) := CellsAt.new w _ _ _ rfl
    have H := Lib.hid (bl_alloc (bl_refl w) (.cells #[.int .i64 k, .int .i64 ax, .int .i64 ay, .int .i64 fx, .int .i64 fy, .int .i64 u, .int .i64 g, .bool d, .bool o] 31))
    go_enter Tryd.func50, Tryd.ntmps50
    have Pc0 := P.cell 0 _ rfl
    have Pc1 := P.cell 1 _ rfl
    have Pc2 := P.cell 2 _ rfl
    have Pc3 := P.cell 3 _ rfl
    have Pc4 := P.cell 4 _ rfl
    have Pc5 := P.cell 5 _ rfl
    have Pc6 := P.cell 6 _ rfl
    have Pc7 := P.cell 7 _ rfl
    have Pc8 := P.cell 8 _ rfl
    have Pl := P.lt
    go_wp2_with fail
    clear Pc0 Pc1 Pc2 Pc3 Pc4 Pc5 Pc6 Pc7 Pc8 Pl
    refine (C1.out _).mono ?_
    rintro e w1 ⟨rfl, B⟩
    replace P := P.step B
    replace H := Lib.hid (bl_trans H.out B)
    clear B
    have Pc0 := P.cell 0 _ rfl
    have Pc1 := P.cell 1 _ rfl
    have Pc2 := P.cell 2 _ rfl
    have Pc3 := P.cell 3 _ rfl
    have Pc4 := P.cell 4 _ rfl
    have Pc5 := P.cell 5 _ rfl
    have Pc6 := P.cell 6 _ rfl
    have Pc7 := P.cell 7 _ rfl
    have Pc8 := P.cell 8 _ rfl
    have Pl := P.lt
    go_wp2_with fail
    clear Pc0 Pc1 Pc2 Pc3 Pc4 Pc5 Pc6 Pc7 Pc8 Pl
    refine (C2.out _).mono ?_
    rintro e w2 ⟨rfl, B⟩
    replace P := P.step B
    replace H := Lib.hid (bl_trans H.out B)
    clear B
    have Pc0 := P.cell 0 _ rfl
    have Pc1 := P.cell 1 _ rfl
    have Pc2 := P.cell 2 _ rfl
    have Pc3 := P.cell 3 _ rfl
    have Pc4 := P.cell 4 _ rfl
    have Pc5 := P.cell 5 _ rfl
    have Pc6 := P.cell 6 _ rfl
    have Pc7 := P.cell 7 _ rfl
    have Pc8 := P.cell 8 _ rfl
    have Pl := P.lt
    go_wp2
    go_ret
    exact ⟨ret_b (by rw [E.out]), H.out⟩
  by_cases x4 : 0 ≤ g
  rotate_left
  · have y4 : decide (0 ≤ g) = false := decide_eq_false x4
    have E := Lib.hid (show ownB k ax ay fx fy u g d o = false from own_no (by exact fun q => x4 q.2.2.2.2.2.1.1))
    clear h2 h3 x4
    have P : CellsAt (w.alloc (.cells #[.int .i64 k, .int .i64 ax, .int .i64 ay, .int .i64 fx, .int .i64 fy, .int .i64 u, .int .i64 g, .bool d, .bool o] 31)) w.heap.size (stv k ax ay fx fy u g d o) := CellsAt.new w _ _ _ rfl
    have H := Lib.hid (bl_alloc (bl_refl w) (.cells #[.int .i64 k, .int .i64 ax, .int .i64 ay, .int .i64 fx, .int .i64 fy, .int .i64 u, .int .i64 g, .bool d, .bool o] 31))
    go_enter Tryd.func50, Tryd.ntmps50
    have Pc0 := P.cell 0 _ rfl
    have Pc1 := P.cell 1 _ rfl
    have Pc2 := P.cell 2 _ rfl
    have Pc3 := P.cell 3 _ rfl
    have Pc4 := P.cell 4 _ rfl
    have Pc5 := P.cell 5 _ rfl
    have Pc6 := P.cell 6 _ rfl
    have Pc7 := P.cell 7 _ rfl
    have Pc8 := P.cell 8 _ rfl
    have Pl := P.lt
    go_wp2_with fail
    clear Pc0 Pc1 Pc2 Pc3 Pc4 Pc5 Pc6 Pc7 Pc8 Pl
    refine (C1.out _).mono ?_
    rintro e w1 ⟨rfl, B⟩
    replace P := P.step B
    replace H := Lib.hid (bl_trans H.out B)
    clear B
    have Pc0 := P.cell 0 _ rfl
    have Pc1 := P.cell 1 _ rfl
    have Pc2 := P.cell 2 _ rfl
    have Pc3 := P.cell 3 _ rfl
    have Pc4 := P.cell 4 _ rfl
    have Pc5 := P.cell 5 _ rfl
    have Pc6 := P.cell 6 _ rfl
    have Pc7 := P.cell 7 _ rfl
    have Pc8 := P.cell 8 _ rfl
    have Pl := P.lt
    go_wp2_with fail
    clear Pc0 Pc1 Pc2 Pc3 Pc4 Pc5 Pc6 Pc7 Pc8 Pl
    refine (C2.out _).mono ?_
    rintro e w2 ⟨rfl, B⟩
    replace P := P.step B
    replace H := Lib.hid (bl_trans H.out B)
    clear B
    have Pc0 := P.cell 0 _ rfl
    have Pc1 := P.cell 1 _ rfl
    have Pc2 := P.cell 2 _ rfl
    have Pc3 := P.cell 3 _ rfl
    have Pc4 := P.cell 4 _ rfl
    have Pc5 := P.cell 5 _ rfl
    have Pc6 := P.cell 6 _ rfl
    have Pc7 := P.cell 7 _ rfl
    have Pc8 := P.cell 8 _ rfl
    have Pl := P.lt
    go_wp2
    go_ret
    exact ⟨ret_b (by rw [E.out]), H.out⟩
  by_cases x5 : g ≤ 3
  rotate_left
  · have y5 : decide (g ≤ 3) = false := decide_eq_false x5
    have E := Lib.hid (show ownB k ax ay fx fy u g d o = false from own_no (by exact fun q => x5 q.2.2.2.2.2.1.2))
    clear h2 h3 x5
    have P : CellsAt (w.alloc (.cells #[.int .i64 k, .int .i64 ax, .int .i64 ay, .int .i64 fx, .int .i64 fy, .int .i64 u, .int .i64 g, .bool d, .bool o] 31)) w.heap.size (stv k ax ay fx fy u g d o) := CellsAt.new w _ _ _ rfl
    have H := Lib.hid (bl_alloc (bl_refl w) (.cells #[.int .i64 k, .int .i64 ax, .int .i64 ay, .int .i64 fx, .int .i64 fy, .int .i64 u, .int .i64 g, .bool d, .bool o] 31))
    go_enter Tryd.func50, Tryd.ntmps50
    have Pc0 := P.cell 0 _ rfl
    have Pc1 := P.cell 1 _ rfl
    have Pc2 := P.cell 2 _ rfl
    have Pc3 := P.cell 3 _ rfl
    have Pc4 := P.cell 4 _ rfl
    have Pc5 := P.cell 5 _ rfl
    have Pc6 := P.cell 6 _ rfl
    have Pc7 := P.cell 7 _ rfl
    have Pc8 := P.cell 8 _ rfl
    have Pl := P.lt
    go_wp2_with fail
    clear Pc0 Pc1 Pc2 Pc3 Pc4 Pc5 Pc6 Pc7 Pc8 Pl
    refine (C1.out _).mono ?_
    rintro e w1 ⟨rfl, B⟩
    replace P := P.step B
    replace H := Lib.hid (bl_trans H.out B)
    clear B
    have Pc0 := P.cell 0 _ rfl
    have Pc1 := P.cell 1 _ rfl
    have Pc2 := P.cell 2 _ rfl
    have Pc3 := P.cell 3 _ rfl
    have Pc4 := P.cell 4 _ rfl
    have Pc5 := P.cell 5 _ rfl
    have Pc6 := P.cell 6 _ rfl
    have Pc7 := P.cell 7 _ rfl
    have Pc8 := P.cell 8 _ rfl
    have Pl := P.lt
    go_wp2_with fail
    clear Pc0 Pc1 Pc2 Pc3 Pc4 Pc5 Pc6 Pc7 Pc8 Pl
    refine (C2.out _).mono ?_
    rintro e w2 ⟨rfl, B⟩
    replace P := P.step B
    replace H := Lib.hid (bl_trans H.out B)
    clear B
    have Pc0 := P.cell 0 _ rfl
    have Pc1 := P.cell 1 _ rfl
    have Pc2 := P.cell 2 _ rfl
    have Pc3 := P.cell 3 _ rfl
    have Pc4 := P.cell 4 _ rfl
    have Pc5 := P.cell 5 _ rfl
    have Pc6 := P.cell 6 _ rfl
    have Pc7 := P.cell 7 _ rfl
    have Pc8 := P.cell 8 _ rfl
    have Pl := P.lt
    go_wp2
    go_ret
    exact ⟨ret_b (by rw [E.out]), H.out⟩
  have E0 : ownB k ax ay fx fy u g d o = !(d && o) := by
    cases e : (d && o)
    · exact (own_iff0 ..).2 ⟨⟨x0, x1⟩, h2, h3, h4, ⟨x2, by omega⟩, ⟨x4, x5⟩, e⟩
    · exact own_no (by rw [e]; simp)
  have E := Lib.hid E0
  clear E0 h2 h3
  cases d <;> cases o
  · have P : CellsAt (w.alloc (.cells #[.int .i64 k, .int .i64 ax, .int .i64 ay, .int .i64 fx, .int .i64 fy, .int .i64 u, .int .i64 g, .bool false, .bool false] 31)) w.heap.size (stv k ax ay fx fy u g false false) := CellsAt.new w _ _ _ rfl
    have H := Lib.hid (bl_alloc (bl_refl w) (.cells #[.int .i64 k, .int .i64 ax, .int .i64 ay, .int .i64 fx, .int .i64 fy, .int .i64 u, .int .i64 g, .bool false, .bool false] 31))
    go_enter Tryd.func50, Tryd.ntmps50
    have Pc0 := P.cell 0 _ rfl
    have Pc1 := P.cell 1 _ rfl
    have Pc2 := P.cell 2 _ rfl
    have Pc3 := P.cell 3 _ rfl
    have Pc4 := P.cell 4 _ rfl
    have Pc5 := P.cell 5 _ rfl
    have Pc6 := P.cell 6 _ rfl
    have Pc7 := P.cell 7 _ rfl
    have Pc8 := P.cell 8 _ rfl
    have Pl := P.lt
    go_wp2_with fail
    clear Pc0 Pc1 Pc2 Pc3 Pc4 Pc5 Pc6 Pc7 Pc8 Pl
    refine (C1.out _).mono ?_
    rintro e w1 ⟨rfl, B⟩
    replace P := P.step B
    replace H := Lib.hid (bl_trans H.out B)
    clear B
    have Pc0 := P.cell 0 _ rfl
    have Pc1 := P.cell 1 _ rfl
    have Pc2 := P.cell 2 _ rfl
    have Pc3 := P.cell 3 _ rfl
    have Pc4 := P.cell 4 _ rfl
    have Pc5 := P.cell 5 _ rfl
    have Pc6 := P.cell 6 _ rfl
    have Pc7 := P.cell 7 _ rfl
    have Pc8 := P.cell 8 _ rfl
    have Pl := P.lt
    go_wp2_with fail
    clear Pc0 Pc1 Pc2 Pc3 Pc4 Pc5 Pc6 Pc7 Pc8 Pl
    refine (C2.out _).mono ?_
    rintro e w2 ⟨rfl, B⟩
    replace P := P.step B
    replace H := Lib.hid (bl_trans H.out B)
    clear B
    have Pc0 := P.cell 0 _ rfl
    have Pc1 := P.cell 1 _ rfl
    have Pc2 := P.cell 2 _ rfl
    have Pc3 := P.cell 3 _ rfl
    have Pc4 := P.cell 4 _ rfl
    have Pc5 := P.cell 5 _ rfl
    have Pc6 := P.cell 6 _ rfl
    have Pc7 := P.cell 7 _ rfl
    have Pc8 := P.cell 8 _ rfl
    have Pl := P.lt
    go_wp2
    go_ret
    exact ⟨ret_b (by rw [E.out]; rfl), H.out⟩
  · have P : CellsAt (w.alloc (.cells #[.int .i64 k, .int .i64 ax, .int .i64 ay, .int .i64 fx, .int .i64 fy, .int .i64 u, .int .i64 g, .bool false, .bool true] 31)) w.heap.size (stv k ax ay fx fy u g false true) := CellsAt.new w _ _ _ rfl
    have H := Lib.hid (bl_alloc (bl_refl w) (.cells #[.int .i64 k, .int .i64 ax, .int .i64 ay, .int .i64 fx, .int .i64 fy, .int .i64 u, .int .i64 g, .bool false, .bool true] 31))
    go_enter Tryd.func50, Tryd.ntmps50
    have Pc0 := P.cell 0 _ rfl
    have Pc1 := P.cell 1 _ rfl
    have Pc2 := P.cell 2 _ rfl
    have Pc3 := P.cell 3 _ rfl
    have Pc4 := P.cell 4 _ rfl
    have Pc5 := P.cell 5 _ rfl
    have Pc6 := P.cell 6 _ rfl
    have Pc7 := P.cell 7 _ rfl
    have Pc8 := P.cell 8 _ rfl
    have Pl := P.lt
    go_wp2_with fail
    clear Pc0 Pc1 Pc2 Pc3 Pc4 Pc5 Pc6 Pc7 Pc8 Pl
    refine (C1.out _).mono ?_
    rintro e w1 ⟨rfl, B⟩
    replace P := P.step B
    replace H := Lib.hid (bl_trans H.out B)
    clear B
    have Pc0 := P.cell 0 _ rfl
    have Pc1 := P.cell 1 _ rfl
    have Pc2 := P.cell 2 _ rfl
    have Pc3 := P.cell 3 _ rfl
    have Pc4 := P.cell 4 _ rfl
    have Pc5 := P.cell 5 _ rfl
    have Pc6 := P.cell 6 _ rfl
    have Pc7 := P.cell 7 _ rfl
    have Pc8 := P.cell 8 _ rfl
    have Pl := P.lt
    go_wp2_with fail
    clear Pc0 Pc1 Pc2 Pc3 Pc4 Pc5 Pc6 Pc7 Pc8 Pl
    refine (C2.out _).mono ?_
    rintro e w2 ⟨rfl, B⟩
    replace P := P.step B
    replace H := Lib.hid (bl_trans H.out B)
    clear B
    have Pc0 := P.cell 0 _ rfl
    have Pc1 := P.cell 1 _ rfl
    have Pc2 := P.cell 2 _ rfl
    have Pc3 := P.cell 3 _ rfl
    have Pc4 := P.cell 4 _ rfl
    have Pc5 := P.cell 5 _ rfl
    have Pc6 := P.cell 6 _ rfl
    have Pc7 := P.cell 7 _ rfl
    have Pc8 := P.cell 8 _ rfl
    have Pl := P.lt
    go_wp2
    go_ret
    exact ⟨ret_b (by rw [E.out]; rfl), H.out⟩
  · have P : CellsAt (w.alloc (.cells #[.int .i64 k, .int .i64 ax, .int .i64 ay, .int .i64 fx, .int .i64 fy, .int .i64 u, .int .i64 g, .bool true, .bool false] 31)) w.heap.size (stv k ax ay fx fy u g true false) := CellsAt.new w _ _ _ rfl
    have H := Lib.hid (bl_alloc (bl_refl w) (.cells #[.int .i64 k, .int .i64 ax, .int .i64 ay, .int .i64 fx, .int .i64 fy, .int .i64 u, .int .i64 g, .bool true, .bool false] 31))
    go_enter Tryd.func50, Tryd.ntmps50
    have Pc0 := P.cell 0 _ rfl
    have Pc1 := P.cell 1 _ rfl
    have Pc2 := P.cell 2 _ rfl
    have Pc3 := P.cell 3 _ rfl
    have Pc4 := P.cell 4 _ rfl
    have Pc5 := P.cell 5 _ rfl
    have Pc6 := P.cell 6 _ rfl
    have Pc7 := P.cell 7 _ rfl
    have Pc8 := P.cell 8 _ rfl
    have Pl := P.lt
    go_wp2_with fail
    clear Pc0 Pc1 Pc2 Pc3 Pc4 Pc5 Pc6 Pc7 Pc8 Pl
    refine (C1.out _).mono ?_
    rintro e w1 ⟨rfl, B⟩
    replace P := P.step B
    replace H := Lib.hid (bl_trans H.out B)
    clear B
    have Pc0 := P.cell 0 _ rfl
    have Pc1 := P.cell 1 _ rfl
    have Pc2 := P.cell 2 _ rfl
    have Pc3 := P.cell 3 _ rfl
    have Pc4 := P.cell 4 _ rfl
    have Pc5 := P.cell 5 _ rfl
    have Pc6 := P.cell 6 _ rfl
    have Pc7 := P.cell 7 _ rfl
    have Pc8 := P.cell 8 _ rfl
    have Pl := P.lt
    go_wp2_with fail
    clear Pc0 Pc1 Pc2 Pc3 Pc4 Pc5 Pc6 Pc7 Pc8 Pl
    refine (C2.out _).mono ?_
    rintro e w2 ⟨rfl, B⟩
    replace P := P.step B
    replace H := Lib.hid (bl_trans H.out B)
    clear B
    have Pc0 := P.cell 0 _ rfl
    have Pc1 := P.cell 1 _ rfl
    have Pc2 := P.cell 2 _ rfl
    have Pc3 := P.cell 3 _ rfl
    have Pc4 := P.cell 4 _ rfl
    have Pc5 := P.cell 5 _ rfl
    have Pc6 := P.cell 6 _ rfl
    have Pc7 := P.cell 7 _ rfl
    have Pc8 := P.cell 8 _ rfl
    have Pl := P.lt
    go_wp2
    go_ret
    exact ⟨ret_b (by rw [E.out]; rfl), H.out⟩
  · have P : CellsAt (w.alloc (.cells #[.int .i64 k, .int .i64 ax, .int .i64 ay, .int .i64 fx, .int .i64 fy, .int .i64 u, .int .i64 g, .bool true, .bool true] 31)) w.heap.size (stv k ax ay fx fy u g true true) := CellsAt.new w _ _ _ rfl
    have H := Lib.hid (bl_alloc (bl_refl w) (.cells #[.int .i64 k, .int .i64 ax, .int .i64 ay, .int .i64 fx, .int .i64 fy, .int .i64 u, .int .i64 g, .bool true, .bool true] 31))
    go_enter Tryd.func50, Tryd.ntmps50
    have Pc0 := P.cell 0 _ rfl
    have Pc1 := P.cell 1 _ rfl
    have Pc2 := P.cell 2 _ rfl
    have Pc3 := P.cell 3 _ rfl
    have Pc4 := P.cell 4 _ rfl
    have Pc5 := P.cell 5 _ rfl
    have Pc6 := P.cell 6 _ rfl
    have Pc7 := P.cell 7 _ rfl
    have Pc8 := P.cell 8 _ rfl
    have Pl := P.lt
    go_wp2_with fail
    clear Pc0 Pc1 Pc2 Pc3 Pc4 Pc5 Pc6 Pc7 Pc8 Pl
    refine (C1.out _).mono ?_
    rintro e w1 ⟨rfl, B⟩
    replace P := P.step B
    replace H := Lib.hid (bl_trans H.out B)
    clear B
    have Pc0 := P.cell 0 _ rfl
    have Pc1 := P.cell 1 _ rfl
    have Pc2 := P.cell 2 _ rfl
    have Pc3 := P.cell 3 _ rfl
    have Pc4 := P.cell 4 _ rfl
    have Pc5 := P.cell 5 _ rfl
    have Pc6 := P.cell 6 _ rfl
    have Pc7 := P.cell 7 _ rfl
    have Pc8 := P.cell 8 _ rfl
    have Pl := P.lt
    go_wp2_with fail
    clear Pc0 Pc1 Pc2 Pc3 Pc4 Pc5 Pc6 Pc7 Pc8 Pl
    refine (C2.out _).mono ?_
    rintro e w2 ⟨rfl, B⟩
    replace P := P.step B
    replace H := Lib.hid (bl_trans H.out B)
    clear B
    have Pc0 := P.cell 0 _ rfl
    have Pc1 := P.cell 1 _ rfl
    have Pc2 := P.cell 2 _ rfl
    have Pc3 := P.cell 3 _ rfl
    have Pc4 := P.cell 4 _ rfl
    have Pc5 := P.cell 5 _ rfl
    have Pc6 := P.cell 6 _ rfl
    have Pc7 := P.cell 7 _ rfl
    have Pc8 := P.cell 8 _ rfl
    have Pl := P.lt
    go_wp2
    go_ret
    exact ⟨ret_b (by rw [E.out]; rfl), H.out⟩

set_option maxRecDepth 100000 in
set_option maxHeartbeats 4000000 in
theorem implEValid (i t x y : Int) (A : Option Addr) (n c : Nat) (G : Option Addr) (m kk : Nat) (fp fq fs fz b : Int) (ws gs : List Bx) (k ax ay fx fy u g : Int) (d o : Bool) (w : World) (I : Boxes w A n ws) (J : Boxes w G m gs) (hn : n ≤ 281474976710656) (hm : m ≤ 281474976710656) : Calls Tryd.prog 22 #[lev i t x y A n c G m kk fp fq fs fz b, sta k ax ay fx fy u g d o] w fun e w' => e = .returned (.bool (evB i t x y ws gs fp fq fs fz b k ax ay fx fy u g d o)) ∧ Below w.heap.size w w' := by
  have hl2 : gs.length = m := J.1
  have O := fun W => implPoss k ax ay fx fy u g d o W
  have V := fun (W : World) (Z : Boxes W A n ws) (Y : Boxes W G m gs) => implLvFree i t x y A n c G m kk fp fq fs fz b ws gs ax ay W Z Y hn hm
  have I := Lib.hid I
  have J := Lib.hid J
  cases h2 : ownB k ax ay fx fy u g d o
  · rw [h2] at O
    have O := Lib.hid O
    have E := Lib.hid (show evB i t x y ws gs fp fq fs fz b k ax ay fx fy u g d o = false by simp [evB, h2])
    clear V h2 hl2
    have L : CellsAt ((w.alloc (.cells #[.int .i64 i, .int .i64 t, .int .i64 x, .int .i64 y, .slice A n c, .slice G m kk, .int .i64 fp, .int .i64 fq, .int .i64 fs, .int .i64 fz, .int .i64 b] 29)).alloc (.cells #[.int .i64 k, .int .i64 ax, .int .i64 ay, .int .i64 fx, .int .i64 fy, .int .i64 u, .int .i64 g, .bool d, .bool o] 31)) w.heap.size (lvs i t x y A n c G m kk fp fq fs fz b) := (CellsAt.new w _ _ _ rfl).alloc _
    have S : CellsAt ((w.alloc (.cells #[.int .i64 i, .int .i64 t, .int .i64 x, .int .i64 y, .slice A n c, .slice G m kk, .int .i64 fp, .int .i64 fq, .int .i64 fs, .int .i64 fz, .int .i64 b] 29)).alloc (.cells #[.int .i64 k, .int .i64 ax, .int .i64 ay, .int .i64 fx, .int .i64 fy, .int .i64 u, .int .i64 g, .bool d, .bool o] 31)) (w.heap.size + 1) (stv k ax ay fx fy u g d o) := CellsAt.new _ _ _ _ (by simp)
    have H := Lib.hid (bl_alloc (bl_alloc (bl_refl w) (.cells #[.int .i64 i, .int .i64 t, .int .i64 x, .int .i64 y, .slice A n c, .slice G m kk, .int .i64 fp, .int .i64 fq, .int .i64 fs, .int .i64 fz, .int .i64 b] 29)) (.cells #[.int .i64 k, .int .i64 ax, .int .i64 ay, .int .i64 fx, .int .i64 fy, .int .i64 u, .int .i64 g, .bool d, .bool o] 31))
    replace I := Lib.hid ((I.out.alloc (.cells #[.int .i64 i, .int .i64 t, .int .i64 x, .int .i64 y, .slice A n c, .slice G m kk, .int .i64 fp, .int .i64 fq, .int .i64 fs, .int .i64 fz, .int .i64 b] 29)).alloc (.cells #[.int .i64 k, .int .i64 ax, .int .i64 ay, .int .i64 fx, .int .i64 fy, .int .i64 u, .int .i64 g, .bool d, .bool o] 31))
    replace J := Lib.hid ((J.out.alloc (.cells #[.int .i64 i, .int .i64 t, .int .i64 x, .int .i64 y, .slice A n c, .slice G m kk, .int .i64 fp, .int .i64 fq, .int .i64 fs, .int .i64 fz, .int .i64 b] 29)).alloc (.cells #[.int .i64 k, .int .i64 ax, .int .i64 ay, .int .i64 fx, .int .i64 fy, .int .i64 u, .int .i64 g, .bool d, .bool o] 31))
    go_enter Tryd.func22, Tryd.ntmps22
    have Lc0 := L.cell 0 _ rfl
    have Lc1 := L.cell 1 _ rfl
    have Lc2 := L.cell 2 _ rfl
    have Lc3 := L.cell 3 _ rfl
    have Lc4 := L.cell 4 _ rfl
    have Lc5 := L.cell 5 _ rfl
    have Lc6 := L.cell 6 _ rfl
    have Lc7 := L.cell 7 _ rfl
    have Lc8 := L.cell 8 _ rfl
    have Lc9 := L.cell 9 _ rfl
    have Lc10 := L.cell 10 _ rfl
    have Ll := L.lt
    have Sc0 := S.cell 0 _ rfl
    have Sc1 := S.cell 1 _ rfl
    have Sc2 := S.cell 2 _ rfl
    have Sc3 := S.cell 3 _ rfl
    have Sc4 := S.cell 4 _ rfl
    have Sc5 := S.cell 5 _ rfl
    have Sc6 := S.cell 6 _ rfl
    have Sc7 := S.cell 7 _ rfl
    have Sc8 := S.cell 8 _ rfl
    have Sl := S.lt
    go_wp2_with fail
    refine (O.out _).mono ?_
    rintro e w1 ⟨rfl, B⟩
    replace L := L.step B
    replace S := S.step B
    replace I := Lib.hid (I.out.step B)
    replace J := Lib.hid (J.out.step B)
    replace H := Lib.hid (bl_trans H.out B)
    clear B
    clear Lc0 Lc1 Lc2 Lc3 Lc4 Lc5 Lc6 Lc7 Lc8 Lc9 Lc10 Ll Sc0 Sc1 Sc2 Sc3 Sc4 Sc5 Sc6 Sc7 Sc8 Sl
    have Lc0 := L.cell 0 _ rfl
    have Lc1 := L.cell 1 _ rfl
    have Lc2 := L.cell 2 _ rfl
    have Lc3 := L.cell 3 _ rfl
    have Lc4 := L.cell 4 _ rfl
    have Lc5 := L.cell 5 _ rfl
    have Lc6 := L.cell 6 _ rfl
    have Lc7 := L.cell 7 _ rfl
    have Lc8 := L.cell 8 _ rfl
    have Lc9 := L.cell 9 _ rfl
    have Lc10 := L.cell 10 _ rfl
    have Ll := L.lt
    have Sc0 := S.cell 0 _ rfl
    have Sc1 := S.cell 1 _ rfl
    have Sc2 := S.cell 2 _ rfl
    have Sc3 := S.cell 3 _ rfl
    have Sc4 := S.cell 4 _ rfl
    have Sc5 := S.cell 5 _ rfl
    have Sc6 := S.cell 6 _ rfl
    have Sc7 := S.cell 7 _ rfl
    have Sc8 := S.cell 8 _ rfl
    have Sl := S.lt
    go_wp2
    go_ret
    exact ⟨ret_b (by rw [E.out]), H.out⟩
  have ha := ((own_iff0 ..).1 h2).2.1
  rw [h2] at O
  have O := Lib.hid O
  cases h5 : lfB i t x y ws gs fp fq fs fz b ax ay
  · rw [h5] at V
    have V := Lib.hid V
    have E := Lib.hid (show evB i t x y ws gs fp fq fs fz b k ax ay fx fy u g d o = false by
      simp only [lfB, ha, Bool.and_true] at h5
      cases h1 : lvB i t x y ws gs fp fq fs fz b
      · simp [evB, h1]
      · rw [h1, Bool.true_and] at h5
        simp [evB, h5])
    clear h2 h5 ha hl2
    have L : CellsAt ((w.alloc (.cells #[.int .i64 i, .int .i64 t, .int .i64 x, .int .i64 y, .slice A n c, .slice G m kk, .int .i64 fp, .int .i64 fq, .int .i64 fs, .int .i64 fz, .int .i64 b] 29)).alloc (.cells #[.int .i64 k, .int .i64 ax, .int .i64 ay, .int .i64 fx, .int .i64 fy, .int .i64 u, .int .i64 g, .bool d, .bool o] 31)) w.heap.size (lvs i t x y A n c G m kk fp fq fs fz b) := (CellsAt.new w _ _ _ rfl).alloc _
    have S : CellsAt ((w.alloc (.cells #[.int .i64 i, .int .i64 t, .int .i64 x, .int .i64 y, .slice A n c, .slice G m kk, .int .i64 fp, .int .i64 fq, .int .i64 fs, .int .i64 fz, .int .i64 b] 29)).alloc (.cells #[.int .i64 k, .int .i64 ax, .int .i64 ay, .int .i64 fx, .int .i64 fy, .int .i64 u, .int .i64 g, .bool d, .bool o] 31)) (w.heap.size + 1) (stv k ax ay fx fy u g d o) := CellsAt.new _ _ _ _ (by simp)
    have H := Lib.hid (bl_alloc (bl_alloc (bl_refl w) (.cells #[.int .i64 i, .int .i64 t, .int .i64 x, .int .i64 y, .slice A n c, .slice G m kk, .int .i64 fp, .int .i64 fq, .int .i64 fs, .int .i64 fz, .int .i64 b] 29)) (.cells #[.int .i64 k, .int .i64 ax, .int .i64 ay, .int .i64 fx, .int .i64 fy, .int .i64 u, .int .i64 g, .bool d, .bool o] 31))
    replace I := Lib.hid ((I.out.alloc (.cells #[.int .i64 i, .int .i64 t, .int .i64 x, .int .i64 y, .slice A n c, .slice G m kk, .int .i64 fp, .int .i64 fq, .int .i64 fs, .int .i64 fz, .int .i64 b] 29)).alloc (.cells #[.int .i64 k, .int .i64 ax, .int .i64 ay, .int .i64 fx, .int .i64 fy, .int .i64 u, .int .i64 g, .bool d, .bool o] 31))
    replace J := Lib.hid ((J.out.alloc (.cells #[.int .i64 i, .int .i64 t, .int .i64 x, .int .i64 y, .slice A n c, .slice G m kk, .int .i64 fp, .int .i64 fq, .int .i64 fs, .int .i64 fz, .int .i64 b] 29)).alloc (.cells #[.int .i64 k, .int .i64 ax, .int .i64 ay, .int .i64 fx, .int .i64 fy, .int .i64 u, .int .i64 g, .bool d, .bool o] 31))
    go_enter Tryd.func22, Tryd.ntmps22
    have Lc0 := L.cell 0 _ rfl
    have Lc1 := L.cell 1 _ rfl
    have Lc2 := L.cell 2 _ rfl
    have Lc3 := L.cell 3 _ rfl
    have Lc4 := L.cell 4 _ rfl
    have Lc5 := L.cell 5 _ rfl
    have Lc6 := L.cell 6 _ rfl
    have Lc7 := L.cell 7 _ rfl
    have Lc8 := L.cell 8 _ rfl
    have Lc9 := L.cell 9 _ rfl
    have Lc10 := L.cell 10 _ rfl
    have Ll := L.lt
    have Sc0 := S.cell 0 _ rfl
    have Sc1 := S.cell 1 _ rfl
    have Sc2 := S.cell 2 _ rfl
    have Sc3 := S.cell 3 _ rfl
    have Sc4 := S.cell 4 _ rfl
    have Sc5 := S.cell 5 _ rfl
    have Sc6 := S.cell 6 _ rfl
    have Sc7 := S.cell 7 _ rfl
    have Sc8 := S.cell 8 _ rfl
    have Sl := S.lt
    go_wp2_with fail
    refine (O.out _).mono ?_
    rintro e w1 ⟨rfl, B⟩
    replace L := L.step B
    replace S := S.step B
    replace I := Lib.hid (I.out.step B)
    replace J := Lib.hid (J.out.step B)
    replace H := Lib.hid (bl_trans H.out B)
    clear B
    clear Lc0 Lc1 Lc2 Lc3 Lc4 Lc5 Lc6 Lc7 Lc8 Lc9 Lc10 Ll Sc0 Sc1 Sc2 Sc3 Sc4 Sc5 Sc6 Sc7 Sc8 Sl
    have Lc0 := L.cell 0 _ rfl
    have Lc1 := L.cell 1 _ rfl
    have Lc2 := L.cell 2 _ rfl
    have Lc3 := L.cell 3 _ rfl
    have Lc4 := L.cell 4 _ rfl
    have Lc5 := L.cell 5 _ rfl
    have Lc6 := L.cell 6 _ rfl
    have Lc7 := L.cell 7 _ rfl
    have Lc8 := L.cell 8 _ rfl
    have Lc9 := L.cell 9 _ rfl
    have Lc10 := L.cell 10 _ rfl
    have Ll := L.lt
    have Sc0 := S.cell 0 _ rfl
    have Sc1 := S.cell 1 _ rfl
    have Sc2 := S.cell 2 _ rfl
    have Sc3 := S.cell 3 _ rfl
    have Sc4 := S.cell 4 _ rfl
    have Sc5 := S.cell 5 _ rfl
    have Sc6 := S.cell 6 _ rfl
    have Sc7 := S.cell 7 _ rfl
    have Sc8 := S.cell 8 _ rfl
    have Sl := S.lt
    go_wp2_with fail
    refine (V.out _ I.out J.out).mono ?_
    rintro e w2 ⟨rfl, B⟩
    replace L := L.step B
    replace S := S.step B
    replace I := Lib.hid (I.out.step B)
    replace J := Lib.hid (J.out.step B)
    replace H := Lib.hid (bl_trans H.out B)
    clear B
    clear Lc0 Lc1 Lc2 Lc3 Lc4 Lc5 Lc6 Lc7 Lc8 Lc9 Lc10 Ll Sc0 Sc1 Sc2 Sc3 Sc4 Sc5 Sc6 Sc7 Sc8 Sl
    have Lc0 := L.cell 0 _ rfl
    have Lc1 := L.cell 1 _ rfl
    have Lc2 := L.cell 2 _ rfl
    have Lc3 := L.cell 3 _ rfl
    have Lc4 := L.cell 4 _ rfl
    have Lc5 := L.cell 5 _ rfl
    have Lc6 := L.cell 6 _ rfl
    have Lc7 := L.cell 7 _ rfl
    have Lc8 := L.cell 8 _ rfl
    have Lc9 := L.cell 9 _ rfl
    have Lc10 := L.cell 10 _ rfl
    have Ll := L.lt
    have Sc0 := S.cell 0 _ rfl
    have Sc1 := S.cell 1 _ rfl
    have Sc2 := S.cell 2 _ rfl
    have Sc3 := S.cell 3 _ rfl
    have Sc4 := S.cell 4 _ rfl
    have Sc5 := S.cell 5 _ rfl
    have Sc6 := S.cell 6 _ rfl
    have Sc7 := S.cell 7 _ rfl
    have Sc8 := S.cell 8 _ rfl
    have Sl := S.lt
    go_wp2
    go_ret
    exact ⟨ret_b (by rw [E.out]), H.out⟩
  obtain ⟨h1, h6⟩ : lvB i t x y ws gs fp fq fs fz b = true ∧ frB ws ax ay = true := by
    simp only [lfB, ha, Bool.and_true, Bool.and_eq_true] at h5
    exact h5
  rw [h5] at V
  have V := Lib.hid V
  by_cases h3 : k ≤ t
  rotate_left
  · have d3 : decide (k ≤ t) = false := decide_eq_false h3
    have E := Lib.hid (show evB i t x y ws gs fp fq fs fz b k ax ay fx fy u g d o = false by simp only [evB, d3]; simp)
    clear h1 h2 h5 h6 ha h3 hl2
    have L : CellsAt ((w.alloc (.cells #[.int .i64 i, .int .i64 t, .int .i64 x, .int .i64 y, .slice A n c, .slice G m kk, .int .i64 fp, .int .i64 fq, .int .i64 fs, .int .i64 fz, .int .i64 b] 29)).alloc (.cells #[.int .i64 k, .int .i64 ax, .int .i64 ay, .int .i64 fx, .int .i64 fy, .int .i64 u, .int .i64 g, .bool d, .bool o] 31)) w.heap.size (lvs i t x y A n c G m kk fp fq fs fz b) := (CellsAt.new w _ _ _ rfl).alloc _
    have S : CellsAt ((w.alloc (.cells #[.int .i64 i, .int .i64 t, .int .i64 x, .int .i64 y, .slice A n c, .slice G m kk, .int .i64 fp, .int .i64 fq, .int .i64 fs, .int .i64 fz, .int .i64 b] 29)).alloc (.cells #[.int .i64 k, .int .i64 ax, .int .i64 ay, .int .i64 fx, .int .i64 fy, .int .i64 u, .int .i64 g, .bool d, .bool o] 31)) (w.heap.size + 1) (stv k ax ay fx fy u g d o) := CellsAt.new _ _ _ _ (by simp)
    have H := Lib.hid (bl_alloc (bl_alloc (bl_refl w) (.cells #[.int .i64 i, .int .i64 t, .int .i64 x, .int .i64 y, .slice A n c, .slice G m kk, .int .i64 fp, .int .i64 fq, .int .i64 fs, .int .i64 fz, .int .i64 b] 29)) (.cells #[.int .i64 k, .int .i64 ax, .int .i64 ay, .int .i64 fx, .int .i64 fy, .int .i64 u, .int .i64 g, .bool d, .bool o] 31))
    replace I := Lib.hid ((I.out.alloc (.cells #[.int .i64 i, .int .i64 t, .int .i64 x, .int .i64 y, .slice A n c, .slice G m kk, .int .i64 fp, .int .i64 fq, .int .i64 fs, .int .i64 fz, .int .i64 b] 29)).alloc (.cells #[.int .i64 k, .int .i64 ax, .int .i64 ay, .int .i64 fx, .int .i64 fy, .int .i64 u, .int .i64 g, .bool d, .bool o] 31))
    replace J := Lib.hid ((J.out.alloc (.cells #[.int .i64 i, .int .i64 t, .int .i64 x, .int .i64 y, .slice A n c, .slice G m kk, .int .i64 fp, .int .i64 fq, .int .i64 fs, .int .i64 fz, .int .i64 b] 29)).alloc (.cells #[.int .i64 k, .int .i64 ax, .int .i64 ay, .int .i64 fx, .int .i64 fy, .int .i64 u, .int .i64 g, .bool d, .bool o] 31))
    go_enter Tryd.func22, Tryd.ntmps22
    have Lc0 := L.cell 0 _ rfl
    have Lc1 := L.cell 1 _ rfl
    have Lc2 := L.cell 2 _ rfl
    have Lc3 := L.cell 3 _ rfl
    have Lc4 := L.cell 4 _ rfl
    have Lc5 := L.cell 5 _ rfl
    have Lc6 := L.cell 6 _ rfl
    have Lc7 := L.cell 7 _ rfl
    have Lc8 := L.cell 8 _ rfl
    have Lc9 := L.cell 9 _ rfl
    have Lc10 := L.cell 10 _ rfl
    have Ll := L.lt
    have Sc0 := S.cell 0 _ rfl
    have Sc1 := S.cell 1 _ rfl
    have Sc2 := S.cell 2 _ rfl
    have Sc3 := S.cell 3 _ rfl
    have Sc4 := S.cell 4 _ rfl
    have Sc5 := S.cell 5 _ rfl
    have Sc6 := S.cell 6 _ rfl
    have Sc7 := S.cell 7 _ rfl
    have Sc8 := S.cell 8 _ rfl
    have Sl := S.lt
    go_wp2_with fail
    refine (O.out _).mono ?_
    rintro e w1 ⟨rfl, B⟩
    replace L := L.step B
    replace S := S.step B
    replace I := Lib.hid (I.out.step B)
    replace J := Lib.hid (J.out.step B)
    replace H := Lib.hid (bl_trans H.out B)
    clear B
    clear Lc0 Lc1 Lc2 Lc3 Lc4 Lc5 Lc6 Lc7 Lc8 Lc9 Lc10 Ll Sc0 Sc1 Sc2 Sc3 Sc4 Sc5 Sc6 Sc7 Sc8 Sl
    have Lc0 := L.cell 0 _ rfl
    have Lc1 := L.cell 1 _ rfl
    have Lc2 := L.cell 2 _ rfl
    have Lc3 := L.cell 3 _ rfl
    have Lc4 := L.cell 4 _ rfl
    have Lc5 := L.cell 5 _ rfl
    have Lc6 := L.cell 6 _ rfl
    have Lc7 := L.cell 7 _ rfl
    have Lc8 := L.cell 8 _ rfl
    have Lc9 := L.cell 9 _ rfl
    have Lc10 := L.cell 10 _ rfl
    have Ll := L.lt
    have Sc0 := S.cell 0 _ rfl
    have Sc1 := S.cell 1 _ rfl
    have Sc2 := S.cell 2 _ rfl
    have Sc3 := S.cell 3 _ rfl
    have Sc4 := S.cell 4 _ rfl
    have Sc5 := S.cell 5 _ rfl
    have Sc6 := S.cell 6 _ rfl
    have Sc7 := S.cell 7 _ rfl
    have Sc8 := S.cell 8 _ rfl
    have Sl := S.lt
    go_wp2_with fail
    refine (V.out _ I.out J.out).mono ?_
    rintro e w2 ⟨rfl, B⟩
    replace L := L.step B
    replace S := S.step B
    replace I := Lib.hid (I.out.step B)
    replace J := Lib.hid (J.out.step B)
    replace H := Lib.hid (bl_trans H.out B)
    clear B
    clear Lc0 Lc1 Lc2 Lc3 Lc4 Lc5 Lc6 Lc7 Lc8 Lc9 Lc10 Ll Sc0 Sc1 Sc2 Sc3 Sc4 Sc5 Sc6 Sc7 Sc8 Sl
    have Lc0 := L.cell 0 _ rfl
    have Lc1 := L.cell 1 _ rfl
    have Lc2 := L.cell 2 _ rfl
    have Lc3 := L.cell 3 _ rfl
    have Lc4 := L.cell 4 _ rfl
    have Lc5 := L.cell 5 _ rfl
    have Lc6 := L.cell 6 _ rfl
    have Lc7 := L.cell 7 _ rfl
    have Lc8 := L.cell 8 _ rfl
    have Lc9 := L.cell 9 _ rfl
    have Lc10 := L.cell 10 _ rfl
    have Ll := L.lt
    have Sc0 := S.cell 0 _ rfl
    have Sc1 := S.cell 1 _ rfl
    have Sc2 := S.cell 2 _ rfl
    have Sc3 := S.cell 3 _ rfl
    have Sc4 := S.cell 4 _ rfl
    have Sc5 := S.cell 5 _ rfl
    have Sc6 := S.cell 6 _ rfl
    have Sc7 := S.cell 7 _ rfl
    have Sc8 := S.cell 8 _ rfl
    have Sl := S.lt
    go_wp2
    go_ret
    exact ⟨ret_b (by rw [E.out]), H.out⟩
  by_cases h4 : g ≤ (m : Int)
  rotate_left
  · have d4 : decide (g ≤ (m : Int)) = false := decide_eq_false h4
    have E := Lib.hid (show evB i t x y ws gs fp fq fs fz b k ax ay fx fy u g d o = false by simp only [evB, hl2, d4]; simp)
    clear h1 h2 h5 h6 ha h4 hl2
    have L : CellsAt ((w.alloc (.cells #[.int .i64 i, .int .i64 t, .int .i64 x, .int .i64 y, .slice A n c, .slice G m kk, .int .i64 fp, .int .i64 fq, .int .i64 fs, .int .i64 fz, .int .i64 b] 29)).alloc (.cells #[.int .i64 k, .int .i64 ax, .int .i64 ay, .int .i64 fx, .int .i64 fy, .int .i64 u, .int .i64 g, .bool d, .bool o] 31)) w.heap.size (lvs i t x y A n c G m kk fp fq fs fz b) := (CellsAt.new w _ _ _ rfl).alloc _
    have S : CellsAt ((w.alloc (.cells #[.int .i64 i, .int .i64 t, .int .i64 x, .int .i64 y, .slice A n c, .slice G m kk, .int .i64 fp, .int .i64 fq, .int .i64 fs, .int .i64 fz, .int .i64 b] 29)).alloc (.cells #[.int .i64 k, .int .i64 ax, .int .i64 ay, .int .i64 fx, .int .i64 fy, .int .i64 u, .int .i64 g, .bool d, .bool o] 31)) (w.heap.size + 1) (stv k ax ay fx fy u g d o) := CellsAt.new _ _ _ _ (by simp)
    have H := Lib.hid (bl_alloc (bl_alloc (bl_refl w) (.cells #[.int .i64 i, .int .i64 t, .int .i64 x, .int .i64 y, .slice A n c, .slice G m kk, .int .i64 fp, .int .i64 fq, .int .i64 fs, .int .i64 fz, .int .i64 b] 29)) (.cells #[.int .i64 k, .int .i64 ax, .int .i64 ay, .int .i64 fx, .int .i64 fy, .int .i64 u, .int .i64 g, .bool d, .bool o] 31))
    replace I := Lib.hid ((I.out.alloc (.cells #[.int .i64 i, .int .i64 t, .int .i64 x, .int .i64 y, .slice A n c, .slice G m kk, .int .i64 fp, .int .i64 fq, .int .i64 fs, .int .i64 fz, .int .i64 b] 29)).alloc (.cells #[.int .i64 k, .int .i64 ax, .int .i64 ay, .int .i64 fx, .int .i64 fy, .int .i64 u, .int .i64 g, .bool d, .bool o] 31))
    replace J := Lib.hid ((J.out.alloc (.cells #[.int .i64 i, .int .i64 t, .int .i64 x, .int .i64 y, .slice A n c, .slice G m kk, .int .i64 fp, .int .i64 fq, .int .i64 fs, .int .i64 fz, .int .i64 b] 29)).alloc (.cells #[.int .i64 k, .int .i64 ax, .int .i64 ay, .int .i64 fx, .int .i64 fy, .int .i64 u, .int .i64 g, .bool d, .bool o] 31))
    go_enter Tryd.func22, Tryd.ntmps22
    have Lc0 := L.cell 0 _ rfl
    have Lc1 := L.cell 1 _ rfl
    have Lc2 := L.cell 2 _ rfl
    have Lc3 := L.cell 3 _ rfl
    have Lc4 := L.cell 4 _ rfl
    have Lc5 := L.cell 5 _ rfl
    have Lc6 := L.cell 6 _ rfl
    have Lc7 := L.cell 7 _ rfl
    have Lc8 := L.cell 8 _ rfl
    have Lc9 := L.cell 9 _ rfl
    have Lc10 := L.cell 10 _ rfl
    have Ll := L.lt
    have Sc0 := S.cell 0 _ rfl
    have Sc1 := S.cell 1 _ rfl
    have Sc2 := S.cell 2 _ rfl
    have Sc3 := S.cell 3 _ rfl
    have Sc4 := S.cell 4 _ rfl
    have Sc5 := S.cell 5 _ rfl
    have Sc6 := S.cell 6 _ rfl
    have Sc7 := S.cell 7 _ rfl
    have Sc8 := S.cell 8 _ rfl
    have Sl := S.lt
    go_wp2_with fail
    refine (O.out _).mono ?_
    rintro e w1 ⟨rfl, B⟩
    replace L := L.step B
    replace S := S.step B
    replace I := Lib.hid (I.out.step B)
    replace J := Lib.hid (J.out.step B)
    replace H := Lib.hid (bl_trans H.out B)
    clear B
    clear Lc0 Lc1 Lc2 Lc3 Lc4 Lc5 Lc6 Lc7 Lc8 Lc9 Lc10 Ll Sc0 Sc1 Sc2 Sc3 Sc4 Sc5 Sc6 Sc7 Sc8 Sl
    have Lc0 := L.cell 0 _ rfl
    have Lc1 := L.cell 1 _ rfl
    have Lc2 := L.cell 2 _ rfl
    have Lc3 := L.cell 3 _ rfl
    have Lc4 := L.cell 4 _ rfl
    have Lc5 := L.cell 5 _ rfl
    have Lc6 := L.cell 6 _ rfl
    have Lc7 := L.cell 7 _ rfl
    have Lc8 := L.cell 8 _ rfl
    have Lc9 := L.cell 9 _ rfl
    have Lc10 := L.cell 10 _ rfl
    have Ll := L.lt
    have Sc0 := S.cell 0 _ rfl
    have Sc1 := S.cell 1 _ rfl
    have Sc2 := S.cell 2 _ rfl
    have Sc3 := S.cell 3 _ rfl
    have Sc4 := S.cell 4 _ rfl
    have Sc5 := S.cell 5 _ rfl
    have Sc6 := S.cell 6 _ rfl
    have Sc7 := S.cell 7 _ rfl
    have Sc8 := S.cell 8 _ rfl
    have Sl := S.lt
    go_wp2_with fail
    refine (V.out _ I.out J.out).mono ?_
    rintro e w2 ⟨rfl, B⟩
    replace L := L.step B
    replace S := S.step B
    replace I := Lib.hid (I.out.step B)
    replace J := Lib.hid (J.out.step B)
    replace H := Lib.hid (bl_trans H.out B)
    clear B
    clear Lc0 Lc1 Lc2 Lc3 Lc4 Lc5 Lc6 Lc7 Lc8 Lc9 Lc10 Ll Sc0 Sc1 Sc2 Sc3 Sc4 Sc5 Sc6 Sc7 Sc8 Sl
    have Lc0 := L.cell 0 _ rfl
    have Lc1 := L.cell 1 _ rfl
    have Lc2 := L.cell 2 _ rfl
    have Lc3 := L.cell 3 _ rfl
    have Lc4 := L.cell 4 _ rfl
    have Lc5 := L.cell 5 _ rfl
    have Lc6 := L.cell 6 _ rfl
    have Lc7 := L.cell 7 _ rfl
    have Lc8 := L.cell 8 _ rfl
    have Lc9 := L.cell 9 _ rfl
    have Lc10 := L.cell 10 _ rfl
    have Ll := L.lt
    have Sc0 := S.cell 0 _ rfl
    have Sc1 := S.cell 1 _ rfl
    have Sc2 := S.cell 2 _ rfl
    have Sc3 := S.cell 3 _ rfl
    have Sc4 := S.cell 4 _ rfl
    have Sc5 := S.cell 5 _ rfl
    have Sc6 := S.cell 6 _ rfl
    have Sc7 := S.cell 7 _ rfl
    have Sc8 := S.cell 8 _ rfl
    have Sl := S.lt
    go_wp2
    go_ret
    exact ⟨ret_b (by rw [E.out]), H.out⟩
  have E0 : evB i t x y ws gs fp fq fs fz b k ax ay fx fy u g d o = (!d || decide (g = (m : Int))) := by
    have d3 : decide (k ≤ t) = true := decide_eq_true h3
    have d4 : decide (g ≤ (m : Int)) = true := decide_eq_true h4
    simp only [evB, h1, h2, h6, hl2, d3, d4, Bool.true_and]
  clear h1 h2 h5 h6 ha hl2
  cases d
  · have E := Lib.hid E0
    clear E0
    have L : CellsAt ((w.alloc (.cells #[.int .i64 i, .int .i64 t, .int .i64 x, .int .i64 y, .slice A n c, .slice G m kk, .int .i64 fp, .int .i64 fq, .int .i64 fs, .int .i64 fz, .int .i64 b] 29)).alloc (.cells #[.int .i64 k, .int .i64 ax, .int .i64 ay, .int .i64 fx, .int .i64 fy, .int .i64 u, .int .i64 g, .bool false, .bool o] 31)) w.heap.size (lvs i t x y A n c G m kk fp fq fs fz b) := (CellsAt.new w _ _ _ rfl).alloc _
    have S : CellsAt ((w.alloc (.cells #[.int .i64 i, .int .i64 t, .int .i64 x, .int .i64 y, .slice A n c, .slice G m kk, .int .i64 fp, .int .i64 fq, .int .i64 fs, .int .i64 fz, .int .i64 b] 29)).alloc (.cells #[.int .i64 k, .int .i64 ax, .int .i64 ay, .int .i64 fx, .int .i64 fy, .int .i64 u, .int .i64 g, .bool false, .bool o] 31)) (w.heap.size + 1) (stv k ax ay fx fy u g false o) := CellsAt.new _ _ _ _ (by simp)
    have H := Lib.hid (bl_alloc (bl_alloc (bl_refl w) (.cells #[.int .i64 i, .int .i64 t, .int .i64 x, .int .i64 y, .slice A n c, .slice G m kk, .int .i64 fp, .int .i64 fq, .int .i64 fs, .int .i64 fz, .int .i64 b] 29)) (.cells #[.int .i64 k, .int .i64 ax, .int .i64 ay, .int .i64 fx, .int .i64 fy, .int .i64 u, .int .i64 g, .bool false, .bool o] 31))
    replace I := Lib.hid ((I.out.alloc (.cells #[.int .i64 i, .int .i64 t, .int .i64 x, .int .i64 y, .slice A n c, .slice G m kk, .int .i64 fp, .int .i64 fq, .int .i64 fs, .int .i64 fz, .int .i64 b] 29)).alloc (.cells #[.int .i64 k, .int .i64 ax, .int .i64 ay, .int .i64 fx, .int .i64 fy, .int .i64 u, .int .i64 g, .bool false, .bool o] 31))
    replace J := Lib.hid ((J.out.alloc (.cells #[.int .i64 i, .int .i64 t, .int .i64 x, .int .i64 y, .slice A n c, .slice G m kk, .int .i64 fp, .int .i64 fq, .int .i64 fs, .int .i64 fz, .int .i64 b] 29)).alloc (.cells #[.int .i64 k, .int .i64 ax, .int .i64 ay, .int .i64 fx, .int .i64 fy, .int .i64 u, .int .i64 g, .bool false, .bool o] 31))
    go_enter Tryd.func22, Tryd.ntmps22
    have Lc0 := L.cell 0 _ rfl
    have Lc1 := L.cell 1 _ rfl
    have Lc2 := L.cell 2 _ rfl
    have Lc3 := L.cell 3 _ rfl
    have Lc4 := L.cell 4 _ rfl
    have Lc5 := L.cell 5 _ rfl
    have Lc6 := L.cell 6 _ rfl
    have Lc7 := L.cell 7 _ rfl
    have Lc8 := L.cell 8 _ rfl
    have Lc9 := L.cell 9 _ rfl
    have Lc10 := L.cell 10 _ rfl
    have Ll := L.lt
    have Sc0 := S.cell 0 _ rfl
    have Sc1 := S.cell 1 _ rfl
    have Sc2 := S.cell 2 _ rfl
    have Sc3 := S.cell 3 _ rfl
    have Sc4 := S.cell 4 _ rfl
    have Sc5 := S.cell 5 _ rfl
    have Sc6 := S.cell 6 _ rfl
    have Sc7 := S.cell 7 _ rfl
    have Sc8 := S.cell 8 _ rfl
    have Sl := S.lt
    go_wp2_with fail
    refine (O.out _).mono ?_
    rintro e w1 ⟨rfl, B⟩
    replace L := L.step B
    replace S := S.step B
    replace I := Lib.hid (I.out.step B)
    replace J := Lib.hid (J.out.step B)
    replace H := Lib.hid (bl_trans H.out B)
    clear B
    clear Lc0 Lc1 Lc2 Lc3 Lc4 Lc5 Lc6 Lc7 Lc8 Lc9 Lc10 Ll Sc0 Sc1 Sc2 Sc3 Sc4 Sc5 Sc6 Sc7 Sc8 Sl
    have Lc0 := L.cell 0 _ rfl
    have Lc1 := L.cell 1 _ rfl
    have Lc2 := L.cell 2 _ rfl
    have Lc3 := L.cell 3 _ rfl
    have Lc4 := L.cell 4 _ rfl
    have Lc5 := L.cell 5 _ rfl
    have Lc6 := L.cell 6 _ rfl
    have Lc7 := L.cell 7 _ rfl
    have Lc8 := L.cell 8 _ rfl
    have Lc9 := L.cell 9 _ rfl
    have Lc10 := L.cell 10 _ rfl
    have Ll := L.lt
    have Sc0 := S.cell 0 _ rfl
    have Sc1 := S.cell 1 _ rfl
    have Sc2 := S.cell 2 _ rfl
    have Sc3 := S.cell 3 _ rfl
    have Sc4 := S.cell 4 _ rfl
    have Sc5 := S.cell 5 _ rfl
    have Sc6 := S.cell 6 _ rfl
    have Sc7 := S.cell 7 _ rfl
    have Sc8 := S.cell 8 _ rfl
    have Sl := S.lt
    go_wp2_with fail
    refine (V.out _ I.out J.out).mono ?_
    rintro e w2 ⟨rfl, B⟩
    replace L := L.step B
    replace S := S.step B
    replace I := Lib.hid (I.out.step B)
    replace J := Lib.hid (J.out.step B)
    replace H := Lib.hid (bl_trans H.out B)
    clear B
    clear Lc0 Lc1 Lc2 Lc3 Lc4 Lc5 Lc6 Lc7 Lc8 Lc9 Lc10 Ll Sc0 Sc1 Sc2 Sc3 Sc4 Sc5 Sc6 Sc7 Sc8 Sl
    have Lc0 := L.cell 0 _ rfl
    have Lc1 := L.cell 1 _ rfl
    have Lc2 := L.cell 2 _ rfl
    have Lc3 := L.cell 3 _ rfl
    have Lc4 := L.cell 4 _ rfl
    have Lc5 := L.cell 5 _ rfl
    have Lc6 := L.cell 6 _ rfl
    have Lc7 := L.cell 7 _ rfl
    have Lc8 := L.cell 8 _ rfl
    have Lc9 := L.cell 9 _ rfl
    have Lc10 := L.cell 10 _ rfl
    have Ll := L.lt
    have Sc0 := S.cell 0 _ rfl
    have Sc1 := S.cell 1 _ rfl
    have Sc2 := S.cell 2 _ rfl
    have Sc3 := S.cell 3 _ rfl
    have Sc4 := S.cell 4 _ rfl
    have Sc5 := S.cell 5 _ rfl
    have Sc6 := S.cell 6 _ rfl
    have Sc7 := S.cell 7 _ rfl
    have Sc8 := S.cell 8 _ rfl
    have Sl := S.lt
    go_wp2
    go_ret
    exact ⟨ret_b (by rw [E.out]; rfl), H.out⟩
  by_cases h7 : g = (m : Int)
  · have d6 : (g == (m : Int)) = true := beq_iff_eq.2 h7
    rw [decide_eq_true h7] at E0
    have E := Lib.hid E0
    clear E0 h7
    have L : CellsAt ((w.alloc (.cells #[.int .i64 i, .int .i64 t, .int .i64 x, .int .i64 y, .slice A n c, .slice G m kk, .int .i64 fp, .int .i64 fq, .int .i64 fs, .int .i64 fz, .int .i64 b] 29)).alloc (.cells #[.int .i64 k, .int .i64 ax, .int .i64 ay, .int .i64 fx, .int .i64 fy, .int .i64 u, .int .i64 g, .bool true, .bool o] 31)) w.heap.size (lvs i t x y A n c G m kk fp fq fs fz b) := (CellsAt.new w _ _ _ rfl).alloc _
    have S : CellsAt ((w.alloc (.cells #[.int .i64 i, .int .i64 t, .int .i64 x, .int .i64 y, .slice A n c, .slice G m kk, .int .i64 fp, .int .i64 fq, .int .i64 fs, .int .i64 fz, .int .i64 b] 29)).alloc (.cells #[.int .i64 k, .int .i64 ax, .int .i64 ay, .int .i64 fx, .int .i64 fy, .int .i64 u, .int .i64 g, .bool true, .bool o] 31)) (w.heap.size + 1) (stv k ax ay fx fy u g true o) := CellsAt.new _ _ _ _ (by simp)
    have H := Lib.hid (bl_alloc (bl_alloc (bl_refl w) (.cells #[.int .i64 i, .int .i64 t, .int .i64 x, .int .i64 y, .slice A n c, .slice G m kk, .int .i64 fp, .int .i64 fq, .int .i64 fs, .int .i64 fz, .int .i64 b] 29)) (.cells #[.int .i64 k, .int .i64 ax, .int .i64 ay, .int .i64 fx, .int .i64 fy, .int .i64 u, .int .i64 g, .bool true, .bool o] 31))
    replace I := Lib.hid ((I.out.alloc (.cells #[.int .i64 i, .int .i64 t, .int .i64 x, .int .i64 y, .slice A n c, .slice G m kk, .int .i64 fp, .int .i64 fq, .int .i64 fs, .int .i64 fz, .int .i64 b] 29)).alloc (.cells #[.int .i64 k, .int .i64 ax, .int .i64 ay, .int .i64 fx, .int .i64 fy, .int .i64 u, .int .i64 g, .bool true, .bool o] 31))
    replace J := Lib.hid ((J.out.alloc (.cells #[.int .i64 i, .int .i64 t, .int .i64 x, .int .i64 y, .slice A n c, .slice G m kk, .int .i64 fp, .int .i64 fq, .int .i64 fs, .int .i64 fz, .int .i64 b] 29)).alloc (.cells #[.int .i64 k, .int .i64 ax, .int .i64 ay, .int .i64 fx, .int .i64 fy, .int .i64 u, .int .i64 g, .bool true, .bool o] 31))
    go_enter Tryd.func22, Tryd.ntmps22
    have Lc0 := L.cell 0 _ rfl
    have Lc1 := L.cell 1 _ rfl
    have Lc2 := L.cell 2 _ rfl
    have Lc3 := L.cell 3 _ rfl
    have Lc4 := L.cell 4 _ rfl
    have Lc5 := L.cell 5 _ rfl
    have Lc6 := L.cell 6 _ rfl
    have Lc7 := L.cell 7 _ rfl
    have Lc8 := L.cell 8 _ rfl
    have Lc9 := L.cell 9 _ rfl
    have Lc10 := L.cell 10 _ rfl
    have Ll := L.lt
    have Sc0 := S.cell 0 _ rfl
    have Sc1 := S.cell 1 _ rfl
    have Sc2 := S.cell 2 _ rfl
    have Sc3 := S.cell 3 _ rfl
    have Sc4 := S.cell 4 _ rfl
    have Sc5 := S.cell 5 _ rfl
    have Sc6 := S.cell 6 _ rfl
    have Sc7 := S.cell 7 _ rfl
    have Sc8 := S.cell 8 _ rfl
    have Sl := S.lt
    go_wp2_with fail
    refine (O.out _).mono ?_
    rintro e w1 ⟨rfl, B⟩
    replace L := L.step B
    replace S := S.step B
    replace I := Lib.hid (I.out.step B)
    replace J := Lib.hid (J.out.step B)
    replace H := Lib.hid (bl_trans H.out B)
    clear B
    clear Lc0 Lc1 Lc2 Lc3 Lc4 Lc5 Lc6 Lc7 Lc8 Lc9 Lc10 Ll Sc0 Sc1 Sc2 Sc3 Sc4 Sc5 Sc6 Sc7 Sc8 Sl
    have Lc0 := L.cell 0 _ rfl
    have Lc1 := L.cell 1 _ rfl
    have Lc2 := L.cell 2 _ rfl
    have Lc3 := L.cell 3 _ rfl
    have Lc4 := L.cell 4 _ rfl
    have Lc5 := L.cell 5 _ rfl
    have Lc6 := L.cell 6 _ rfl
    have Lc7 := L.cell 7 _ rfl
    have Lc8 := L.cell 8 _ rfl
    have Lc9 := L.cell 9 _ rfl
    have Lc10 := L.cell 10 _ rfl
    have Ll := L.lt
    have Sc0 := S.cell 0 _ rfl
    have Sc1 := S.cell 1 _ rfl
    have Sc2 := S.cell 2 _ rfl
    have Sc3 := S.cell 3 _ rfl
    have Sc4 := S.cell 4 _ rfl
    have Sc5 := S.cell 5 _ rfl
    have Sc6 := S.cell 6 _ rfl
    have Sc7 := S.cell 7 _ rfl
    have Sc8 := S.cell 8 _ rfl
    have Sl := S.lt
    go_wp2_with fail
    refine (V.out _ I.out J.out).mono ?_
    rintro e w2 ⟨rfl, B⟩
    replace L := L.step B
    replace S := S.step B
    replace I := Lib.hid (I.out.step B)
    replace J := Lib.hid (J.out.step B)
    replace H := Lib.hid (bl_trans H.out B)
    clear B
    clear Lc0 Lc1 Lc2 Lc3 Lc4 Lc5 Lc6 Lc7 Lc8 Lc9 Lc10 Ll Sc0 Sc1 Sc2 Sc3 Sc4 Sc5 Sc6 Sc7 Sc8 Sl
    have Lc0 := L.cell 0 _ rfl
    have Lc1 := L.cell 1 _ rfl
    have Lc2 := L.cell 2 _ rfl
    have Lc3 := L.cell 3 _ rfl
    have Lc4 := L.cell 4 _ rfl
    have Lc5 := L.cell 5 _ rfl
    have Lc6 := L.cell 6 _ rfl
    have Lc7 := L.cell 7 _ rfl
    have Lc8 := L.cell 8 _ rfl
    have Lc9 := L.cell 9 _ rfl
    have Lc10 := L.cell 10 _ rfl
    have Ll := L.lt
    have Sc0 := S.cell 0 _ rfl
    have Sc1 := S.cell 1 _ rfl
    have Sc2 := S.cell 2 _ rfl
    have Sc3 := S.cell 3 _ rfl
    have Sc4 := S.cell 4 _ rfl
    have Sc5 := S.cell 5 _ rfl
    have Sc6 := S.cell 6 _ rfl
    have Sc7 := S.cell 7 _ rfl
    have Sc8 := S.cell 8 _ rfl
    have Sl := S.lt
    go_wp2
    go_ret
    exact ⟨ret_b (by rw [E.out]; rfl), H.out⟩
  have d6 : (g == (m : Int)) = false := beq_eq_false_iff_ne.2 h7
  rw [decide_eq_false h7] at E0
  have E := Lib.hid E0
  clear E0 h7
  have L : CellsAt ((w.alloc (.cells #[.int .i64 i, .int .i64 t, .int .i64 x, .int .i64 y, .slice A n c, .slice G m kk, .int .i64 fp, .int .i64 fq, .int .i64 fs, .int .i64 fz, .int .i64 b] 29)).alloc (.cells #[.int .i64 k, .int .i64 ax, .int .i64 ay, .int .i64 fx, .int .i64 fy, .int .i64 u, .int .i64 g, .bool true, .bool o] 31)) w.heap.size (lvs i t x y A n c G m kk fp fq fs fz b) := (CellsAt.new w _ _ _ rfl).alloc _
  have S : CellsAt ((w.alloc (.cells #[.int .i64 i, .int .i64 t, .int .i64 x, .int .i64 y, .slice A n c, .slice G m kk, .int .i64 fp, .int .i64 fq, .int .i64 fs, .int .i64 fz, .int .i64 b] 29)).alloc (.cells #[.int .i64 k, .int .i64 ax, .int .i64 ay, .int .i64 fx, .int .i64 fy, .int .i64 u, .int .i64 g, .bool true, .bool o] 31)) (w.heap.size + 1) (stv k ax ay fx fy u g true o) := CellsAt.new _ _ _ _ (by simp)
  have H := Lib.hid (bl_alloc (bl_alloc (bl_refl w) (.cells #[.int .i64 i, .int .i64 t, .int .i64 x, .int .i64 y, .slice A n c, .slice G m kk, .int .i64 fp, .int .i64 fq, .int .i64 fs, .int .i64 fz, .int .i64 b] 29)) (.cells #[.int .i64 k, .int .i64 ax, .int .i64 ay, .int .i64 fx, .int .i64 fy, .int .i64 u, .int .i64 g, .bool true, .bool o] 31))
  replace I := Lib.hid ((I.out.alloc (.cells #[.int .i64 i, .int .i64 t, .int .i64 x, .int .i64 y, .slice A n c, .slice G m kk, .int .i64 fp, .int .i64 fq, .int .i64 fs, .int .i64 fz, .int .i64 b] 29)).alloc (.cells #[.int .i64 k, .int .i64 ax, .int .i64 ay, .int .i64 fx, .int .i64 fy, .int .i64 u, .int .i64 g, .bool true, .bool o] 31))
  replace J := Lib.hid ((J.out.alloc (.cells #[.int .i64 i, .int .i64 t, .int .i64 x, .int .i64 y, .slice A n c, .slice G m kk, .int .i64 fp, .int .i64 fq, .int .i64 fs, .int .i64 fz, .int .i64 b] 29)).alloc (.cells #[.int .i64 k, .int .i64 ax, .int .i64 ay, .int .i64 fx, .int .i64 fy, .int .i64 u, .int .i64 g, .bool true, .bool o] 31))
  go_enter Tryd.func22, Tryd.ntmps22
  have Lc0 := L.cell 0 _ rfl
  have Lc1 := L.cell 1 _ rfl
  have Lc2 := L.cell 2 _ rfl
  have Lc3 := L.cell 3 _ rfl
  have Lc4 := L.cell 4 _ rfl
  have Lc5 := L.cell 5 _ rfl
  have Lc6 := L.cell 6 _ rfl
  have Lc7 := L.cell 7 _ rfl
  have Lc8 := L.cell 8 _ rfl
  have Lc9 := L.cell 9 _ rfl
  have Lc10 := L.cell 10 _ rfl
  have Ll := L.lt
  have Sc0 := S.cell 0 _ rfl
  have Sc1 := S.cell 1 _ rfl
  have Sc2 := S.cell 2 _ rfl
  have Sc3 := S.cell 3 _ rfl
  have Sc4 := S.cell 4 _ rfl
  have Sc5 := S.cell 5 _ rfl
  have Sc6 := S.cell 6 _ rfl
  have Sc7 := S.cell 7 _ rfl
  have Sc8 := S.cell 8 _ rfl
  have Sl := S.lt
  go_wp2_with fail
  refine (O.out _).mono ?_
  rintro e w1 ⟨rfl, B⟩
  replace L := L.step B
  replace S := S.step B
  replace I := Lib.hid (I.out.step B)
  replace J := Lib.hid (J.out.step B)
  replace H := Lib.hid (bl_trans H.out B)
  clear B
  clear Lc0 Lc1 Lc2 Lc3 Lc4 Lc5 Lc6 Lc7 Lc8 Lc9 Lc10 Ll Sc0 Sc1 Sc2 Sc3 Sc4 Sc5 Sc6 Sc7 Sc8 Sl
  have Lc0 := L.cell 0 _ rfl
  have Lc1 := L.cell 1 _ rfl
  have Lc2 := L.cell 2 _ rfl
  have Lc3 := L.cell 3 _ rfl
  have Lc4 := L.cell 4 _ rfl
  have Lc5 := L.cell 5 _ rfl
  have Lc6 := L.cell 6 _ rfl
  have Lc7 := L.cell 7 _ rfl
  have Lc8 := L.cell 8 _ rfl
  have Lc9 := L.cell 9 _ rfl
  have Lc10 := L.cell 10 _ rfl
  have Ll := L.lt
  have Sc0 := S.cell 0 _ rfl
  have Sc1 := S.cell 1 _ rfl
  have Sc2 := S.cell 2 _ rfl
  have Sc3 := S.cell 3 _ rfl
  have Sc4 := S.cell 4 _ rfl
  have Sc5 := S.cell 5 _ rfl
  have Sc6 := S.cell 6 _ rfl
  have Sc7 := S.cell 7 _ rfl
  have Sc8 := S.cell 8 _ rfl
  have Sl := S.lt
  go_wp2_with fail
  refine (V.out _ I.out J.out).mono ?_
  rintro e w2 ⟨rfl, B⟩
  replace L := L.step B
  replace S := S.step B
  replace I := Lib.hid (I.out.step B)
  replace J := Lib.hid (J.out.step B)
  replace H := Lib.hid (bl_trans H.out B)
  clear B
  clear Lc0 Lc1 Lc2 Lc3 Lc4 Lc5 Lc6 Lc7 Lc8 Lc9 Lc10 Ll Sc0 Sc1 Sc2 Sc3 Sc4 Sc5 Sc6 Sc7 Sc8 Sl
  have Lc0 := L.cell 0 _ rfl
  have Lc1 := L.cell 1 _ rfl
  have Lc2 := L.cell 2 _ rfl
  have Lc3 := L.cell 3 _ rfl
  have Lc4 := L.cell 4 _ rfl
  have Lc5 := L.cell 5 _ rfl
  have Lc6 := L.cell 6 _ rfl
  have Lc7 := L.cell 7 _ rfl
  have Lc8 := L.cell 8 _ rfl
  have Lc9 := L.cell 9 _ rfl
  have Lc10 := L.cell 10 _ rfl
  have Ll := L.lt
  have Sc0 := S.cell 0 _ rfl
  have Sc1 := S.cell 1 _ rfl
  have Sc2 := S.cell 2 _ rfl
  have Sc3 := S.cell 3 _ rfl
  have Sc4 := S.cell 4 _ rfl
  have Sc5 := S.cell 5 _ rfl
  have Sc6 := S.cell 6 _ rfl
  have Sc7 := S.cell 7 _ rfl
  have Sc8 := S.cell 8 _ rfl
  have Sl := S.lt
  go_wp2
  go_ret
  exact ⟨ret_b (by rw [E.out]; rfl), H.out⟩

end Go.Proofs.YtnoenjociioffaaDoor
