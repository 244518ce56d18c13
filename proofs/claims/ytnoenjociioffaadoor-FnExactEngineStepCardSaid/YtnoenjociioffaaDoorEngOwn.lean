/-
  What the model's functions of states return, at every argument.
-/
import Derived.Test.YtnoenjociioffaaDoorEngC
import Derived.Test.YtnoenjociioffaaDoorHashS
import Derived.Test.YtnoenjociioffaaDoorRowS
namespace Go.Proofs.YtnoenjociioffaaDoor
open Go.RowKit
open M

/-- A state is valid in any level. -/
def M.ownB (k ax ay fx fy u g : Int) (d o : Bool) : Bool := inB k 0 60 && (vokB ax ay && (vokB fx fy && (decide (vl fx fy ≤ 2000) && (inB u 0 15 && (inB g 0 3 && !(d && o))))))

set_option maxRecDepth 100000 in
set_option maxHeartbeats 4000000 in
theorem specOwn (k ax ay fx fy u g : Int) (d o : Bool) (w : World) : Calls Tryd.prog 62 #[sta k ax ay fx fy u g d o] w fun e w' => e = .returned (.bool (ownB k ax ay fx fy u g d o)) ∧ Below w.heap.size w w' := by
  cases h1 : inB k 0 60
  · have E := Lib.hid (show ownB k ax ay fx fy u g d o = false by simp only [ownB, h1]; simp)
    have h1 := Lib.hid h1
    go_enter Tryd.func62, Tryd.ntmps62
    have P : CellsAt (w.alloc (.cells #[.int .i64 k, .int .i64 ax, .int .i64 ay, .int .i64 fx, .int .i64 fy, .int .i64 u, .int .i64 g, .bool d, .bool o] 31)) w.heap.size (stv k ax ay fx fy u g d o) := CellsAt.new w _ _ _ rfl
    have H := Lib.hid (bl_alloc (bl_refl w) (.cells #[.int .i64 k, .int .i64 ax, .int .i64 ay, .int .i64 fx, .int .i64 fy, .int .i64 u, .int .i64 g, .bool d, .bool o] 31))
    have Pc0 := P.cell 0 _ rfl
    have Pc1 := P.cell 1 _ rfl
    have Pc2 := P.cell 2 _ rfl
    have Pc3 := P.cell 3 _ rfl
    have Pc4 := P.cell 4 _ rfl
    have Pc5 := P.cell 5 _ rfl
    have Pc6 := P.cell 6 _ rfl
    have Pc7 := P.cell 7 _ rfl
    have Pc8 := P.cell 8 _ rfl
    have Pl := P.lt
    go_wp2_with fail
    clear Pc0 Pc1 Pc2 Pc3 Pc4 Pc5 Pc6 Pc7 Pc8 Pl
    refine (specIn' _ _ _ _ _ h1.out).mono ?_
    rintro e w' ⟨rfl, rfl⟩
    go_wp2
    go_ret
    exact ⟨ret_b (by rw [E.out]), H.out⟩
  cases h2 : vokB ax ay
  · have E := Lib.hid (show ownB k ax ay fx fy u g d o = false by simp only [ownB, h1, h2]; simp)
    have h1 := Lib.hid h1
    have Kh2 := fun W => specVecOk ax ay W
    rw [h2] at Kh2
    have Kh2 := Lib.hid Kh2
    go_enter Tryd.func62, Tryd.ntmps62
    have P : CellsAt (w.alloc (.cells #[.int .i64 k, .int .i64 ax, .int .i64 ay, .int .i64 fx, .int .i64 fy, .int .i64 u, .int .i64 g, .bool d, .bool o] 31)) w.heap.size (stv k ax ay fx fy u g d o) := CellsAt.new w _ _ _ rfl
    have H := Lib.hid (bl_alloc (bl_refl w) (.cells #[.int .i64 k, .int .i64 ax, .int .i64 ay, .int .i64 fx, .int .i64 fy, .int .i64 u, .int .i64 g, .bool d, .bool o] 31))
    have Pc0 := P.cell 0 _ rfl
    have Pc1 := P.cell 1 _ rfl
    have Pc2 := P.cell 2 _ rfl
    have Pc3 := P.cell 3 _ rfl
    have Pc4 := P.cell 4 _ rfl
    have Pc5 := P.cell 5 _ rfl
    have Pc6 := P.cell 6 _ rfl
    have Pc7 := P.cell 7 _ rfl
    have Pc8 := P.cell 8 _ rfl
    have Pl := P.lt
    go_wp2_with fail
    clear Pc0 Pc1 Pc2 Pc3 Pc4 Pc5 Pc6 Pc7 Pc8 Pl
    refine (specIn' _ _ _ _ _ h1.out).mono ?_
    rintro e w' ⟨rfl, rfl⟩
    have Pc0 := P.cell 0 _ rfl
    have Pc1 := P.cell 1 _ rfl
    have Pc2 := P.cell 2 _ rfl
    have Pc3 := P.cell 3 _ rfl
    have Pc4 := P.cell 4 _ rfl
    have Pc5 := P.cell 5 _ rfl
    have Pc6 := P.cell 6 _ rfl
    have Pc7 := P.cell 7 _ rfl
    have Pc8 := P.cell 8 _ rfl
    have Pl := P.lt
    go_wp2_with fail
    clear Pc0 Pc1 Pc2 Pc3 Pc4 Pc5 Pc6 Pc7 Pc8 Pl
    refine (Kh2.out _).mono ?_
    rintro e w1 ⟨rfl, B⟩
    replace P := P.step B
    replace H := Lib.hid (bl_trans H.out B)
    clear B
    go_wp2
    go_ret
    exact ⟨ret_b (by rw [E.out]), H.out⟩
  cases h3 : vokB fx fy
  · have E := Lib.hid (show ownB k ax ay fx fy u g d o = false by simp only [ownB, h1, h2, h3]; simp)
    have h1 := Lib.hid h1
    have Kh2 := fun W => specVecOk ax ay W
    rw [h2] at Kh2
    have Kh2 := Lib.hid Kh2
    have Kh3 := fun W => specVecOk fx fy W
    rw [h3] at Kh3
    have Kh3 := Lib.hid Kh3
    go_enter Tryd.func62, Tryd.ntmps62
    have P : CellsAt (w.alloc (.cells #[.int .i64 k, .int .i64 ax, .int .i64 ay, .int .i64 fx, .int .i64 fy, .int .i64 u, .int .i64 g, .bool d, .bool o] 31)) w.heap.size (stv k ax ay fx fy u g d o) := CellsAt.new w _ _ _ rfl
    have H := Lib.hid (bl_alloc (bl_refl w) (.cells #[.int .i64 k, .int .i64 ax, .int .i64 ay, .int .i64 fx, .int .i64 fy, .int .i64 u, .int .i64 g, .bool d, .bool o] 31))
    have Pc0 := P.cell 0 _ rfl
    have Pc1 := P.cell 1 _ rfl
    have Pc2 := P.cell 2 _ rfl
    have Pc3 := P.cell 3 _ rfl
    have Pc4 := P.cell 4 _ rfl
    have Pc5 := P.cell 5 _ rfl
    have Pc6 := P.cell 6 _ rfl
    have Pc7 := P.cell 7 _ rfl
    have Pc8 := P.cell 8 _ rfl
    have Pl := P.lt
    go_wp2_with fail
    clear Pc0 Pc1 Pc2 Pc3 Pc4 Pc5 Pc6 Pc7 Pc8 Pl
    refine (specIn' _ _ _ _ _ h1.out).mono ?_
    rintro e w' ⟨rfl, rfl⟩
    have Pc0 := P.cell 0 _ rfl
    have Pc1 := P.cell 1 _ rfl
    have Pc2 := P.cell 2 _ rfl
    have Pc3 := P.cell 3 _ rfl
    have Pc4 := P.cell 4 _ rfl
    have Pc5 := P.cell 5 _ rfl
    have Pc6 := P.cell 6 _ rfl
    have Pc7 := P.cell 7 _ rfl
    have Pc8 := P.cell 8 _ rfl
    have Pl := P.lt
    go_wp2_with fail
    clear Pc0 Pc1 Pc2 Pc3 Pc4 Pc5 Pc6 Pc7 Pc8 Pl
    refine (Kh2.out _).mono ?_
    rintro e w1 ⟨rfl, B⟩
    replace P := P.step B
    replace H := Lib.hid (bl_trans H.out B)
    clear B
    have Pc0 := P.cell 0 _ rfl
    have Pc1 := P.cell 1 _ rfl
    have Pc2 := P.cell 2 _ rfl
    have Pc3 := P.cell 3 _ rfl
    have Pc4 := P.cell 4 _ rfl
    have Pc5 := P.cell 5 _ rfl
    have Pc6 := P.cell 6 _ rfl
    have Pc7 := P.cell 7 _ rfl
    have Pc8 := P.cell 8 _ rfl
    have Pl := P.lt
    go_wp2_with fail
    clear Pc0 Pc1 Pc2 Pc3 Pc4 Pc5 Pc6 Pc7 Pc8 Pl
    refine (Kh3.out _).mono ?_
    rintro e w2 ⟨rfl, B⟩
    replace P := P.step B
    replace H := Lib.hid (bl_trans H.out B)
    clear B
    go_wp2
    go_ret
    exact ⟨ret_b (by rw [E.out]), H.out⟩
  have v1 := (vok_iff fx fy).1 h3
  cases h4 : decide (vl fx fy ≤ 2000)
  · have E := Lib.hid (show ownB k ax ay fx fy u g d o = false by simp only [ownB, h1, h2, h3, h4]; simp)
    have h1 := Lib.hid h1
    have Kh2 := fun W => specVecOk ax ay W
    rw [h2] at Kh2
    have Kh2 := Lib.hid Kh2
    have Kh3 := fun W => specVecOk fx fy W
    rw [h3] at Kh3
    have Kh3 := Lib.hid Kh3
    have Kh4 := Lib.hid (fun W => specVLen0 fx fy W v1.1.1 v1.1.2 v1.2.1 v1.2.2)
    generalize vl fx fy = ll at *
    go_enter Tryd.func62, Tryd.ntmps62
    have P : CellsAt (w.alloc (.cells #[.int .i64 k, .int .i64 ax, .int .i64 ay, .int .i64 fx, .int .i64 fy, .int .i64 u, .int .i64 g, .bool d, .bool o] 31)) w.heap.size (stv k ax ay fx fy u g d o) := CellsAt.new w _ _ _ rfl
    have H := Lib.hid (bl_alloc (bl_refl w) (.cells #[.int .i64 k, .int .i64 ax, .int .i64 ay, .int .i64 fx, .int .i64 fy, .int .i64 u, .int .i64 g, .bool d, .bool o] 31))
    have Pc0 := P.cell 0 _ rfl
    have Pc1 := P.cell 1 _ rfl
    have Pc2 := P.cell 2 _ rfl
    have Pc3 := P.cell 3 _ rfl
    have Pc4 := P.cell 4 _ rfl
    have Pc5 := P.cell 5 _ rfl
    have Pc6 := P.cell 6 _ rfl
    have Pc7 := P.cell 7 _ rfl
    have Pc8 := P.cell 8 _ rfl
    have Pl := P.lt
    go_wp2_with fail
    clear Pc0 Pc1 Pc2 Pc3 Pc4 Pc5 Pc6 Pc7 Pc8 Pl
    refine (specIn' _ _ _ _ _ h1.out).mono ?_
    rintro e w' ⟨rfl, rfl⟩
    have Pc0 := P.cell 0 _ rfl
    have Pc1 := P.cell 1 _ rfl
    have Pc2 := P.cell 2 _ rfl
    have Pc3 := P.cell 3 _ rfl
    have Pc4 := P.cell 4 _ rfl
    have Pc5 := P.cell 5 _ rfl
    have Pc6 := P.cell 6 _ rfl
    have Pc7 := P.cell 7 _ rfl
    have Pc8 := P.cell 8 _ rfl
    have Pl := P.lt
    go_wp2_with fail
    clear Pc0 Pc1 Pc2 Pc3 Pc4 Pc5 Pc6 Pc7 Pc8 Pl
    refine (Kh2.out _).mono ?_
    rintro e w1 ⟨rfl, B⟩
    replace P := P.step B
    replace H := Lib.hid (bl_trans H.out B)
    clear B
    have Pc0 := P.cell 0 _ rfl
    have Pc1 := P.cell 1 _ rfl
    have Pc2 := P.cell 2 _ rfl
    have Pc3 := P.cell 3 _ rfl
    have Pc4 := P.cell 4 _ rfl
    have Pc5 := P.cell 5 _ rfl
    have Pc6 := P.cell 6 _ rfl
    have Pc7 := P.cell 7 _ rfl
    have Pc8 := P.cell 8 _ rfl
    have Pl := P.lt
    go_wp2_with fail
    clear Pc0 Pc1 Pc2 Pc3 Pc4 Pc5 Pc6 Pc7 Pc8 Pl
    refine (Kh3.out _).mono ?_
    rintro e w2 ⟨rfl, B⟩
    replace P := P.step B
    replace H := Lib.hid (bl_trans H.out B)
    clear B
    have Pc0 := P.cell 0 _ rfl
    have Pc1 := P.cell 1 _ rfl
    have Pc2 := P.cell 2 _ rfl
    have Pc3 := P.cell 3 _ rfl
    have Pc4 := P.cell 4 _ rfl
    have Pc5 := P.cell 5 _ rfl
    have Pc6 := P.cell 6 _ rfl
    have Pc7 := P.cell 7 _ rfl
    have Pc8 := P.cell 8 _ rfl
    have Pl := P.lt
    go_wp2_with fail
    clear Pc0 Pc1 Pc2 Pc3 Pc4 Pc5 Pc6 Pc7 Pc8 Pl
    refine (Kh4.out _).mono ?_
    rintro e w3 ⟨rfl, B⟩
    replace P := P.step B
    replace H := Lib.hid (bl_trans H.out B)
    clear B
    go_wp2
    go_ret
    exact ⟨ret_b (by rw [E.out]), H.out⟩
  cases h5 : inB u 0 15
  · have E := Lib.hid (show ownB k ax ay fx fy u g d o = false by simp only [ownB, h1, h2, h3, h4, h5]; simp)
    have h1 := Lib.hid h1
    have Kh2 := fun W => specVecOk ax ay W
    rw [h2] at Kh2
    have Kh2 := Lib.hid Kh2
    have Kh3 := fun W => specVecOk fx fy W
    rw [h3] at Kh3
    have Kh3 := Lib.hid Kh3
    have Kh4 := Lib.hid (fun W => specVLen0 fx fy W v1.1.1 v1.1.2 v1.2.1 v1.2.2)
    generalize vl fx fy = ll at *
    have h5 := Lib.hid h5
    go_enter Tryd.func62, Tryd.ntmps62
    have P : CellsAt (w.alloc (.cells #[.int .i64 k, .int .i64 ax, .int .i64 ay, .int .i64 fx, .int .i64 fy, .int .i64 u, .int .i64 g, .bool d, .bool o] 31)) w.heap.size (stv k ax ay fx fy u g d o) := CellsAt.new w _ _ _ rfl
    have H := Lib.hid (bl_alloc (bl_refl w) (.cells #[.int .i64 k, .int .i64 ax, .int .i64 ay, .int .i64 fx, .int .i64 fy, .int .i64 u, .int .i64 g, .bool d, .bool o] 31))
    have Pc0 := P.cell 0 _ rfl
    have Pc1 := P.cell 1 _ rfl
    have Pc2 := P.cell 2 _ rfl
    have Pc3 := P.cell 3 _ rfl
    have Pc4 := P.cell 4 _ rfl
    have Pc5 := P.cell 5 _ rfl
    have Pc6 := P.cell 6 _ rfl
    have Pc7 := P.cell 7 _ rfl
    have Pc8 := P.cell 8 _ rfl
    have Pl := P.lt
    go_wp2_with fail
    clear Pc0 Pc1 Pc2 Pc3 Pc4 Pc5 Pc6 Pc7 Pc8 Pl
    refine (specIn' _ _ _ _ _ h1.out).mono ?_
    rintro e w' ⟨rfl, rfl⟩
    have Pc0 := P.cell 0 _ rfl
    have Pc1 := P.cell 1 _ rfl
    have Pc2 := P.cell 2 _ rfl
    have Pc3 := P.cell 3 _ rfl
    have Pc4 := P.cell 4 _ rfl
    have Pc5 := P.cell 5 _ rfl
    have Pc6 := P.cell 6 _ rfl
    have Pc7 := P.cell 7 _ rfl
    have Pc8 := P.cell 8 _ rfl
    have Pl := P.lt
    go_wp2_with fail
    clear Pc0 Pc1 Pc2 Pc3 Pc4 Pc5 Pc6 Pc7 Pc8 Pl
    refine (Kh2.out _).mono ?_
    rintro e w1 ⟨rfl, B⟩
    replace P := P.step B
    replace H := Lib.hid (bl_trans H.out B)
    clear B
    have Pc0 := P.cell 0 _ rfl
    have Pc1 := P.cell 1 _ rfl
    have Pc2 := P.cell 2 _ rfl
    have Pc3 := P.cell 3 _ rfl
    have Pc4 := P.cell 4 _ rfl
    have Pc5 := P.cell 5 _ rfl
    have Pc6 := P.cell 6 _ rfl
    have Pc7 := P.cell 7 _ rfl
    have Pc8 := P.cell 8 _ rfl
    have Pl := P.lt
    go_wp2_with fail
    clear Pc0 Pc1 Pc2 Pc3 Pc4 Pc5 Pc6 Pc7 Pc8 Pl
    refine (Kh3.out _).mono ?_
    rintro e w2 ⟨rfl, B⟩
    replace P := P.step B
    replace H := Lib.hid (bl_trans H.out B)
    clear B
    have Pc0 := P.cell 0 _ rfl
    have Pc1 := P.cell 1 _ rfl
    have Pc2 := P.cell 2 _ rfl
    have Pc3 := P.cell 3 _ rfl
    have Pc4 := P.cell 4 _ rfl
    have Pc5 := P.cell 5 _ rfl
    have Pc6 := P.cell 6 _ rfl
    have Pc7 := P.cell 7 _ rfl
    have Pc8 := P.cell 8 _ rfl
    have Pl := P.lt
    go_wp2_with fail
    clear Pc0 Pc1 Pc2 Pc3 Pc4 Pc5 Pc6 Pc7 Pc8 Pl
    refine (Kh4.out _).mono ?_
    rintro e w3 ⟨rfl, B⟩
    replace P := P.step B
    replace H := Lib.hid (bl_trans H.out B)
    clear B
    have Pc0 := P.cell 0 _ rfl
    have Pc1 := P.cell 1 _ rfl
    have Pc2 := P.cell 2 _ rfl
    have Pc3 := P.cell 3 _ rfl
    have Pc4 := P.cell 4 _ rfl
    have Pc5 := P.cell 5 _ rfl
    have Pc6 := P.cell 6 _ rfl
    have Pc7 := P.cell 7 _ rfl
    have Pc8 := P.cell 8 _ rfl
    have Pl := P.lt
    go_wp2_with fail
    clear Pc0 Pc1 Pc2 Pc3 Pc4 Pc5 Pc6 Pc7 Pc8 Pl
    refine (specIn' _ _ _ _ _ h5.out).mono ?_
    rintro e w' ⟨rfl, rfl⟩
    go_wp2
    go_ret
    exact ⟨ret_b (by rw [E.out]), H.out⟩
  cases h6 : inB g 0 3
  · have E := Lib.hid (show ownB k ax ay fx fy u g d o = false by simp only [ownB, h1, h2, h3, h4, h5, h6]; simp)
    have h1 := Lib.hid h1
    have Kh2 := fun W => specVecOk ax ay W
    rw [h2] at Kh2
    have Kh2 := Lib.hid Kh2
    have Kh3 := fun W => specVecOk fx fy W
    rw [h3] at Kh3
    have Kh3 := Lib.hid Kh3
    have Kh4 := Lib.hid (fun W => specVLen0 fx fy W v1.1.1 v1.1.2 v1.2.1 v1.2.2)
    generalize vl fx fy = ll at *
    have h5 := Lib.hid h5
    have h6 := Lib.hid h6
    go_enter Tryd.func62, Tryd.ntmps62
    have P : CellsAt (w.alloc (.cells #[.int .i64 k, .int .i64 ax, .int .i64 ay, .int .i64 fx, .int .i64 fy, .int .i64 u, .int .i64 g, .bool d, .bool o] 31)) w.heap.size (stv k ax ay fx fy u g d o) := CellsAt.new w _ _ _ rfl
    have H := Lib.hid (bl_alloc (bl_refl w) (.cells #[.int .i64 k, .int .i64 ax, .int .i64 ay, .int .i64 fx, .int .i64 fy, .int .i64 u, .int .i64 g, .bool d, .bool o] 31))
    have Pc0 := P.cell 0 _ rfl
    have Pc1 := P.cell 1 _ rfl
    have Pc2 := P.cell 2 _ rfl
    have Pc3 := P.cell 3 _ rfl
    have Pc4 := P.cell 4 _ rfl
    have Pc5 := P.cell 5 _ rfl
    have Pc6 := P.cell 6 _ rfl
    have Pc7 := P.cell 7 _ rfl
    have Pc8 := P.cell 8 _ rfl
    have Pl := P.lt
    go_wp2_with fail
    clear Pc0 Pc1 Pc2 Pc3 Pc4 Pc5 Pc6 Pc7 Pc8 Pl
    refine (specIn' _ _ _ _ _ h1.out).mono ?_
    rintro e w' ⟨rfl, rfl⟩
    have Pc0 := P.cell 0 _ rfl
    have Pc1 := P.cell 1 _ rfl
    have Pc2 := P.cell 2 _ rfl
    have Pc3 := P.cell 3 _ rfl
    have Pc4 := P.cell 4 _ rfl
    have Pc5 := P.cell 5 _ rfl
    have Pc6 := P.cell 6 _ rfl
    have Pc7 := P.cell 7 _ rfl
    have Pc8 := P.cell 8 _ rfl
    have Pl := P.lt
    go_wp2_with fail
    clear Pc0 Pc1 Pc2 Pc3 Pc4 Pc5 Pc6 Pc7 Pc8 Pl
    refine (Kh2.out _).mono ?_
    rintro e w1 ⟨rfl, B⟩
    replace P := P.step B
    replace H := Lib.hid (bl_trans H.out B)
    clear B
    have Pc0 := P.cell 0 _ rfl
    have Pc1 := P.cell 1 _ rfl
    have Pc2 := P.cell 2 _ rfl
    have Pc3 := P.cell 3 _ rfl
    have Pc4 := P.cell 4 _ rfl
    have Pc5 := P.cell 5 _ rfl
    have Pc6 := P.cell 6 _ rfl
    have Pc7 := P.cell 7 _ rfl
    have Pc8 := P.cell 8 _ rfl
    have Pl := P.lt
    go_wp2_with fail
    clear Pc0 Pc1 Pc2 Pc3 Pc4 Pc5 Pc6 Pc7 Pc8 Pl
    refine (Kh3.out _).mono ?_
    rintro e w2 ⟨rfl, B⟩
    replace P := P.step B
    replace H := Lib.hid (bl_trans H.out B)
    clear B
    have Pc0 := P.cell 0 _ rfl
    have Pc1 := P.cell 1 _ rfl
    have Pc2 := P.cell 2 _ rfl
    have Pc3 := P.cell 3 _ rfl
    have Pc4 := P.cell 4 _ rfl
    have Pc5 := P.cell 5 _ rfl
    have Pc6 := P.cell 6 _ rfl
    have Pc7 := P.cell 7 _ rfl
    have Pc8 := P.cell 8 _ rfl
    have Pl := P.lt
    go_wp2_with fail
    clear Pc0 Pc1 Pc2 Pc3 Pc4 Pc5 Pc6 Pc7 Pc8 Pl
    refine (Kh4.out _).mono ?_
    rintro e w3 ⟨rfl, B⟩
    replace P := P.step B
    replace H := Lib.hid (bl_trans H.out B)
    clear B
    have Pc0 := P.cell 0 _ rfl
    have Pc1 := P.cell 1 _ rfl
    have Pc2 := P.cell 2 _ rfl
    have Pc3 := P.cell 3 _ rfl
    have Pc4 := P.cell 4 _ rfl
    have Pc5 := P.cell 5 _ rfl
    have Pc6 := P.cell 6 _ rfl
    have Pc7 := P.cell 7 _ rfl
    have Pc8 := P.cell 8 _ rfl
    have Pl := P.lt
    go_wp2_with fail
    clear Pc0 Pc1 Pc2 Pc3 Pc4 Pc5 Pc6 Pc7 Pc8 Pl
    refine (specIn' _ _ _ _ _ h5.out).mono ?_
    rintro e w' ⟨rfl, rfl⟩
    have Pc0 := P.cell 0 _ rfl
    have Pc1 := P.cell 1 _ rfl
    have Pc2 := P.cell 2 _ rfl
    have Pc3 := P.cell 3 _ rfl
    have Pc4 := P.cell 4 _ rfl
    have Pc5 := P.cell 5 _ rfl
    have Pc6 := P.cell 6 _ rfl
    have Pc7 := P.cell 7 _ rfl
    have Pc8 := P.cell 8 _ rfl
    have Pl := P.lt
    go_wp2_with fail
    clear Pc0 Pc1 Pc2 Pc3 Pc4 Pc5 Pc6 Pc7 Pc8 Pl
    refine (specIn' _ _ _ _ _ h6.out).mono ?_
    rintro e w' ⟨rfl, rfl⟩
    go_wp2
    go_ret
    exact ⟨ret_b (by rw [E.out]), H.out⟩
  have E := Lib.hid (show ownB k ax ay fx fy u g d o = (!(d && o)) by simp only [ownB, h1, h2, h3, h4, h5, h6]; simp)
  have h1 := Lib.hid h1
  have Kh2 := fun W => specVecOk ax ay W
  rw [h2] at Kh2
  have Kh2 := Lib.hid Kh2
  have Kh3 := fun W => specVecOk fx fy W
  rw [h3] at Kh3
  have Kh3 := Lib.hid Kh3
  have Kh4 := Lib.hid (fun W => specVLen0 fx fy W v1.1.1 v1.1.2 v1.2.1 v1.2.2)
  generalize vl fx fy = ll at *
  have h5 := Lib.hid h5
  have h6 := Lib.hid h6
  cases d <;> cases o
  · go_enter Tryd.func62, Tryd.ntmps62
    have P : CellsAt (w.alloc (.cells #[.int .i64 k, .int .i64 ax, .int .i64 ay, .int .i64 fx, .int .i64 fy, .int .i64 u, .int .i64 g, .bool false, .bool false] 31)) w.heap.size (stv k ax ay fx fy u g false false) := CellsAt.new w _ _ _ rfl
    have H := Lib.hid (bl_alloc (bl_refl w) (.cells #[.int .i64 k, .int .i64 ax, .int .i64 ay, .int .i64 fx, .int .i64 fy, .int .i64 u, .int .i64 g, .bool false, .bool false] 31))
    have Pc0 := P.cell 0 _ rfl
    have Pc1 := P.cell 1 _ rfl
    have Pc2 := P.cell 2 _ rfl
    have Pc3 := P.cell 3 _ rfl
    have Pc4 := P.cell 4 _ rfl
    have Pc5 := P.cell 5 _ rfl
    have Pc6 := P.cell 6 _ rfl
    have Pc7 := P.cell 7 _ rfl
    have Pc8 := P.cell 8 _ rfl
    have Pl := P.lt
    go_wp2_with fail
    clear Pc0 Pc1 Pc2 Pc3 Pc4 Pc5 Pc6 Pc7 Pc8 Pl
    refine (specIn' _ _ _ _ _ h1.out).mono ?_
    rintro e w' ⟨rfl, rfl⟩
    have Pc0 := P.cell 0 _ rfl
    have Pc1 := P.cell 1 _ rfl
    have Pc2 := P.cell 2 _ rfl
    have Pc3 := P.cell 3 _ rfl
    have Pc4 := P.cell 4 _ rfl
    have Pc5 := P.cell 5 _ rfl
    have Pc6 := P.cell 6 _ rfl
    have Pc7 := P.cell 7 _ rfl
    have Pc8 := P.cell 8 _ rfl
    have Pl := P.lt
    go_wp2_with fail
    clear Pc0 Pc1 Pc2 Pc3 Pc4 Pc5 Pc6 Pc7 Pc8 Pl
    refine (Kh2.out _).mono ?_
    rintro e w1 ⟨rfl, B⟩
    replace P := P.step B
    replace H := Lib.hid (bl_trans H.out B)
    clear B
    have Pc0 := P.cell 0 _ rfl
    have Pc1 := P.cell 1 _ rfl
    have Pc2 := P.cell 2 _ rfl
    have Pc3 := P.cell 3 _ rfl
    have Pc4 := P.cell 4 _ rfl
    have Pc5 := P.cell 5 _ rfl
    have Pc6 := P.cell 6 _ rfl
    have Pc7 := P.cell 7 _ rfl
    have Pc8 := P.cell 8 _ rfl
    have Pl := P.lt
    go_wp2_with fail
    clear Pc0 Pc1 Pc2 Pc3 Pc4 Pc5 Pc6 Pc7 Pc8 Pl
    refine (Kh3.out _).mono ?_
    rintro e w2 ⟨rfl, B⟩
    replace P := P.step B
    replace H := Lib.hid (bl_trans H.out B)
    clear B
    have Pc0 := P.cell 0 _ rfl
    have Pc1 := P.cell 1 _ rfl
    have Pc2 := P.cell 2 _ rfl
    have Pc3 := P.cell 3 _ rfl
    have Pc4 := P.cell 4 _ rfl
    have Pc5 := P.cell 5 _ rfl
    have Pc6 := P.cell 6 _ rfl
    have Pc7 := P.cell 7 _ rfl
    have Pc8 := P.cell 8 _ rfl
    have Pl := P.lt
    go_wp2_with fail
    clear Pc0 Pc1 Pc2 Pc3 Pc4 Pc5 Pc6 Pc7 Pc8 Pl
    refine (Kh4.out _).mono ?_
    rintro e w3 ⟨rfl, B⟩
    replace P := P.step B
    replace H := Lib.hid (bl_trans H.out B)
    clear B
    have Pc0 := P.cell 0 _ rfl
    have Pc1 := P.cell 1 _ rfl
    have Pc2 := P.cell 2 _ rfl
    have Pc3 := P.cell 3 _ rfl
    have Pc4 := P.cell 4 _ rfl
    have Pc5 := P.cell 5 _ rfl
    have Pc6 := P.cell 6 _ rfl
    have Pc7 := P.cell 7 _ rfl
    have Pc8 := P.cell 8 _ rfl
    have Pl := P.lt
    go_wp2_with fail
    clear Pc0 Pc1 Pc2 Pc3 Pc4 Pc5 Pc6 Pc7 Pc8 Pl
    refine (specIn' _ _ _ _ _ h5.out).mono ?_
    rintro e w' ⟨rfl, rfl⟩
    have Pc0 := P.cell 0 _ rfl
    have Pc1 := P.cell 1 _ rfl
    have Pc2 := P.cell 2 _ rfl
    have Pc3 := P.cell 3 _ rfl
    have Pc4 := P.cell 4 _ rfl
    have Pc5 := P.cell 5 _ rfl
    have Pc6 := P.cell 6 _ rfl
    have Pc7 := P.cell 7 _ rfl
    have Pc8 := P.cell 8 _ rfl
    have Pl := P.lt
    go_wp2_with fail
    clear Pc0 Pc1 Pc2 Pc3 Pc4 Pc5 Pc6 Pc7 Pc8 Pl
    refine (specIn' _ _ _ _ _ h6.out).mono ?_
    rintro e w' ⟨rfl, rfl⟩
    have Pc0 := P.cell 0 _ rfl
    have Pc1 := P.cell 1 _ rfl
    have Pc2 := P.cell 2 _ rfl
    have Pc3 := P.cell 3 _ rfl
    have Pc4 := P.cell 4 _ rfl
    have Pc5 := P.cell 5 _ rfl
    have Pc6 := P.cell 6 _ rfl
    have Pc7 := P.cell 7 _ rfl
    have Pc8 := P.cell 8 _ rfl
    have Pl := P.lt
    go_wp2
    go_ret
    exact ⟨ret_b (by rw [E.out]; rfl), H.out⟩
  · go_enter Tryd.func62, Tryd.ntmps62
    have P : CellsAt (w.alloc (.cells #[.int .i64 k, .int .i64 ax, .int .i64 ay, .int .i64 fx, .int .i64 fy, .int .i64 u, .int .i64 g, .bool false, .bool true] 31)) w.heap.size (stv k ax ay fx fy u g false true) := CellsAt.new w _ _ _ rfl
    have H := Lib.hid (bl_alloc (bl_refl w) (.cells #[.int .i64 k, .int .i64 ax, .int .i64 ay, .int .i64 fx, .int .i64 fy, .int .i64 u, .int .i64 g, .bool false, .bool true] 31))
    have Pc0 := P.cell 0 _ rfl
    have Pc1 := P.cell 1 _ rfl
    have Pc2 := P.cell 2 _ rfl
    have Pc3 := P.cell 3 _ rfl
    have Pc4 := P.cell 4 _ rfl
    have Pc5 := P.cell 5 _ rfl
    have Pc6 := P.cell 6 _ rfl
    have Pc7 := P.cell 7 _ rfl
    have Pc8 := P.cell 8 _ rfl
    have Pl := P.lt
    go_wp2_with fail
    clear Pc0 Pc1 Pc2 Pc3 Pc4 Pc5 Pc6 Pc7 Pc8 Pl
    refine (specIn' _ _ _ _ _ h1.out).mono ?_
    rintro e w' ⟨rfl, rfl⟩
    have Pc0 := P.cell 0 _ rfl
    have Pc1 := P.cell 1 _ rfl
    have Pc2 := P.cell 2 _ rfl
    have Pc3 := P.cell 3 _ rfl
    have Pc4 := P.cell 4 _ rfl
    have Pc5 := P.cell 5 _ rfl
    have Pc6 := P.cell 6 _ rfl
    have Pc7 := P.cell 7 _ rfl
    have Pc8 := P.cell 8 _ rfl
    have Pl := P.lt
    go_wp2_with fail
    clear Pc0 Pc1 Pc2 Pc3 Pc4 Pc5 Pc6 Pc7 Pc8 Pl
    refine (Kh2.out _).mono ?_
    rintro e w1 ⟨rfl, B⟩
    replace P := P.step B
    replace H := Lib.hid (bl_trans H.out B)
    clear B
    have Pc0 := P.cell 0 _ rfl
    have Pc1 := P.cell 1 _ rfl
    have Pc2 := P.cell 2 _ rfl
    have Pc3 := P.cell 3 _ rfl
    have Pc4 := P.cell 4 _ rfl
    have Pc5 := P.cell 5 _ rfl
    have Pc6 := P.cell 6 _ rfl
    have Pc7 := P.cell 7 _ rfl
    have Pc8 := P.cell 8 _ rfl
    have Pl := P.lt
    go_wp2_with fail
    clear Pc0 Pc1 Pc2 Pc3 Pc4 Pc5 Pc6 Pc7 Pc8 Pl
    refine (Kh3.out _).mono ?_
    rintro e w2 ⟨rfl, B⟩
    replace P := P.step B
    replace H := Lib.hid (bl_trans H.out B)
    clear B
    have Pc0 := P.cell 0 _ rfl
    have Pc1 := P.cell 1 _ rfl
    have Pc2 := P.cell 2 _ rfl
    have Pc3 := P.cell 3 _ rfl
    have Pc4 := P.cell 4 _ rfl
    have Pc5 := P.cell 5 _ rfl
    have Pc6 := P.cell 6 _ rfl
    have Pc7 := P.cell 7 _ rfl
    have Pc8 := P.cell 8 _ rfl
    have Pl := P.lt
    go_wp2_with fail
    clear Pc0 Pc1 Pc2 Pc3 Pc4 Pc5 Pc6 Pc7 Pc8 Pl
    refine (Kh4.out _).mono ?_
    rintro e w3 ⟨rfl, B⟩
    replace P := P.step B
    replace H := Lib.hid (bl_trans H.out B)
    clear B
    have Pc0 := P.cell 0 _ rfl
    have Pc1 := P.cell 1 _ rfl
    have Pc2 := P.cell 2 _ rfl
    have Pc3 := P.cell 3 _ rfl
    have Pc4 := P.cell 4 _ rfl
    have Pc5 := P.cell 5 _ rfl
    have Pc6 := P.cell 6 _ rfl
    have Pc7 := P.cell 7 _ rfl
    have Pc8 := P.cell 8 _ rfl
    have Pl := P.lt
    go_wp2_with fail
    clear Pc0 Pc1 Pc2 Pc3 Pc4 Pc5 Pc6 Pc7 Pc8 Pl
    refine (specIn' _ _ _ _ _ h5.out).mono ?_
    rintro e w' ⟨rfl, rfl⟩
    have Pc0 := P.cell 0 _ rfl
    have Pc1 := P.cell 1 _ rfl
    have Pc2 := P.cell 2 _ rfl
    have Pc3 := P.cell 3 _ rfl
    have Pc4 := P.cell 4 _ rfl
    have Pc5 := P.cell 5 _ rfl
    have Pc6 := P.cell 6 _ rfl
    have Pc7 := P.cell 7 _ rfl
    have Pc8 := P.cell 8 _ rfl
    have Pl := P.lt
    go_wp2_with fail
    clear Pc0 Pc1 Pc2 Pc3 Pc4 Pc5 Pc6 Pc7 Pc8 Pl
    refine (specIn' _ _ _ _ _ h6.out).mono ?_
    rintro e w' ⟨rfl, rfl⟩
    have Pc0 := P.cell 0 _ rfl
    have Pc1 := P.cell 1 _ rfl
    have Pc2 := P.cell 2 _ rfl
    have Pc3 := P.cell 3 _ rfl
    have Pc4 := P.cell 4 _ rfl
    have Pc5 := P.cell 5 _ rfl
    have Pc6 := P.cell 6 _ rfl
    have Pc7 := P.cell 7 _ rfl
    have Pc8 := P.cell 8 _ rfl
    have Pl := P.lt
    go_wp2
    go_ret
    exact ⟨ret_b (by rw [E.out]; rfl), H.out⟩
  · go_enter Tryd.func62, Tryd.ntmps62
    have P : CellsAt (w.alloc (.cells #[.int .i64 k, .int .i64 ax, .int .i64 ay, .int .i64 fx, .int .i64 fy, .int .i64 u, .int .i64 g, .bool true, .bool false] 31)) w.heap.size (stv k ax ay fx fy u g true false) := CellsAt.new w _ _ _ rfl
    have H := Lib.hid (bl_alloc (bl_refl w) (.cells #[.int .i64 k, .int .i64 ax, .int .i64 ay, .int .i64 fx, .int .i64 fy, .int .i64 u, .int .i64 g, .bool true, .bool false] 31))
    have Pc0 := P.cell 0 _ rfl
    have Pc1 := P.cell 1 _ rfl
    have Pc2 := P.cell 2 _ rfl
    have Pc3 := P.cell 3 _ rfl
    have Pc4 := P.cell 4 _ rfl
    have Pc5 := P.cell 5 _ rfl
    have Pc6 := P.cell 6 _ rfl
    have Pc7 := P.cell 7 _ rfl
    have Pc8 := P.cell 8 _ rfl
    have Pl := P.lt
    go_wp2_with fail
    clear Pc0 Pc1 Pc2 Pc3 Pc4 Pc5 Pc6 Pc7 Pc8 Pl
    refine (specIn' _ _ _ _ _ h1.out).mono ?_
    rintro e w' ⟨rfl, rfl⟩
    have Pc0 := P.cell 0 _ rfl
    have Pc1 := P.cell 1 _ rfl
    have Pc2 := P.cell 2 _ rfl
    have Pc3 := P.cell 3 _ rfl
    have Pc4 := P.cell 4 _ rfl
    have Pc5 := P.cell 5 _ rfl
    have Pc6 := P.cell 6 _ rfl
    have Pc7 := P.cell 7 _ rfl
    have Pc8 := P.cell 8 _ rfl
    have Pl := P.lt
    go_wp2_with fail
    clear Pc0 Pc1 Pc2 Pc3 Pc4 Pc5 Pc6 Pc7 Pc8 Pl
    refine (Kh2.out _).mono ?_
    rintro e w1 ⟨rfl, B⟩
    replace P := P.step B
    replace H := Lib.hid (bl_trans H.out B)
    clear B
    have Pc0 := P.cell 0 _ rfl
    have Pc1 := P.cell 1 _ rfl
    have Pc2 := P.cell 2 _ rfl
    have Pc3 := P.cell 3 _ rfl
    have Pc4 := P.cell 4 _ rfl
    have Pc5 := P.cell 5 _ rfl
    have Pc6 := P.cell 6 _ rfl
    have Pc7 := P.cell 7 _ rfl
    have Pc8 := P.cell 8 _ rfl
    have Pl := P.lt
    go_wp2_with fail
    clear Pc0 Pc1 Pc2 Pc3 Pc4 Pc5 Pc6 Pc7 Pc8 Pl
    refine (Kh3.out _).mono ?_
    rintro e w2 ⟨rfl, B⟩
    replace P := P.step B
    replace H := Lib.hid (bl_trans H.out B)
    clear B
    have Pc0 := P.cell 0 _ rfl
    have Pc1 := P.cell 1 _ rfl
    have Pc2 := P.cell 2 _ rfl
    have Pc3 := P.cell 3 _ rfl
    have Pc4 := P.cell 4 _ rfl
    have Pc5 := P.cell 5 _ rfl
    have Pc6 := P.cell 6 _ rfl
    have Pc7 := P.cell 7 _ rfl
    have Pc8 := P.cell 8 _ rfl
    have Pl := P.lt
    go_wp2_with fail
    clear Pc0 Pc1 Pc2 Pc3 Pc4 Pc5 Pc6 Pc7 Pc8 Pl
    refine (Kh4.out _).mono ?_
    rintro e w3 ⟨rfl, B⟩
    replace P := P.step B
    replace H := Lib.hid (bl_trans H.out B)
    clear B
    have Pc0 := P.cell 0 _ rfl
    have Pc1 := P.cell 1 _ rfl
    have Pc2 := P.cell 2 _ rfl
    have Pc3 := P.cell 3 _ rfl
    have Pc4 := P.cell 4 _ rfl
    have Pc5 := P.cell 5 _ rfl
    have Pc6 := P.cell 6 _ rfl
    have Pc7 := P.cell 7 _ rfl
    have Pc8 := P.cell 8 _ rfl
    have Pl := P.lt
    go_wp2_with fail
    clear Pc0 Pc1 Pc2 Pc3 Pc4 Pc5 Pc6 Pc7 Pc8 Pl
    refine (specIn' _ _ _ _ _ h5.out).mono ?_
    rintro e w' ⟨rfl, rfl⟩
    have Pc0 := P.cell 0 _ rfl
    have Pc1 := P.cell 1 _ rfl
    have Pc2 := P.cell 2 _ rfl
    have Pc3 := P.cell 3 _ rfl
    have Pc4 := P.cell 4 _ rfl
    have Pc5 := P.cell 5 _ rfl
    have Pc6 := P.cell 6 _ rfl
    have Pc7 := P.cell 7 _ rfl
    have Pc8 := P.cell 8 _ rfl
    have Pl := P.lt
    go_wp2_with fail
    clear Pc0 Pc1 Pc2 Pc3 Pc4 Pc5 Pc6 Pc7 Pc8 Pl
    refine (specIn' _ _ _ _ _ h6.out).mono ?_
    rintro e w' ⟨rfl, rfl⟩
    have Pc0 := P.cell 0 _ rfl
    have Pc1 := P.cell 1 _ rfl
    have Pc2 := P.cell 2 _ rfl
    have Pc3 := P.cell 3 _ rfl
    have Pc4 := P.cell 4 _ rfl
    have Pc5 := P.cell 5 _ rfl
    have Pc6 := P.cell 6 _ rfl
    have Pc7 := P.cell 7 _ rfl
    have Pc8 := P.cell 8 _ rfl
    have Pl := P.lt
    go_wp2
    go_ret
    exact ⟨ret_b (by rw [E.out]; rfl), H.out⟩
  · go_enter Tryd.func62, Tryd.ntmps62
    have P : CellsAt (w.alloc (.cells #[.int .i64 k, .int .i64 ax, .int .i64 ay, .int .i64 fx, .int .i64 fy, .int .i64 u, .int .i64 g, .bool true, .bool true] 31)) w.heap.size (stv k ax ay fx fy u g true true) := CellsAt.new w _ _ _ rfl
    have H := Lib.hid (bl_alloc (bl_refl w) (.cells #[.int .i64 k, .int .i64 ax, .int .i64 ay, .int .i64 fx, .int .i64 fy, .int .i64 u, .int .i64 g, .bool true, .bool true] 31))
    have Pc0 := P.cell 0 _ rfl
    have Pc1 := P.cell 1 _ rfl
    have Pc2 := P.cell 2 _ rfl
    have Pc3 := P.cell 3 _ rfl
    have Pc4 := P.cell 4 _ rfl
    have Pc5 := P.cell 5 _ rfl
    have Pc6 := P.cell 6 _ rfl
    have Pc7 := P.cell 7 _ rfl
    have Pc8 := P.cell 8 _ rfl
    have Pl := P.lt
    go_wp2_with fail
    clear Pc0 Pc1 Pc2 Pc3 Pc4 Pc5 Pc6 Pc7 Pc8 Pl
    refine (specIn' _ _ _ _ _ h1.out).mono ?_
    rintro e w' ⟨rfl, rfl⟩
    have Pc0 := P.cell 0 _ rfl
    have Pc1 := P.cell 1 _ rfl
    have Pc2 := P.cell 2 _ rfl
    have Pc3 := P.cell 3 _ rfl
    have Pc4 := P.cell 4 _ rfl
    have Pc5 := P.cell 5 _ rfl
    have Pc6 := P.cell 6 _ rfl
    have Pc7 := P.cell 7 _ rfl
    have Pc8 := P.cell 8 _ rfl
    have Pl := P.lt
    go_wp2_with fail
    clear Pc0 Pc1 Pc2 Pc3 Pc4 Pc5 Pc6 Pc7 Pc8 Pl
    refine (Kh2.out _).mono ?_
    rintro e w1 ⟨rfl, B⟩
    replace P := P.step B
    replace H := Lib.hid (bl_trans H.out B)
    clear B
    have Pc0 := P.cell 0 _ rfl
    have Pc1 := P.cell 1 _ rfl
    have Pc2 := P.cell 2 _ rfl
    have Pc3 := P.cell 3 _ rfl
    have Pc4 := P.cell 4 _ rfl
    have Pc5 := P.cell 5 _ rfl
    have Pc6 := P.cell 6 _ rfl
    have Pc7 := P.cell 7 _ rfl
    have Pc8 := P.cell 8 _ rfl
    have Pl := P.lt
    go_wp2_with fail
    clear Pc0 Pc1 Pc2 Pc3 Pc4 Pc5 Pc6 Pc7 Pc8 Pl
    refine (Kh3.out _).mono ?_
    rintro e w2 ⟨rfl, B⟩
    replace P := P.step B
    replace H := Lib.hid (bl_trans H.out B)
    clear B
    have Pc0 := P.cell 0 _ rfl
    have Pc1 := P.cell 1 _ rfl
    have Pc2 := P.cell 2 _ rfl
    have Pc3 := P.cell 3 _ rfl
    have Pc4 := P.cell 4 _ rfl
    have Pc5 := P.cell 5 _ rfl
    have Pc6 := P.cell 6 _ rfl
    have Pc7 := P.cell 7 _ rfl
    have Pc8 := P.cell 8 _ rfl
    have Pl := P.lt
    go_wp2_with fail
    clear Pc0 Pc1 Pc2 Pc3 Pc4 Pc5 Pc6 Pc7 Pc8 Pl
    refine (Kh4.out _).mono ?_
    rintro e w3 ⟨rfl, B⟩
    replace P := P.step B
    replace H := Lib.hid (bl_trans H.out B)
    clear B
    have Pc0 := P.cell 0 _ rfl
    have Pc1 := P.cell 1 _ rfl
    have Pc2 := P.cell 2 _ rfl
    have Pc3 := P.cell 3 _ rfl
    have Pc4 := P.cell 4 _ rfl
    have Pc5 := P.cell 5 _ rfl
    have Pc6 := P.cell 6 _ rfl
    have Pc7 := P.cell 7 _ rfl
    have Pc8 := P.cell 8 _ rfl
    have Pl := P.lt
    go_wp2_with fail
    clear Pc0 Pc1 Pc2 Pc3 Pc4 Pc5 Pc6 Pc7 Pc8 Pl
    refine (specIn' _ _ _ _ _ h5.out).mono ?_
    rintro e w' ⟨rfl, rfl⟩
    have Pc0 := P.cell 0 _ rfl
    have Pc1 := P.cell 1 _ rfl
    have Pc2 := P.cell 2 _ rfl
    have Pc3 := P.cell 3 _ rfl
    have Pc4 := P.cell 4 _ rfl
    have Pc5 := P.cell 5 _ rfl
    have Pc6 := P.cell 6 _ rfl
    have Pc7 := P.cell 7 _ rfl
    have Pc8 := P.cell 8 _ rfl
    have Pl := P.lt
    go_wp2_with fail
    clear Pc0 Pc1 Pc2 Pc3 Pc4 Pc5 Pc6 Pc7 Pc8 Pl
    refine (specIn' _ _ _ _ _ h6.out).mono ?_
    rintro e w' ⟨rfl, rfl⟩
    have Pc0 := P.cell 0 _ rfl
    have Pc1 := P.cell 1 _ rfl
    have Pc2 := P.cell 2 _ rfl
    have Pc3 := P.cell 3 _ rfl
    have Pc4 := P.cell 4 _ rfl
    have Pc5 := P.cell 5 _ rfl
    have Pc6 := P.cell 6 _ rfl
    have Pc7 := P.cell 7 _ rfl
    have Pc8 := P.cell 8 _ rfl
    have Pl := P.lt
    go_wp2
    go_ret
    exact ⟨ret_b (by rw [E.out]; rfl), H.out⟩

set_option maxRecDepth 100000 in
set_option maxHeartbeats 1000000 in
theorem specEStart (i t x y : Int) (A : Option Addr) (n c : Nat) (G : Option Addr) (m kk : Nat) (fp fq fs fz b : Int) (ws gs : List Bx) (w : World) (I : Boxes w A n ws) (J : Boxes w G m gs) (hn : n ≤ 281474976710656) (hm : m ≤ 281474976710656) : Calls Tryd.prog 30 #[lev i t x y A n c G m kk fp fq fs fz b] w fun e w' => e = .returned (.tuple #[(if lvB i t x y ws gs fp fq fs fz b then sta 0 x y 0 0 0 0 false false else sta 0 0 0 0 0 0 0 false false), .bool (lvB i t x y ws gs fp fq fs fz b)]) ∧ Below w.heap.size w w' := by
  have V := fun (W : World) (Z : Boxes W A n ws) (Y : Boxes W G m gs) => specLvValid i t x y A n c G m kk fp fq fs fz b ws gs W Z Y hn hm
  have I := Lib.hid I
  have J := Lib.hid J
  have P : CellsAt ((w.alloc (.cells #[.int .i64 i, .int .i64 t, .int .i64 x, .int .i64 y, .slice A n c, .slice G m kk, .int .i64 fp, .int .i64 fq, .int .i64 fs, .int .i64 fz, .int .i64 b] 29)).alloc (.cells #[.int .i64 0, .int .i64 0, .int .i64 0, .int .i64 0, .int .i64 0, .int .i64 0, .int .i64 0, .bool false, .bool false] 31)) w.heap.size (lvs i t x y A n c G m kk fp fq fs fz b) := (CellsAt.new w _ _ _ rfl).alloc _
  have D : CellsAt ((w.alloc (.cells #[.int .i64 i, .int .i64 t, .int .i64 x, .int .i64 y, .slice A n c, .slice G m kk, .int .i64 fp, .int .i64 fq, .int .i64 fs, .int .i64 fz, .int .i64 b] 29)).alloc (.cells #[.int .i64 0, .int .i64 0, .int .i64 0, .int .i64 0, .int .i64 0, .int .i64 0, .int .i64 0, .bool false, .bool false] 31)) (w.heap.size + 1) (stv 0 0 0 0 0 0 0 false false) := CellsAt.new _ _ _ _ (by simp)
  have H := Lib.hid (bl_alloc (bl_alloc (bl_refl w) (.cells #[.int .i64 i, .int .i64 t, .int .i64 x, .int .i64 y, .slice A n c, .slice G m kk, .int .i64 fp, .int .i64 fq, .int .i64 fs, .int .i64 fz, .int .i64 b] 29)) (.cells #[.int .i64 0, .int .i64 0, .int .i64 0, .int .i64 0, .int .i64 0, .int .i64 0, .int .i64 0, .bool false, .bool false] 31))
  cases hv : lvB i t x y ws gs fp fq fs fz b
  · rw [hv] at V
    have V := Lib.hid V
    clear hv
    go_enter Tryd.func30, Tryd.ntmps30
    go_wp2_with fail
    refine (V.out _ (I.out.step H.out) (J.out.step H.out)).mono ?_
    rintro e w1 ⟨rfl, B⟩
    replace D := D.step B
    replace H := Lib.hid (bl_trans H.out B)
    clear B P
    go_wp2_with (refine store_new rfl 31 (.tmp 2) (.tmp 7) rfl (w.heap.size + 1) rfl (stv 0 0 0 0 0 0 0 false false) rfl _ D (by simp) state_size rfl ?_)
    intro w2 K N
    go_wp2
    exact bodyPost_ret (v := .tuple #[sta 0 0 0 0 0 0 0 false false, .bool false]) (res_cells_tmp rfl (w.heap.size + 1) rfl (stv 0 0 0 0 0 0 0 false false) N (.bool false) rfl Tryd.underlying31 rfl state_size) rfl ⟨rfl, kp_below H.out K (by omega)⟩
  · rw [hv] at V
    have V := Lib.hid V
    clear hv
    go_enter Tryd.func30, Tryd.ntmps30
    go_wp2_with fail
    refine (V.out _ (I.out.step H.out) (J.out.step H.out)).mono ?_
    rintro e w1 ⟨rfl, B⟩
    replace P := P.step B
    replace D := D.step B
    replace H := Lib.hid (bl_trans H.out B)
    clear B
    have Pc0 := P.cell 0 _ rfl
    have Pc1 := P.cell 1 _ rfl
    have Pc2 := P.cell 2 _ rfl
    have Pc3 := P.cell 3 _ rfl
    have Pc4 := P.cell 4 _ rfl
    have Pc5 := P.cell 5 _ rfl
    have Pc6 := P.cell 6 _ rfl
    have Pc7 := P.cell 7 _ rfl
    have Pc8 := P.cell 8 _ rfl
    have Pc9 := P.cell 9 _ rfl
    have Pc10 := P.cell 10 _ rfl
    have Pl := P.lt
    go_wp2_with fail
    refine (specStart i t x y A n c G m kk fp fq fs fz b _).mono ?_
    rintro e w2 ⟨rfl, B⟩
    replace D := D.step B
    replace H := Lib.hid (bl_trans H.out B)
    clear B Pc0 Pc1 Pc2 Pc3 Pc4 Pc5 Pc6 Pc7 Pc8 Pc9 Pc10 Pl P
    go_wp2_with (refine store_new rfl 31 (.tmp 2) (.tmp 9) rfl (w.heap.size + 1) rfl (stv 0 x y 0 0 0 0 false false) rfl _ D (by simp) state_size rfl ?_)
    intro w3 K N
    go_wp2
    exact bodyPost_ret (v := .tuple #[sta 0 x y 0 0 0 0 false false, .bool true]) (res_cells_tmp rfl (w.heap.size + 1) rfl (stv 0 x y 0 0 0 0 false false) N (.bool true) rfl Tryd.underlying31 rfl state_size) rfl ⟨rfl, kp_below H.out K (by omega)⟩

theorem own_fast {k ax ay fx fy u g : Int} {d o : Bool} (h : ownB k ax ay fx fy u g d o = true) : (-1000000 ≤ fx ∧ fx ≤ 1000000) ∧ (-1000000 ≤ fy ∧ fy ≤ 1000000) := by
  simp only [ownB, Bool.and_eq_true] at h
  exact (vok_iff fx fy).1 h.2.2.1

end Go.Proofs.YtnoenjociioffaaDoor
