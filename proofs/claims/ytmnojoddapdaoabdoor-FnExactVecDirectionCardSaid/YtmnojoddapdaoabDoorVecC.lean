/-
  More contracts of chapter 2.
-/
import Derived.Test.YtmnojoddapdaoabDoorVecB
namespace Go.Proofs.YtmnojoddapdaoabDoor
open Go.RowKit
open M

theorem specsixteen {d : Int} (h0 : 0 ≤ d) (h1 : d ≤ 15) : d = 0 ∨ d = 1 ∨ d = 2 ∨ d = 3 ∨ d = 4 ∨ d = 5 ∨ d = 6 ∨ d = 7 ∨ d = 8 ∨ d = 9 ∨ d = 10 ∨ d = 11 ∨ d = 12 ∨ d = 13 ∨ d = 14 ∨ d = 15 := by omega
set_option maxHeartbeats 4000000 in
theorem specVDir0 (d : Int) (w : World) (h0 : 0 ≤ d) (h1 : d ≤ 15) : Calls Tryd.prog 13 #[.int .i64 d] w fun e w' => e = .returned (vec (dirX d) (dirY d)) ∧ Below w.heap.size w w' := by
  rcases specsixteen h0 h1 with rfl | rfl | rfl | rfl | rfl | rfl | rfl | rfl | rfl | rfl | rfl | rfl | rfl | rfl | rfl | rfl
  all_goals
    go_enter Tryd.func13, Tryd.ntmps13
    go_wp2
    go_region
    all_goals
      go_wp2
      exact bodyPost_ret (by simp [results, Tryd.results13, go_sem]; decide) rfl ⟨rfl, by repeat (first | exact bl_refl _ | refine bl_alloc ?_ _ | refine bl_set ?_ _ _ _ (by omega) | refine bl_drew ?_ _)⟩

theorem specVDir (d : Int) (w : World) : Calls Tryd.prog 7 #[.int .i64 d] w fun e w' => e = .returned (.tuple #[vec (dirX d) (dirY d), .bool (inB d 0 15)]) ∧ Below w.heap.size w w' := by
  cases h : inB d 0 15
  · have E := Lib.hid (dir_no h)
    go_enter Tryd.func7, Tryd.ntmps7
    go_wp2_with (go_at_call 12; refine (in_any _ _ _ _).mono ?_; rintro e w' ⟨rfl, rfl⟩)
    exact bodyPost_ret (v := .tuple #[vec 0 0, .bool false]) (by simp [results, Tryd.results7, go_sem]) rfl ⟨ret_vb (by rw [E.out.1]) (by rw [E.out.2]) rfl, bl_alloc (bl_refl w) _⟩
  · have hd : 0 ≤ d ∧ d ≤ 15 := by simpa [inB] using h
    obtain ⟨d1, d2⟩ := hd
    go_enter Tryd.func7, Tryd.ntmps7
    go_wp2_with fail
    refine (in_any _ _ _ _).mono ?_
    rintro e w' ⟨rfl, rfl⟩
    go_wp2_with fail
    refine (specVDir0 _ _ d1 d2).mono ?_
    rintro e w1 ⟨rfl, B1⟩
    have C1 := B1
    clear B1
    obtain ⟨hc1, hf1⟩ := bcell C1
    have H1 := Lib.hid (bl_trans (bl_alloc (bl_refl w) _) C1)
    go_wp2
    exact bodyPost_ret (v := .tuple #[vec (dirX d) (dirY d), .bool true]) (by simp [results, Tryd.results7, go_sem, hc1]) rfl ⟨rfl, bl_set (bl_set (H1.out) _ _ _ (by omega)) _ _ _ (by omega)⟩

end Go.Proofs.YtmnojoddapdaoabDoor
