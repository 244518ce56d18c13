/-
  More contracts of chapter 2.
-/
import Derived.Test.YtmnojoddapdaoabVecB
namespace Go.Proofs.Ytmnojoddapdaoab
open Go.RowKit
open M

theorem specsixteen {d : Int} (h0 : 0 ≤ d) (h1 : d ≤ 15) : d = 0 ∨ d = 1 ∨ d = 2 ∨ d = 3 ∨ d = 4 ∨ d = 5 ∨ d = 6 ∨ d = 7 ∨ d = 8 ∨ d = 9 ∨ d = 10 ∨ d = 11 ∨ d = 12 ∨ d = 13 ∨ d = 14 ∨ d = 15 := by omega

set_option maxHeartbeats 1000000 in
theorem specVClamp0 (x y m : Int) (w : World) (x1 : -1000000 ≤ x) (x2 : x ≤ 1000000) (y1 : -1000000 ≤ y) (y2 : y ≤ 1000000) (m1 : 0 ≤ m) (m2 : m ≤ 1000000) : Calls Try.prog 36 #[vec x y, .int .i64 m] w fun e w' => e = .returned (vec (cpX x y m) (cpY x y m)) ∧ Below w.heap.size w w' := by
  have hv : vokB x y = true := vok_mk ⟨⟨x1, x2⟩, y1, y2⟩
  have hm : inB m 0 1000000 = true := inB_yes ⟨m1, m2⟩
  obtain ⟨l1, l2⟩ := vl_bd x1 x2 y1 y2
  by_cases c : vl x y ≤ m
  · have E := Lib.hid (cp_in hv hm c)
    clear hv hm
    go_enter Try.func36, Try.ntmps36
    go_wp2_with fail
    refine (specVLen0 _ _ _ x1 x2 y1 y2).mono ?_
    rintro e w1 ⟨rfl, B1⟩
    have C1 := B1
    clear B1
    obtain ⟨hc1, hf1⟩ := bcell C1
    have H1 := Lib.hid (bl_trans (bl_alloc (bl_alloc (bl_refl w) _) _) C1)
    go_wp2
    exact bodyPost_ret (v := vec x y) (by simp [results, Try.results36, go_sem, hc1]) rfl ⟨ret_v (by rw [E.out.1]) (by rw [E.out.2.1]), bl_set (bl_set (H1.out) _ _ _ (by omega)) _ _ _ (by omega)⟩
  · have E := Lib.hid (cp_out hv hm c)
    have p1 := mul_bd (a := x) (b := m) (by omega) (by omega) (by omega) (by omega)
    have p2 := mul_bd (a := y) (b := m) (by omega) (by omega) (by omega) (by omega)
    have s1 := clamp_bd (n := vl x y) x1 x2 m1 m2
    have s2 := clamp_bd (n := vl x y) y1 y2 m1 m2
    have n0 : vl x y ≠ 0 := by omega
    have w1' : IntKind.i64.wrap (x * m) = x * m := IntWalk.i64_in _ (by omega)
    have w2' : IntKind.i64.wrap (y * m) = y * m := IntWalk.i64_in _ (by omega)
    have w3' : IntKind.i64.wrap ((x * m).tdiv (vl x y)) = (x * m).tdiv (vl x y) := IntWalk.i64_in _ (by omega)
    have w4' : IntKind.i64.wrap ((y * m).tdiv (vl x y)) = (y * m).tdiv (vl x y) := IntWalk.i64_in _ (by omega)
    have n1 : m < vl x y := by omega
    clear hv hm c
    obtain ⟨L, hL⟩ : ∃ L, vl x y = L := ⟨_, rfl⟩
    rw [hL] at E s1 s2 n0 n1 w3' w4' l1 l2
    have hL := Lib.hid hL
    go_enter Try.func36, Try.ntmps36
    go_wp2_with fail
    refine (specVLen0' _ _ L _ hL.out x1 x2 y1 y2).mono ?_
    rintro e w1 ⟨rfl, B1⟩
    obtain ⟨hc1, hf1⟩ := bcell B1
    have H1 := Lib.hid (bl_trans (bl_alloc (bl_alloc (bl_refl w) _) _) B1)
    clear B1
    go_wp2_with fail
    go_region
    all_goals
      go_wp2
      exact bodyPost_ret (v := vec ((x * m).tdiv L) ((y * m).tdiv L)) (by simp [results, Try.results36, go_sem, hc1]) rfl ⟨ret_v (by rw [E.out.1]) (by rw [E.out.2.1]), by repeat (first | exact H1.out | refine bl_set ?_ _ _ _ (by omega) | refine bl_drew ?_ _)⟩

set_option maxHeartbeats 400000 in
theorem specVClamp (x y m : Int) (w : World) : Calls Try.prog 15 #[vec x y, .int .i64 m] w fun e w' => e = .returned (.tuple #[vec (cpX x y m) (cpY x y m), .bool (cpB x y m)]) ∧ Below w.heap.size w w' := by
  cases h : vokB x y
  · have E := Lib.hid (cp_no1 (m := m) h)
    go_enter Try.func15, Try.ntmps15
    go_wp2_with fail
    refine (specVecOk _ _ _).mono ?_
    rintro e w1 ⟨rfl, B1⟩
    have C1 := B1
    clear B1
    obtain ⟨hc1, hf1⟩ := bcell C1
    have H1 := Lib.hid (bl_trans (bl_alloc (bl_alloc (bl_refl w) _) _) C1)
    go_wp2
    exact bodyPost_ret (v := .tuple #[vec 0 0, .bool false]) (by simp [results, Try.results15, go_sem, hc1]) rfl ⟨ret_vb (by rw [E.out.1]) (by rw [E.out.2.1]) (by rw [E.out.2.2]), bl_set (bl_set (H1.out) _ _ _ (by omega)) _ _ _ (by omega)⟩
  cases g : inB m 0 1000000
  · have E := Lib.hid (cp_no2 (x := x) (y := y) g)
    go_enter Try.func15, Try.ntmps15
    go_wp2_with fail
    refine (specVecOk _ _ _).mono ?_
    rintro e w1 ⟨rfl, B1⟩
    have C1 := B1
    clear B1
    obtain ⟨hc1, hf1⟩ := bcell C1
    have H1 := Lib.hid (bl_trans (bl_alloc (bl_alloc (bl_refl w) _) _) C1)
    go_wp2_with (go_at_call 35; refine (in_any _ _ _ _).mono ?_; rintro e w' ⟨rfl, rfl⟩)
    exact bodyPost_ret (v := .tuple #[vec 0 0, .bool false]) (by simp [results, Try.results15, go_sem, hc1]) rfl ⟨ret_vb (by rw [E.out.1]) (by rw [E.out.2.1]) (by rw [E.out.2.2]), bl_set (bl_set H1.out _ _ _ (by omega)) _ _ _ (by omega)⟩
  · have E := Lib.hid (cp_yes h g)
    obtain ⟨⟨x1, x2⟩, y1, y2⟩ := (vok_iff x y).1 h
    have hm : 0 ≤ m ∧ m ≤ 1000000 := by simpa [inB] using g
    obtain ⟨m1, m2⟩ := hm
    go_enter Try.func15, Try.ntmps15
    go_wp2_with fail
    refine (specVecOk _ _ _).mono ?_
    rintro e w1 ⟨rfl, B1⟩
    have C1 := B1
    clear B1
    obtain ⟨hc1, hf1⟩ := bcell C1
    have H1 := Lib.hid (bl_trans (bl_alloc (bl_alloc (bl_refl w) _) _) C1)
    go_wp2_with fail
    refine (in_any _ _ _ _).mono ?_
    rintro e w' ⟨rfl, rfl⟩
    go_wp2_with fail
    refine (specVClamp0 _ _ _ _ x1 x2 y1 y2 m1 m2).mono ?_
    rintro e w2 ⟨rfl, B2⟩
    have C2 := bl_trans C1 B2
    clear hc1 hf1 C1 B2
    obtain ⟨hc2, hf2⟩ := bcell C2
    have H2 := Lib.hid (bl_trans (bl_alloc (bl_alloc (bl_refl w) _) _) C2)
    go_wp2
    exact bodyPost_ret (v := .tuple #[vec (cpX x y m) (cpY x y m), .bool true]) (by simp [results, Try.results15, go_sem, hc2]) rfl ⟨ret_vb rfl rfl (by rw [E.out]), bl_set (bl_set (H2.out) _ _ _ (by omega)) _ _ _ (by omega)⟩

end Go.Proofs.Ytmnojoddapdaoab
