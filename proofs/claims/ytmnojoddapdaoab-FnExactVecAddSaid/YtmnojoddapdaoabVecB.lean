/-
  More contracts of chapter 2.
-/
import Derived.Test.YtmnojoddapdaoabVec
namespace Go.Proofs.Ytmnojoddapdaoab
open Go.RowKit
open M

set_option maxHeartbeats 1000000 in
theorem specVScale0 (x y k : Int) (w : World) (x1 : -1000000 ≤ x) (x2 : x ≤ 1000000) (y1 : -1000000 ≤ y) (y2 : y ≤ 1000000) (k1 : -2000000000 ≤ k) (k2 : k ≤ 2000000000) : Calls Try.prog 42 #[vec x y, .int .i64 k] w fun e w' => e = .returned (vec (mu x k) (mu y k)) ∧ Below w.heap.size w w' := by
  go_enter Try.func42, Try.ntmps42
  go_wp2_with fail
  go_region_with ((go_at_call 48; refine (specMul0 _ _ _ (by omega) (by omega) (by omega) (by omega)).mono ?_; rintro e w' ⟨rfl, rfl⟩))
  all_goals
    go_wp2
    exact bodyPost_ret (v := vec ((x * k).tdiv 1000) ((y * k).tdiv 1000)) (by simp [results, Try.results42, go_sem]) rfl ⟨ret_v rfl rfl, by repeat (first | exact bl_refl _ | refine bl_alloc ?_ _ | refine bl_set ?_ _ _ _ (by omega) | refine bl_drew ?_ _)⟩

set_option maxHeartbeats 400000 in
theorem specVScale (x y k : Int) (w : World) : Calls Try.prog 27 #[vec x y, .int .i64 k] w fun e w' => e = .returned (.tuple #[vec (vsX x y k) (vsY x y k), .bool (vsB x y k)]) ∧ Below w.heap.size w w' := by
  cases h : vokB x y
  · have E := Lib.hid (vs_no1 (k := k) h)
    go_enter Try.func27, Try.ntmps27
    go_wp2_with fail
    refine (specVecOk _ _ _).mono ?_
    rintro e w1 ⟨rfl, B1⟩
    have C1 := B1
    clear B1
    obtain ⟨hc1, hf1⟩ := bcell C1
    have H1 := Lib.hid (bl_trans (bl_alloc (bl_alloc (bl_refl w) _) _) C1)
    go_wp2
    exact bodyPost_ret (v := .tuple #[vec 0 0, .bool false]) (by simp [results, Try.results27, go_sem, hc1]) rfl ⟨ret_vb (by rw [E.out.1]) (by rw [E.out.2.1]) (by rw [E.out.2.2]), bl_set (bl_set (H1.out) _ _ _ (by omega)) _ _ _ (by omega)⟩
  cases g : okB k
  · have E := Lib.hid (vs_no2 (x := x) (y := y) g)
    go_enter Try.func27, Try.ntmps27
    go_wp2_with fail
    refine (specVecOk _ _ _).mono ?_
    rintro e w1 ⟨rfl, B1⟩
    have C1 := B1
    clear B1
    obtain ⟨hc1, hf1⟩ := bcell C1
    have H1 := Lib.hid (bl_trans (bl_alloc (bl_alloc (bl_refl w) _) _) C1)
    go_wp2_with (go_at_call 41; refine (specOk _ _).mono ?_; rintro e w' ⟨rfl, rfl⟩)
    exact bodyPost_ret (v := .tuple #[vec 0 0, .bool false]) (by simp [results, Try.results27, go_sem, hc1]) rfl ⟨ret_vb (by rw [E.out.1]) (by rw [E.out.2.1]) (by rw [E.out.2.2]), bl_set (bl_set H1.out _ _ _ (by omega)) _ _ _ (by omega)⟩
  · have E := Lib.hid (vs_yes h g)
    obtain ⟨⟨x1, x2⟩, y1, y2⟩ := (vok_iff x y).1 h
    obtain ⟨k1, k2⟩ := (ok_iff k).1 g
    go_enter Try.func27, Try.ntmps27
    go_wp2_with fail
    refine (specVecOk _ _ _).mono ?_
    rintro e w1 ⟨rfl, B1⟩
    have C1 := B1
    clear B1
    obtain ⟨hc1, hf1⟩ := bcell C1
    have H1 := Lib.hid (bl_trans (bl_alloc (bl_alloc (bl_refl w) _) _) C1)
    go_wp2_with fail
    refine (specOk _ _).mono ?_
    rintro e w' ⟨rfl, rfl⟩
    go_wp2_with fail
    refine (specVScale0 _ _ _ _ x1 x2 y1 y2 k1 k2).mono ?_
    rintro e w2 ⟨rfl, B2⟩
    have C2 := bl_trans C1 B2
    clear hc1 hf1 C1 B2
    obtain ⟨hc2, hf2⟩ := bcell C2
    have H2 := Lib.hid (bl_trans (bl_alloc (bl_alloc (bl_refl w) _) _) C2)
    go_wp2_with fail
    refine (specVRange _ _ _).mono ?_
    rintro e w3 ⟨rfl, B3⟩
    have C3 := bl_trans C2 B3
    clear hc2 hf2 C2 B3
    obtain ⟨hc3, hf3⟩ := bcell C3
    have H3 := Lib.hid (bl_trans (bl_alloc (bl_alloc (bl_refl w) _) _) C3)
    go_wp2
    exact bodyPost_ret (v := .tuple #[vec (rngX (mu x k) (mu y k)) (rngY (mu x k) (mu y k)), .bool (vokB (mu x k) (mu y k))]) (by simp [results, Try.results27, go_sem, hc3]) rfl ⟨ret_vb (by rw [E.out.1]) (by rw [E.out.2.1]) (by rw [E.out.2.2]), bl_set (bl_set (H3.out) _ _ _ (by omega)) _ _ _ (by omega)⟩

set_option maxHeartbeats 400000 in
theorem specVDot0 (x y u v : Int) (w : World) (x1 : -1000000 ≤ x) (x2 : x ≤ 1000000) (y1 : -1000000 ≤ y) (y2 : y ≤ 1000000) (u1 : -1000000 ≤ u) (u2 : u ≤ 1000000) (v1 : -1000000 ≤ v) (v2 : v ≤ 1000000) : Calls Try.prog 44 #[vec x y, vec u v] w fun e w' => e = .returned (.int .i64 (mu x u + mu y v)) ∧ Below w.heap.size w w' := by
  have m1 := mu_bd x1 x2 (b := u) (by omega) (by omega)
  have m2 := mu_bd y1 y2 (b := v) (by omega) (by omega)
  unfold mu at m1 m2
  have e1 : IntKind.i64.wrap ((x * u).tdiv 1000 + (y * v).tdiv 1000) = (x * u).tdiv 1000 + (y * v).tdiv 1000 := IntWalk.i64_in _ (by omega)
  have E1 := Lib.hid e1
  clear e1
  go_enter Try.func44, Try.ntmps44
  go_wp2_with fail
  have e1 := E1.out
  go_quiet ((go_at_call 48; exact quietL (specMul0 _ _ _ (by omega) (by omega) (by omega) (by omega))))
  clear e1
  go_wp2
  go_ret
  exact ⟨ret_int rfl, bl_drew (bl_alloc (bl_alloc (bl_refl w) _) _) _⟩

set_option maxHeartbeats 400000 in
theorem specVDot (x y u v : Int) (w : World) : Calls Try.prog 29 #[vec x y, vec u v] w fun e w' => e = .returned (.tuple #[.int .i64 (vdI x y u v), .bool (vdB x y u v)]) ∧ Below w.heap.size w w' := by
  cases h : vokB x y
  · have E := Lib.hid (vd_no1 (u := u) (v := v) h)
    go_enter Try.func29, Try.ntmps29
    go_wp2_with fail
    refine (specVecOk _ _ _).mono ?_
    rintro e w1 ⟨rfl, B1⟩
    have C1 := B1
    clear B1
    obtain ⟨hc1, hf1⟩ := bcell C1
    have H1 := Lib.hid (bl_trans (bl_alloc (bl_alloc (bl_refl w) _) _) C1)
    go_wp2
    go_ret2
    exact ⟨ret_ib (by rw [E.out.1]) (by rw [E.out.2]), H1.out⟩
  cases g : vokB u v
  · have E := Lib.hid (vd_no2 (x := x) (y := y) g)
    go_enter Try.func29, Try.ntmps29
    go_wp2_with fail
    refine (specVecOk _ _ _).mono ?_
    rintro e w1 ⟨rfl, B1⟩
    have C1 := B1
    clear B1
    obtain ⟨hc1, hf1⟩ := bcell C1
    have H1 := Lib.hid (bl_trans (bl_alloc (bl_alloc (bl_refl w) _) _) C1)
    go_wp2_with fail
    refine (specVecOk _ _ _).mono ?_
    rintro e w2 ⟨rfl, B2⟩
    have C2 := bl_trans C1 B2
    clear hc1 hf1 C1 B2
    obtain ⟨hc2, hf2⟩ := bcell C2
    have H2 := Lib.hid (bl_trans (bl_alloc (bl_alloc (bl_refl w) _) _) C2)
    go_wp2
    go_ret2
    exact ⟨ret_ib (by rw [E.out.1]) (by rw [E.out.2]), H2.out⟩
  · have E := Lib.hid (vd_yes h g)
    obtain ⟨⟨x1, x2⟩, y1, y2⟩ := (vok_iff x y).1 h
    obtain ⟨⟨u1, u2⟩, v1, v2⟩ := (vok_iff u v).1 g
    go_enter Try.func29, Try.ntmps29
    go_wp2_with fail
    refine (specVecOk _ _ _).mono ?_
    rintro e w1 ⟨rfl, B1⟩
    have C1 := B1
    clear B1
    obtain ⟨hc1, hf1⟩ := bcell C1
    have H1 := Lib.hid (bl_trans (bl_alloc (bl_alloc (bl_refl w) _) _) C1)
    go_wp2_with fail
    refine (specVecOk _ _ _).mono ?_
    rintro e w2 ⟨rfl, B2⟩
    have C2 := bl_trans C1 B2
    clear hc1 hf1 C1 B2
    obtain ⟨hc2, hf2⟩ := bcell C2
    have H2 := Lib.hid (bl_trans (bl_alloc (bl_alloc (bl_refl w) _) _) C2)
    go_wp2_with fail
    refine (specVDot0 _ _ _ _ _ x1 x2 y1 y2 u1 u2 v1 v2).mono ?_
    rintro e w3 ⟨rfl, B3⟩
    have C3 := bl_trans C2 B3
    clear hc2 hf2 C2 B3
    obtain ⟨hc3, hf3⟩ := bcell C3
    have H3 := Lib.hid (bl_trans (bl_alloc (bl_alloc (bl_refl w) _) _) C3)
    go_wp2
    go_ret2
    exact ⟨ret_ib (by rw [E.out.1]) (by rw [E.out.2]), H3.out⟩

set_option maxHeartbeats 400000 in
theorem specVLen0 (x y : Int) (w : World) (x1 : -1000000 ≤ x) (x2 : x ≤ 1000000) (y1 : -1000000 ≤ y) (y2 : y ≤ 1000000) : Calls Try.prog 37 #[vec x y] w fun e w' => e = .returned (.int .i64 (vl x y)) ∧ Below w.heap.size w w' := by
  have a := square_bd x1 x2
  have b := square_bd y1 y2
  go_enter Try.func37, Try.ntmps37
  go_wp2_with fail
  refine (specRoot _ _ (by omega) (by omega)).mono ?_
  rintro e w' ⟨rfl, rfl⟩
  go_wp2
  go_ret
  exact ⟨ret_int rfl, bl_alloc (bl_refl w) _⟩

theorem specVLen0' (x y L : Int) (w : World) (hL : vl x y = L) (x1 : -1000000 ≤ x) (x2 : x ≤ 1000000) (y1 : -1000000 ≤ y) (y2 : y ≤ 1000000) : Calls Try.prog 37 #[vec x y] w fun e w' => e = .returned (.int .i64 L) ∧ Below w.heap.size w w' := by
  subst hL
  exact specVLen0 x y w x1 x2 y1 y2

theorem specVLen (x y : Int) (w : World) : Calls Try.prog 22 #[vec x y] w fun e w' => e = .returned (.tuple #[.int .i64 (vlI x y), .bool (vokB x y)]) ∧ Below w.heap.size w w' := by
  cases h : vokB x y
  · have E := Lib.hid (vl_no h)
    go_enter Try.func22, Try.ntmps22
    go_wp2_with fail
    refine (specVecOk _ _ _).mono ?_
    rintro e w1 ⟨rfl, B1⟩
    have C1 := B1
    clear B1
    obtain ⟨hc1, hf1⟩ := bcell C1
    have H1 := Lib.hid (bl_trans (bl_alloc (bl_refl w) _) C1)
    go_wp2
    go_ret2
    exact ⟨ret_ib (by rw [E.out]) rfl, H1.out⟩
  · have E := Lib.hid (vl_yes h)
    obtain ⟨⟨x1, x2⟩, y1, y2⟩ := (vok_iff x y).1 h
    go_enter Try.func22, Try.ntmps22
    go_wp2_with fail
    refine (specVecOk _ _ _).mono ?_
    rintro e w1 ⟨rfl, B1⟩
    have C1 := B1
    clear B1
    obtain ⟨hc1, hf1⟩ := bcell C1
    have H1 := Lib.hid (bl_trans (bl_alloc (bl_refl w) _) C1)
    go_wp2_with fail
    refine (specVLen0 _ _ _ x1 x2 y1 y2).mono ?_
    rintro e w2 ⟨rfl, B2⟩
    have C2 := bl_trans C1 B2
    clear hc1 hf1 C1 B2
    obtain ⟨hc2, hf2⟩ := bcell C2
    have H2 := Lib.hid (bl_trans (bl_alloc (bl_refl w) _) C2)
    go_wp2
    go_ret2
    exact ⟨ret_ib (by rw [E.out]) rfl, H2.out⟩

end Go.Proofs.Ytmnojoddapdaoab
