/-
  What the program's own functions of chapter 3 return, at every argument: the contracts.
-/
import Derived.Test.YtkkifikdnjajjaaBoxImplB
import Derived.Deep.DeepCutAuto
import Derived.Laws.StructEq
import Derived.BigQuiet
import Derived.Deep.QuietTactic
namespace Go.Proofs.Ytkkifikdnjajjaa
open Go.RowKit
open M

theorem BCell.yS {W w' : World} {ty : TypeId} (B : Below (W.alloc (.cells #[.int .i64 0, .int .i64 0, .int .i64 0, .int .i64 0] ty)).heap.size (W.alloc (.cells #[.int .i64 0, .int .i64 0, .int .i64 0, .int .i64 0] ty)) w') : BCell w' W.heap.size 0 0 0 0 := (BCell.new W W.heap.size 0 0 0 0 ty rfl).step B
theorem BCell.yD {W w' : World} {ty : TypeId} (B : Below (W.alloc (.cells #[.int .i64 0, .int .i64 0, .int .i64 0, .int .i64 0] ty)).drew.heap.size (W.alloc (.cells #[.int .i64 0, .int .i64 0, .int .i64 0, .int .i64 0] ty)).drew w') : BCell w' W.heap.size 0 0 0 0 := (BCell.new W W.heap.size 0 0 0 0 ty rfl).drew.step B
theorem bv_or {a b c d : Int} (h : vokB a b = true) (g : vokB c d = true) : bvB a b c d = orB a b c d := by simp [bvB, orB, h, g]
theorem near_of {a c x : Int} (h : a ≤ c) : min (max x a) c = max a (min x c) := by omega
theorem bv_meet {a b c d p q r s : Int} (h : bvB a b c d = true) (g : bvB p q r s = true) : bvB (max a p) (max b q) (min c r) (min d s) = orB (max a p) (max b q) (min c r) (min d s) := by
  have h1 := (bv_iff a b c d).1 h
  have g1 := (bv_iff p q r s).1 g
  exact bv_or ((vok_iff _ _).2 (by omega)) ((vok_iff _ _).2 (by omega))
theorem bh_near {a b c d x y : Int} (h : bvB a b c d = true) (g : vokB x y = true) (e1 : max a (min x c) = x) (e2 : max b (min y d) = y) : bhB a b c d x y = true := by
  rw [bh_yes h g]
  have h1 := (bv_iff a b c d).1 h
  unfold h0B
  rw [inB_yes (by omega), inB_yes (by omega)]
  rfl
theorem bh_far1 {a b c d x y : Int} (h : bvB a b c d = true) (g : vokB x y = true) (e1 : ¬ max a (min x c) = x) : bhB a b c d x y = false := by
  rw [bh_yes h g]
  have h1 := (bv_iff a b c d).1 h
  unfold h0B
  rw [inB_no (by omega)]
  rfl
theorem bh_far2 {a b c d x y : Int} (h : bvB a b c d = true) (g : vokB x y = true) (e2 : ¬ max b (min y d) = y) : bhB a b c d x y = false := by
  rw [bh_yes h g]
  have h1 := (bv_iff a b c d).1 h
  unfold h0B
  rw [inB_no (n := y) (by omega), Bool.and_false]

set_option maxHeartbeats 400000 in
theorem implBValid (a b c d : Int) (w : World) : Calls Try.prog 13 #[box a b c d] w fun e w' => e = .returned (.bool (bvB a b c d)) ∧ Below w.heap.size w w' := by
  cases h : vokB a b
  · have E := Lib.hid (bv_no1 (c := c) (d := d) h)
    go_enter Try.func13, Try.ntmps13
    go_wp2_with fail
    refine (implVecOk _ _ _).mono ?_
    rintro e w1 ⟨rfl, B1⟩
    have C1 := B1
    clear B1
    obtain ⟨hc1, hf1⟩ := bcell C1
    have H1 := Lib.hid (bl_trans (bl_alloc (bl_refl w) _) C1)
    go_wp2
    go_ret
    exact ⟨ret_b (by rw [E.out]), H1.out⟩
  cases g : vokB c d
  · have E := Lib.hid (bv_no2 (a := a) (b := b) g)
    go_enter Try.func13, Try.ntmps13
    go_wp2_with fail
    refine (implVecOk _ _ _).mono ?_
    rintro e w1 ⟨rfl, B1⟩
    have C1 := B1
    clear B1
    obtain ⟨hc1, hf1⟩ := bcell C1
    have H1 := Lib.hid (bl_trans (bl_alloc (bl_refl w) _) C1)
    go_wp2_with fail
    refine (implVecOk _ _ _).mono ?_
    rintro e w2 ⟨rfl, B2⟩
    have C2 := bl_trans C1 B2
    clear hc1 hf1 C1 B2
    obtain ⟨hc2, hf2⟩ := bcell C2
    have H2 := Lib.hid (bl_trans (bl_alloc (bl_refl w) _) C2)
    go_wp2
    go_ret
    exact ⟨ret_b (by rw [E.out]), H2.out⟩
  · have E := Lib.hid (bv_or h g)
    go_enter Try.func13, Try.ntmps13
    go_wp2_with fail
    refine (implVecOk _ _ _).mono ?_
    rintro e w1 ⟨rfl, B1⟩
    have C1 := B1
    clear B1
    obtain ⟨hc1, hf1⟩ := bcell C1
    have H1 := Lib.hid (bl_trans (bl_alloc (bl_refl w) _) C1)
    go_wp2_with fail
    refine (implVecOk _ _ _).mono ?_
    rintro e w2 ⟨rfl, B2⟩
    have C2 := bl_trans C1 B2
    clear hc1 hf1 C1 B2
    obtain ⟨hc2, hf2⟩ := bcell C2
    have H2 := Lib.hid (bl_trans (bl_alloc (bl_refl w) _) C2)
    go_wp2_with fail
    refine (implCorners _ _ _ _ _).mono ?_
    rintro e w3 ⟨rfl, B3⟩
    have C3 := bl_trans C2 B3
    clear hc2 hf2 C2 B3
    obtain ⟨hc3, hf3⟩ := bcell C3
    have H3 := Lib.hid (bl_trans (bl_alloc (bl_refl w) _) C3)
    go_wp2_with fail
    refine (implOrdered _ _ _ _ _).mono ?_
    rintro e w4 ⟨rfl, B4⟩
    have C4 := bl_trans C3 B4
    clear hc3 hf3 C3 B4
    obtain ⟨hc4, hf4⟩ := bcell C4
    have H4 := Lib.hid (bl_trans (bl_alloc (bl_refl w) _) C4)
    go_wp2
    go_ret
    exact ⟨ret_b (by rw [E.out]), H4.out⟩

set_option maxHeartbeats 2000000 in
theorem implBNear (a b c d x y : Int) (w : World) : Calls Try.prog 23 #[box a b c d, vec x y] w fun e w' => e = .returned (.tuple #[vec (nrX a b c d x y) (nrY a b c d x y), .bool (nrB a b c d x y)]) ∧ Below w.heap.size w w' := by
  cases h : bvB a b c d
  · have e0 : nrB a b c d x y = false := by simp [nrB, h]
    have E0 := Lib.hid e0
    have E := Lib.hid (nr_no e0)
    clear e0
    go_enter Try.func23, Try.ntmps23
    go_wp2_with fail
    refine (implBValid _ _ _ _ _).mono ?_
    rintro e w1 ⟨rfl, B1⟩
    have C1 := B1
    clear B1
    obtain ⟨hc1, hf1⟩ := bcell C1
    have H1 := Lib.hid (bl_trans (bl_alloc (bl_alloc (bl_alloc (bl_refl w) _) _) _) C1)
    go_wp2
    exact bodyPost_ret (v := .tuple #[vec 0 0, .bool false]) (by simp [results, Try.results23, go_sem, hc1]) rfl ⟨ret_vb (by rw [E.out.1]) (by rw [E.out.2]) (by rw [E0.out]), bl_set (bl_set (H1.out) _ _ _ (by omega)) _ _ _ (by omega)⟩
  cases g : vokB x y
  · have e0 : nrB a b c d x y = false := by simp [nrB, g]
    have E0 := Lib.hid e0
    have E := Lib.hid (nr_no e0)
    clear e0
    go_enter Try.func23, Try.ntmps23
    go_wp2_with fail
    refine (implBValid _ _ _ _ _).mono ?_
    rintro e w1 ⟨rfl, B1⟩
    have C1 := B1
    clear B1
    obtain ⟨hc1, hf1⟩ := bcell C1
    have H1 := Lib.hid (bl_trans (bl_alloc (bl_alloc (bl_alloc (bl_refl w) _) _) _) C1)
    go_wp2_with fail
    refine (implVecOk _ _ _).mono ?_
    rintro e w2 ⟨rfl, B2⟩
    have C2 := bl_trans C1 B2
    clear hc1 hf1 C1 B2
    obtain ⟨hc2, hf2⟩ := bcell C2
    have H2 := Lib.hid (bl_trans (bl_alloc (bl_alloc (bl_alloc (bl_refl w) _) _) _) C2)
    go_wp2
    exact bodyPost_ret (v := .tuple #[vec 0 0, .bool false]) (by simp [results, Try.results23, go_sem, hc2]) rfl ⟨ret_vb (by rw [E.out.1]) (by rw [E.out.2]) (by rw [E0.out]), bl_set (bl_set (H2.out) _ _ _ (by omega)) _ _ _ (by omega)⟩
  · have e0 : nrB a b c d x y = true := by simp [nrB, h, g]
    have e1 := nr_yes e0
    obtain ⟨_, _, ac, bd⟩ := (bv_iff a b c d).1 h
    rw [← near_of (x := x) ac, ← near_of (x := y) bd] at e1
    have E0 := Lib.hid e0
    have E := Lib.hid e1
    clear e0 e1 ac bd
    go_enter Try.func23, Try.ntmps23
    go_wp2_with fail
    refine (implBValid _ _ _ _ _).mono ?_
    rintro e w1 ⟨rfl, B1⟩
    have O0 : BCell w1 w.heap.size a b c d := (((BCell.new w w.heap.size a b c d _ rfl).alloc _).alloc _).step B1
    have O1 : PCell w1 (w.heap.size + 1) x y := ((PCell.new _ (w.heap.size + 1) x y _ (by simp)).alloc _).step B1
    have D : PCell w1 (w.heap.size + 1 + 1) 0 0 := (PCell.new _ (w.heap.size + 1 + 1) 0 0 _ (by simp)).step B1
    have Hb := Lib.hid (bl_trans (bl_alloc (bl_alloc (bl_alloc (bl_refl w) _) _) _) B1)
    clear B1
    have c1 := O1.c0
    have c2 := O1.c1
    go_wp2_with fail
    refine (implVecOk _ _ _).mono ?_
    rintro e w2 ⟨rfl, B2⟩
    have P0 := O0.step B2
    have P1 := O1.step B2
    have D2 := D.step B2
    have Hc := Lib.hid (bl_trans Hb.out B2)
    clear B2 O0 O1 D Hb c1 c2
    have O0 := P0
    have O1 := P1
    have D := D2
    have Hb := Hc
    clear P0 P1 D2 Hc
    go_wp2_with fail
    go_region_held3 (fun w' => (w'.cell? ⟨w.heap.size, 0, none⟩ = some (.int .i64 a) ∧ w'.cell? ⟨w.heap.size, 1, none⟩ = some (.int .i64 b) ∧ w'.cell? ⟨w.heap.size, 2, none⟩ = some (.int .i64 c) ∧ w'.cell? ⟨w.heap.size, 3, none⟩ = some (.int .i64 d)) ∧ (w'.cell? ⟨w.heap.size + 1, 0, none⟩ = some (.int .i64 x) ∧ w'.cell? ⟨w.heap.size + 1, 1, none⟩ = some (.int .i64 y)))
      (exact ⟨bc_four (by repeat (first | with_reducible exact O0 | with_reducible refine BCell.far ?_ (by omega) _ _ | with_reducible refine BCell.alloc ?_ _ | with_reducible refine BCell.drew ?_)), pc_two (by repeat (first | with_reducible exact O1 | with_reducible refine PCell.far ?_ (by omega) _ _ | with_reducible refine PCell.alloc ?_ _ | with_reducible refine PCell.drew ?_))⟩)
      (first | (go_at_call 32; (with_reducible refine (implCorners _ _ _ _ _).mono ?_); rintro e wn ⟨rfl, Bn⟩; have O0 := BCell.step (by first | with_reducible exact O0 | with_reducible exact O0.drew) Bn; have O1 := PCell.step (by first | with_reducible exact O1 | with_reducible exact O1.drew) Bn; have D := PCell.step (by first | with_reducible exact D | with_reducible exact D.drew) Bn; have Hb := Lib.hid (bl_trans (by first | with_reducible exact Hb.out | with_reducible exact bl_drew1 Hb.out) Bn); clear Bn; have dc0 := D.c0; have dc1 := D.c1; have df0 := D.f0; have df1 := D.f1; have dl := D.lt) | (go_at_call 40; (with_reducible refine (implNear0 _ _ _ _ _ _ _).mono ?_); rintro e wn ⟨rfl, Bn⟩; have O0 := BCell.step (by first | with_reducible exact O0 | with_reducible exact O0.drew) Bn; have O1 := PCell.step (by first | with_reducible exact O1 | with_reducible exact O1.drew) Bn; have D := PCell.step (by first | with_reducible exact D | with_reducible exact D.drew) Bn; have Hb := Lib.hid (bl_trans (by first | with_reducible exact Hb.out | with_reducible exact bl_drew1 Hb.out) Bn); clear Bn; have dc0 := D.c0; have dc1 := D.c1; have df0 := D.f0; have df1 := D.f1; have dl := D.lt))
    all_goals
      go_wp2
      exact bodyPost_ret (v := .tuple #[vec (min (max x a) c) (min (max y b) d), .bool true]) (by simp [results, Try.results23, go_sem, D.c0, D.c1]) rfl ⟨ret_vb (by rw [E.out.1]) (by rw [E.out.2]) (by rw [E0.out]), by repeat (first | with_reducible exact Hb.out | with_reducible refine bl_set ?_ _ _ _ (by omega) | with_reducible refine bl_alloc ?_ _ | with_reducible refine bl_drew1 ?_)⟩

theorem eq_vec (X Y x y : Int) (w : World) : (binOp .eql 24 (.agg #[.int .i64 X, .int .i64 Y]) (.agg #[.int .i64 x, .int .i64 y])).run Try.prog w = .ok (.bool ((X == x) && (Y == y))) w := by
  have u3 := Try.underlying3
  have a3 := Try.isAgg3
  have z3 := Try.sizeOf3
  have hS : Try.prog.underlying 24 = some (.struct (Try.prog.fieldsOf 24)) := by kernel_rfl
  have hp : Try.prog.stoodInHeld 24 = false := by kernel_rfl
  rw [run_eql_struct, show (10000 : Nat) = 9999 + 1 from rfl, run_equalIn_agg w 9999 24 _ _ hS hp]
  simp only [Program.fieldsOf, Try.underlying24]
  go_simp
  by_cases h1 : X = x <;> by_cases h2 : Y = y <;> simp [h1, h2]
theorem vec_guard : Try.prog.eqGuardType Try.prog.depth 24 = false := by kernel_rfl

set_option maxHeartbeats 1000000 in
theorem implBHas (a b c d x y : Int) (w : World) : Calls Try.prog 15 #[box a b c d, vec x y] w fun e w' => e = .returned (.bool (bhB a b c d x y)) ∧ Below w.heap.size w w' := by
  cases n0 : nrB a b c d x y
  · obtain ⟨n1, n2⟩ := nr_no n0
    have e : bhB a b c d x y = false := by
      cases h : bvB a b c d
      · exact bh_no1 h
      · cases g : vokB x y
        · exact bh_no2 g
        · simp [nrB, h, g] at n0
    have E := Lib.hid e
    have Q := Lib.hid (show ∀ W : World, Calls Try.prog 23 #[box a b c d, vec x y] W (fun e w' => e = .returned (.tuple #[vec 0 0, .bool false]) ∧ Below W.heap.size W w') from fun W => by have t := implBNear a b c d x y W; rw [n1, n2, n0] at t; exact t)
    clear n0 n1 n2 e
    have hev := fun X Y W => eq_vec X Y x y W
    have hgd := vec_guard
    go_enter Try.func15, Try.ntmps15
    go_wp2_with fail
    refine (Q.out _).mono ?_
    rintro e w1 ⟨rfl, B1⟩
    have C1 := B1
    clear B1
    obtain ⟨hc1, hf1⟩ := bcell C1
    have H1 := Lib.hid (bl_trans (bl_alloc (bl_alloc (bl_refl w) _) _) C1)
    have l1 : w.heap.size + 1 < w1.heap.size := by have := C1.size; simp at this; omega
    clear Q
    go_wp2
    go_ret
    exact ⟨ret_b (by rw [E.out]), by repeat (first | with_reducible exact H1.out | with_reducible refine bl_alloc ?_ _)⟩
  obtain ⟨n1, n2⟩ := nr_yes n0
  have hg : bvB a b c d = true ∧ vokB x y = true := by simpa [nrB] using n0
  obtain ⟨h, g⟩ := hg
  by_cases e1 : max a (min x c) = x
  · by_cases e2 : max b (min y d) = y
    · have E := Lib.hid (bh_near h g e1 e2)
      rw [e1] at n1
      rw [e2] at n2
      have Q := Lib.hid (show ∀ W : World, Calls Try.prog 23 #[box a b c d, vec x y] W (fun e w' => e = .returned (.tuple #[vec x y, .bool true]) ∧ Below W.heap.size W w') from fun W => by have t := implBNear a b c d x y W; rw [n1, n2, n0] at t; exact t)
      clear n0 n1 n2 e1 e2 h g
      have hev := fun X Y W => eq_vec X Y x y W
      have hgd := vec_guard
      go_enter Try.func15, Try.ntmps15
      go_wp2_with fail
      refine (Q.out _).mono ?_
      rintro e w1 ⟨rfl, B1⟩
      have C1 := B1
      clear B1
      obtain ⟨hc1, hf1⟩ := bcell C1
      have H1 := Lib.hid (bl_trans (bl_alloc (bl_alloc (bl_refl w) _) _) C1)
      have l1 : w.heap.size + 1 < w1.heap.size := by have := C1.size; simp at this; omega
      clear Q
      go_wp2
      go_ret
      exact ⟨ret_b (by rw [E.out]), by repeat (first | with_reducible exact H1.out | with_reducible refine bl_alloc ?_ _)⟩
    · have E := Lib.hid (bh_far2 h g e2)
      rw [e1] at n1
      obtain ⟨Y, eY⟩ : ∃ Y, max b (min y d) = Y := ⟨_, rfl⟩
      rw [eY] at n2 e2
      have e2 : ¬ Y = y := e2
      have Q := Lib.hid (show ∀ W : World, Calls Try.prog 23 #[box a b c d, vec x y] W (fun e w' => e = .returned (.tuple #[vec x Y, .bool true]) ∧ Below W.heap.size W w') from fun W => by have t := implBNear a b c d x y W; rw [n1, n2, n0] at t; exact t)
      clear n0 n1 n2 e1 eY h g
      have hev := fun X Y W => eq_vec X Y x y W
      have hgd := vec_guard
      go_enter Try.func15, Try.ntmps15
      go_wp2_with fail
      refine (Q.out _).mono ?_
      rintro e w1 ⟨rfl, B1⟩
      have C1 := B1
      clear B1
      obtain ⟨hc1, hf1⟩ := bcell C1
      have H1 := Lib.hid (bl_trans (bl_alloc (bl_alloc (bl_refl w) _) _) C1)
      have l1 : w.heap.size + 1 < w1.heap.size := by have := C1.size; simp at this; omega
      clear Q
      go_wp2
      go_ret
      exact ⟨ret_b (by rw [E.out]; simp [e2]), by repeat (first | with_reducible exact H1.out | with_reducible refine bl_alloc ?_ _)⟩
  · have E := Lib.hid (bh_far1 h g e1)
    obtain ⟨X, eX⟩ : ∃ X, max a (min x c) = X := ⟨_, rfl⟩
    obtain ⟨Y, eY⟩ : ∃ Y, max b (min y d) = Y := ⟨_, rfl⟩
    rw [eX] at n1 e1
    rw [eY] at n2
    have Q := Lib.hid (show ∀ W : World, Calls Try.prog 23 #[box a b c d, vec x y] W (fun e w' => e = .returned (.tuple #[vec X Y, .bool true]) ∧ Below W.heap.size W w') from fun W => by have t := implBNear a b c d x y W; rw [n1, n2, n0] at t; exact t)
    clear n0 n1 n2 eX eY h g
    have hev := fun X Y W => eq_vec X Y x y W
    have hgd := vec_guard
    go_enter Try.func15, Try.ntmps15
    go_wp2_with fail
    refine (Q.out _).mono ?_
    rintro e w1 ⟨rfl, B1⟩
    have C1 := B1
    clear B1
    obtain ⟨hc1, hf1⟩ := bcell C1
    have H1 := Lib.hid (bl_trans (bl_alloc (bl_alloc (bl_refl w) _) _) C1)
    have l1 : w.heap.size + 1 < w1.heap.size := by have := C1.size; simp at this; omega
    clear Q
    go_wp2
    go_ret
    exact ⟨ret_b (by rw [E.out]; simp [e1]), by repeat (first | with_reducible exact H1.out | with_reducible refine bl_alloc ?_ _)⟩

set_option maxHeartbeats 2000000 in
theorem implBTouch (a b c d x y r : Int) (w : World) : Calls Try.prog 27 #[box a b c d, vec x y, .int .i64 r] w fun e w' => e = .returned (.bool (tcB a b c d x y r)) ∧ Below w.heap.size w w' := by
  cases n0 : nrB a b c d x y
  · obtain ⟨n1, n2⟩ := nr_no n0
    have e : tcB a b c d x y r = false := by
      cases h : bvB a b c d
      · exact tc_no1 h
      · cases g : vokB x y
        · exact tc_no2 g
        · simp [nrB, h, g] at n0
    have E := Lib.hid e
    have Q := Lib.hid (show ∀ W : World, Calls Try.prog 23 #[box a b c d, vec x y] W (fun e w' => e = .returned (.tuple #[vec 0 0, .bool false]) ∧ Below W.heap.size W w') from fun W => by have t := implBNear a b c d x y W; rw [n1, n2, n0] at t; exact t)
    clear n0 n1 n2 e
    go_enter Try.func27, Try.ntmps27
    go_wp2_with fail
    refine (Q.out _).mono ?_
    rintro e w1 ⟨rfl, B1⟩
    have C1 := B1
    clear B1
    obtain ⟨hc1, hf1⟩ := bcell C1
    have H1 := Lib.hid (bl_trans (bl_alloc (bl_alloc (bl_refl w) _) _) C1)
    have l1 : w.heap.size + 1 < w1.heap.size := by have := C1.size; simp at this; omega
    clear Q
    go_wp2
    go_ret
    exact ⟨ret_b (by rw [E.out]), by repeat (first | with_reducible exact H1.out | with_reducible refine bl_alloc ?_ _ | with_reducible refine bl_drew ?_ _)⟩
  obtain ⟨n1, n2⟩ := nr_yes n0
  have hg : bvB a b c d = true ∧ vokB x y = true := by simpa [nrB] using n0
  obtain ⟨h, g⟩ := hg
  by_cases r0 : r < 0
  · have E := Lib.hid (tc_no3 (a := a) (b := b) (c := c) (d := d) (x := x) (y := y) (in_neg r0))
    obtain ⟨X, eX⟩ : ∃ X, max a (min x c) = X := ⟨_, rfl⟩
    obtain ⟨Y, eY⟩ : ∃ Y, max b (min y d) = Y := ⟨_, rfl⟩
    rw [eX] at n1
    rw [eY] at n2
    have Q := Lib.hid (show ∀ W : World, Calls Try.prog 23 #[box a b c d, vec x y] W (fun e w' => e = .returned (.tuple #[vec X Y, .bool true]) ∧ Below W.heap.size W w') from fun W => by have t := implBNear a b c d x y W; rw [n1, n2, n0] at t; exact t)
    clear n0 n1 n2 eX eY h g
    go_enter Try.func27, Try.ntmps27
    go_wp2_with fail
    refine (Q.out _).mono ?_
    rintro e w1 ⟨rfl, B1⟩
    have C1 := B1
    clear B1
    obtain ⟨hc1, hf1⟩ := bcell C1
    have H1 := Lib.hid (bl_trans (bl_alloc (bl_alloc (bl_refl w) _) _) C1)
    have l1 : w.heap.size + 1 < w1.heap.size := by have := C1.size; simp at this; omega
    clear Q
    go_wp2
    go_ret
    exact ⟨ret_b (by rw [E.out]), by repeat (first | with_reducible exact H1.out | with_reducible refine bl_alloc ?_ _ | with_reducible refine bl_drew ?_ _)⟩
  have r0 : 0 ≤ r := by omega
  cases q : inB r (-1000000) 1000000
  · have E := Lib.hid (tc_no3 (a := a) (b := b) (c := c) (d := d) (x := x) (y := y) (in_big r0 q))
    obtain ⟨X, eX⟩ : ∃ X, max a (min x c) = X := ⟨_, rfl⟩
    obtain ⟨Y, eY⟩ : ∃ Y, max b (min y d) = Y := ⟨_, rfl⟩
    rw [eX] at n1
    rw [eY] at n2
    have Q := Lib.hid (show ∀ W : World, Calls Try.prog 23 #[box a b c d, vec x y] W (fun e w' => e = .returned (.tuple #[vec X Y, .bool true]) ∧ Below W.heap.size W w') from fun W => by have t := implBNear a b c d x y W; rw [n1, n2, n0] at t; exact t)
    have q := Lib.hid q
    clear n0 n1 n2 eX eY h g
    go_enter Try.func27, Try.ntmps27
    go_wp2_with fail
    refine (Q.out _).mono ?_
    rintro e w1 ⟨rfl, B1⟩
    have C1 := B1
    clear B1
    obtain ⟨hc1, hf1⟩ := bcell C1
    have H1 := Lib.hid (bl_trans (bl_alloc (bl_alloc (bl_refl w) _) _) C1)
    have l1 : w.heap.size + 1 < w1.heap.size := by have := C1.size; simp at this; omega
    clear Q
    go_wp2_with fail
    refine (implCoord' r false _ q.out).mono ?_
    rintro e w' ⟨rfl, rfl⟩
    go_wp2
    go_ret
    exact ⟨ret_b (by rw [E.out]), by repeat (first | with_reducible exact H1.out | with_reducible refine bl_alloc ?_ _ | with_reducible refine bl_drew ?_ _)⟩
  · obtain ⟨qm, r1⟩ := in_mk r0 q
    obtain ⟨⟨⟨a1, a2⟩, b1, b2⟩, ⟨⟨c1, c2⟩, d1, d2⟩, ac, bd⟩ := (bv_iff a b c d).1 h
    obtain ⟨⟨x1, x2⟩, y1, y2⟩ := (vok_iff x y).1 g
    have g1 := gap_bd a1 c2 ac x1 x2
    have g2 := gap_bd b1 d2 bd y1 y2
    have n3 : -1000000 ≤ max a (min x c) ∧ max a (min x c) ≤ 1000000 := by omega
    have n4 : -1000000 ≤ max b (min y d) ∧ max b (min y d) ≤ 1000000 := by omega
    have E := Lib.hid ((tc_yes h g qm).trans (show t0B a b c d x y r = decide ((x - max a (min x c)) * (x - max a (min x c)) + (y - max b (min y d)) * (y - max b (min y d)) ≤ r * r) from rfl))
    obtain ⟨X, eX⟩ : ∃ X, max a (min x c) = X := ⟨_, rfl⟩
    obtain ⟨Y, eY⟩ : ∃ Y, max b (min y d) = Y := ⟨_, rfl⟩
    rw [eX] at n1 n3 g1 E
    rw [eY] at n2 n4 g2 E
    have Q := Lib.hid (show ∀ W : World, Calls Try.prog 23 #[box a b c d, vec x y] W (fun e w' => e = .returned (.tuple #[vec X Y, .bool true]) ∧ Below W.heap.size W w') from fun W => by have t := implBNear a b c d x y W; rw [n1, n2, n0] at t; exact t)
    have q := Lib.hid q
    clear n0 n1 n2 eX eY h g qm ac bd
    have m1 := mul_bd (a := x - X) (b := x - X) (by omega) (by omega) (by omega) (by omega)
    have m2 := mul_bd (a := y - Y) (b := y - Y) (by omega) (by omega) (by omega) (by omega)
    have m3 := mul_bd (a := r) (b := r) (by omega) (by omega) (by omega) (by omega)
    have v1 : IntKind.i64.wrap (x - X) = x - X := IntWalk.i64_in _ (by omega)
    have v2 : IntKind.i64.wrap (y - Y) = y - Y := IntWalk.i64_in _ (by omega)
    go_enter Try.func27, Try.ntmps27
    go_wp2_with fail
    refine (Q.out _).mono ?_
    rintro e w1 ⟨rfl, B1⟩
    have C1 := B1
    clear B1
    obtain ⟨hc1, hf1⟩ := bcell C1
    have H1 := Lib.hid (bl_trans (bl_alloc (bl_alloc (bl_refl w) _) _) C1)
    have l1 : w.heap.size + 1 < w1.heap.size := by have := C1.size; simp at this; omega
    clear Q
    go_wp2_with fail
    refine (implCoord' r true _ q.out).mono ?_
    rintro e w' ⟨rfl, rfl⟩
    go_wp2_with fail
    go_quiet (fail)
    go_wp2
    go_ret
    exact ⟨ret_b (by rw [E.out]), by repeat (first | with_reducible exact H1.out | with_reducible refine bl_alloc ?_ _ | with_reducible refine bl_drew ?_ _)⟩

/-- Where the common corners lie in a variable of their own. -/
def CommonAt (w : World) (a b c d : Int) (v : Value) (W : World) : Prop :=
  ∃ o : Nat, w.heap.size + 1 + 1 < o ∧ v = .pointer (some ⟨o, 0, none⟩) ∧ BCell W o a b c d ∧ BCell W (w.heap.size + 1 + 1) 0 0 0 0 ∧ Below w.heap.size w W

set_option maxHeartbeats 4000000 in
theorem implBMeet (a b c d p q r s : Int) (w : World) : Calls Try.prog 20 #[box a b c d, box p q r s] w fun e w' => e = .returned (.tuple #[box (mtA a b c d p q r s) (mtE a b c d p q r s) (mtC a b c d p q r s) (mtD a b c d p q r s), .bool (mtB a b c d p q r s)]) ∧ Below w.heap.size w w' := by
  cases h : bvB a b c d
  · have e0 : mtB a b c d p q r s = false := by simp [mtB, h]
    have E0 := Lib.hid e0
    have E := Lib.hid (mt_no e0)
    clear e0
    go_enter Try.func20, Try.ntmps20
    go_wp2_with fail
    refine (implBValid _ _ _ _ _).mono ?_
    rintro e w1 ⟨rfl, B1⟩
    have C1 := B1
    clear B1
    obtain ⟨hc1, hf1⟩ := bcell C1
    have H1 := Lib.hid (bl_trans (bl_alloc (bl_alloc (bl_alloc (bl_refl w) _) _) _) C1)
    go_wp2
    exact bodyPost_ret (v := .tuple #[box 0 0 0 0, .bool false]) (by simp [results, Try.results20, go_sem, hc1]) rfl ⟨ret_bb (by rw [E.out.1]) (by rw [E.out.2.1]) (by rw [E.out.2.2.1]) (by rw [E.out.2.2.2]) (by rw [E0.out]), bl_set (bl_set (bl_set (bl_set (H1.out) _ _ _ (by omega)) _ _ _ (by omega)) _ _ _ (by omega)) _ _ _ (by omega)⟩
  cases g : bvB p q r s
  · have e0 : mtB a b c d p q r s = false := by simp [mtB, g]
    have E0 := Lib.hid e0
    have E := Lib.hid (mt_no e0)
    clear e0
    go_enter Try.func20, Try.ntmps20
    go_wp2_with fail
    refine (implBValid _ _ _ _ _).mono ?_
    rintro e w1 ⟨rfl, B1⟩
    have C1 := B1
    clear B1
    obtain ⟨hc1, hf1⟩ := bcell C1
    have H1 := Lib.hid (bl_trans (bl_alloc (bl_alloc (bl_alloc (bl_refl w) _) _) _) C1)
    go_wp2_with fail
    refine (implBValid _ _ _ _ _).mono ?_
    rintro e w2 ⟨rfl, B2⟩
    have C2 := bl_trans C1 B2
    clear hc1 hf1 C1 B2
    obtain ⟨hc2, hf2⟩ := bcell C2
    have H2 := Lib.hid (bl_trans (bl_alloc (bl_alloc (bl_alloc (bl_refl w) _) _) _) C2)
    go_wp2
    exact bodyPost_ret (v := .tuple #[box 0 0 0 0, .bool false]) (by simp [results, Try.results20, go_sem, hc2]) rfl ⟨ret_bb (by rw [E.out.1]) (by rw [E.out.2.1]) (by rw [E.out.2.2.1]) (by rw [E.out.2.2.2]) (by rw [E0.out]), bl_set (bl_set (bl_set (bl_set (H2.out) _ _ _ (by omega)) _ _ _ (by omega)) _ _ _ (by omega)) _ _ _ (by omega)⟩
  have e0 : mtB a b c d p q r s = orB (max a p) (max b q) (min c r) (min d s) := by rw [← bv_meet h g]; simp [mtB, h, g]
  go_enter Try.func20, Try.ntmps20
  go_wp2_with fail
  refine (implBValid _ _ _ _ _).mono ?_
  rintro e w1 ⟨rfl, B1⟩
  have P0 : BCell w1 w.heap.size a b c d := (((BCell.new w w.heap.size a b c d _ rfl).alloc _).alloc _).step B1
  have P1 : BCell w1 (w.heap.size + 1) p q r s := ((BCell.new _ (w.heap.size + 1) p q r s _ (by simp)).alloc _).step B1
  have P2 : BCell w1 (w.heap.size + 1 + 1) 0 0 0 0 := (BCell.new _ (w.heap.size + 1 + 1) 0 0 0 0 _ (by simp)).step B1
  have H1 := Lib.hid (bl_trans (bl_alloc (bl_alloc (bl_alloc (bl_refl w) _) _) _) B1)
  clear B1
  have e0 := Lib.hid e0
  have c0 := P1.c0
  have c1 := P1.c1
  have c2 := P1.c2
  have c3 := P1.c3
  go_wp2_with fail
  refine (implBValid _ _ _ _ _).mono ?_
  rintro e w2 ⟨rfl, B2⟩
  have O0 := P0.step B2
  have O1 := P1.step B2
  have D := P2.step B2
  have Hb := Lib.hid (bl_trans H1.out B2)
  clear B2 P0 P1 P2 H1 c0 c1 c2 c3
  have l0 := O0.lt
  have l1 := O1.lt
  have l2 := D.lt
  go_upto_region 3 with fail
  go_cut [6] (CommonAt w (max a p) (max b q) (min c r) (min d s))
  case first =>
    go_region_held3 (fun w' => (w'.cell? ⟨w.heap.size, 0, none⟩ = some (.int .i64 a) ∧ w'.cell? ⟨w.heap.size, 1, none⟩ = some (.int .i64 b) ∧ w'.cell? ⟨w.heap.size, 2, none⟩ = some (.int .i64 c) ∧ w'.cell? ⟨w.heap.size, 3, none⟩ = some (.int .i64 d)) ∧ (w'.cell? ⟨w.heap.size + 1, 0, none⟩ = some (.int .i64 p) ∧ w'.cell? ⟨w.heap.size + 1, 1, none⟩ = some (.int .i64 q) ∧ w'.cell? ⟨w.heap.size + 1, 2, none⟩ = some (.int .i64 r) ∧ w'.cell? ⟨w.heap.size + 1, 3, none⟩ = some (.int .i64 s)))
      (exact ⟨bc_four (by repeat (first | with_reducible exact O0 | with_reducible refine BCell.far ?_ (by omega) _ _ | with_reducible refine BCell.alloc ?_ _ | with_reducible refine BCell.drew ?_)), bc_four (by repeat (first | with_reducible exact O1 | with_reducible refine BCell.far ?_ (by omega) _ _ | with_reducible refine BCell.alloc ?_ _ | with_reducible refine BCell.drew ?_))⟩)
      (first | (go_at_call 32; (with_reducible refine (implCorners _ _ _ _ _).mono ?_); rintro e wn ⟨rfl, Bn⟩; have O0 := BCell.step (by first | with_reducible exact O0 | with_reducible exact O0.drew | with_reducible exact O0.alloc _ | with_reducible exact (O0.alloc _).drew) Bn; have O1 := BCell.step (by first | with_reducible exact O1 | with_reducible exact O1.drew | with_reducible exact O1.alloc _ | with_reducible exact (O1.alloc _).drew) Bn; have D := BCell.step (by first | with_reducible exact D | with_reducible exact D.drew | with_reducible exact D.alloc _ | with_reducible exact (D.alloc _).drew) Bn; have Hb := Lib.hid (bl_trans (by first | with_reducible exact Hb.out | with_reducible exact bl_drew1 Hb.out | with_reducible exact bl_alloc Hb.out _ | with_reducible exact bl_drew1 (bl_alloc Hb.out _)) Bn); (first | (with_reducible have Z := BCell.step (by first | with_reducible exact Z) Bn) | (with_reducible have Z := BCell.yD Bn) | (with_reducible have Z := BCell.yS Bn) | skip); clear Bn; (try (have zc0 := Z.c0; have zc1 := Z.c1; have zc2 := Z.c2; have zc3 := Z.c3; have zf0 := Z.f0; have zf1 := Z.f1; have zf2 := Z.f2; have zf3 := Z.f3; have zl := Z.lt)); have l0 := O0.lt; have l1 := O1.lt; have l2 := D.lt) | (go_at_call 38; (with_reducible refine (implMeet0 _ _ _ _ _ _ _ _ _).mono ?_); rintro e wn ⟨rfl, Bn⟩; have O0 := BCell.step (by first | with_reducible exact O0 | with_reducible exact O0.drew | with_reducible exact O0.alloc _ | with_reducible exact (O0.alloc _).drew) Bn; have O1 := BCell.step (by first | with_reducible exact O1 | with_reducible exact O1.drew | with_reducible exact O1.alloc _ | with_reducible exact (O1.alloc _).drew) Bn; have D := BCell.step (by first | with_reducible exact D | with_reducible exact D.drew | with_reducible exact D.alloc _ | with_reducible exact (D.alloc _).drew) Bn; have Hb := Lib.hid (bl_trans (by first | with_reducible exact Hb.out | with_reducible exact bl_drew1 Hb.out | with_reducible exact bl_alloc Hb.out _ | with_reducible exact bl_drew1 (bl_alloc Hb.out _)) Bn); (first | (with_reducible have Z := BCell.step (by first | with_reducible exact Z) Bn) | (with_reducible have Z := BCell.yD Bn) | (with_reducible have Z := BCell.yS Bn) | skip); clear Bn; (try (have zc0 := Z.c0; have zc1 := Z.c1; have zc2 := Z.c2; have zc3 := Z.c3; have zf0 := Z.f0; have zf1 := Z.f1; have zf2 := Z.f2; have zf3 := Z.f3; have zl := Z.lt)); have l0 := O0.lt; have l1 := O1.lt; have l2 := D.lt))
    all_goals
      go_wp2_with fail
      go_meet
      exact ⟨_, (by omega), rfl, (by first | with_reducible exact BCell.new _ _ _ _ _ _ _ rfl | exact (((Z.set0 _).set1 _).set2 _).set3 _), (by repeat (first | with_reducible exact D | with_reducible refine BCell.far ?_ (by omega) _ _ | with_reducible refine BCell.alloc ?_ _ | with_reducible refine BCell.drew ?_)), by repeat (first | with_reducible exact Hb.out | with_reducible refine bl_set ?_ _ _ _ (by omega) | with_reducible refine bl_alloc ?_ _ | with_reducible refine bl_drew1 ?_)⟩
  case rest =>
    obtain ⟨o, ho, rfl, Z, D, H⟩ := hcut
    have Hb := Lib.hid H
    clear H O0 O1 l0 l1 l2
    obtain ⟨A, eA⟩ : ∃ A, max a p = A := ⟨_, rfl⟩
    obtain ⟨B, eB⟩ : ∃ B, max b q = B := ⟨_, rfl⟩
    obtain ⟨C, eC⟩ : ∃ C, min c r = C := ⟨_, rfl⟩
    obtain ⟨D', eD⟩ : ∃ D, min d s = D := ⟨_, rfl⟩
    rw [eA, eB, eC, eD] at Z e0
    have zc0 := Z.c0
    have zc1 := Z.c1
    have zc2 := Z.c2
    have zc3 := Z.c3
    have zl := Z.lt
    have eA := Lib.hid eA
    have eB := Lib.hid eB
    have eC := Lib.hid eC
    have eD := Lib.hid eD
    cases k : orB A B C D'
    · have e1 := e0.out.trans k
      have E0 := Lib.hid e1
      have E := Lib.hid (mt_no e1)
      have R := Lib.hid (show ∀ W : World, Calls Try.prog 33 #[box A B C D'] W (fun e w' => e = .returned (.bool false) ∧ Below W.heap.size W w') from fun W => by have t := implOrdered A B C D' W; rw [k] at t; exact t)
      clear e1 k e0
      go_wp2_with fail
      refine (R.out _).mono ?_
      rintro e w4 ⟨rfl, B4⟩
      have D4 := D.step B4
      have H4 := Lib.hid (bl_trans Hb.out B4)
      clear B4 R zc0 zc1 zc2 zc3 zl Z D Hb
      have dc0 := D4.c0
      have dc1 := D4.c1
      have dc2 := D4.c2
      have dc3 := D4.c3
      have df0 := D4.f0
      have df1 := D4.f1
      have df2 := D4.f2
      have df3 := D4.f3
      have dl := D4.lt
      go_wp2
      exact bodyPost_ret (v := .tuple #[box 0 0 0 0, .bool false]) (by simp [results, Try.results20, go_sem, dc0, dc1, dc2, dc3]) rfl ⟨ret_bb (by rw [E.out.1]) (by rw [E.out.2.1]) (by rw [E.out.2.2.1]) (by rw [E.out.2.2.2]) (by rw [E0.out]), by repeat (first | with_reducible exact H4.out | with_reducible refine bl_set ?_ _ _ _ (by omega) | with_reducible refine bl_alloc ?_ _ | with_reducible refine bl_drew1 ?_)⟩
    · have e1 := e0.out.trans k
      have E0 := Lib.hid e1
      have e2 := mt_yes e1
      rw [eA.out, eB.out, eC.out, eD.out] at e2
      have E := Lib.hid e2
      have R := Lib.hid (show ∀ W : World, Calls Try.prog 33 #[box A B C D'] W (fun e w' => e = .returned (.bool true) ∧ Below W.heap.size W w') from fun W => by have t := implOrdered A B C D' W; rw [k] at t; exact t)
      clear e1 k e0 e2
      go_wp2_with fail
      refine (R.out _).mono ?_
      rintro e w4 ⟨rfl, B4⟩
      have D4 := D.step B4
      have Z4 := Z.step B4
      have H4 := Lib.hid (bl_trans Hb.out B4)
      clear B4 R zc0 zc1 zc2 zc3 zl Z D Hb
      have yc0 := Z4.c0
      have yc1 := Z4.c1
      have yc2 := Z4.c2
      have yc3 := Z4.c3
      have yl := Z4.lt
      go_wp2_with fail
      refine (implBox _ _ _ _ _).mono ?_
      rintro e w5 ⟨rfl, B5⟩
      have D5 := D4.step B5
      have H5 := Lib.hid (bl_trans H4.out B5)
      clear B5 yc0 yc1 yc2 yc3 yl Z4 D4 H4
      have dc0 := D5.c0
      have dc1 := D5.c1
      have dc2 := D5.c2
      have dc3 := D5.c3
      have df0 := D5.f0
      have df1 := D5.f1
      have df2 := D5.f2
      have df3 := D5.f3
      have dl := D5.lt
      go_wp2
      exact bodyPost_ret (v := .tuple #[box A B C D', .bool true]) (by simp [results, Try.results20, go_sem, dc0, dc1, dc2, dc3]) rfl ⟨ret_bb (by rw [E.out.1]) (by rw [E.out.2.1]) (by rw [E.out.2.2.1]) (by rw [E.out.2.2.2]) (by rw [E0.out]), by repeat (first | with_reducible exact H5.out | with_reducible refine bl_set ?_ _ _ _ (by omega) | with_reducible refine bl_alloc ?_ _ | with_reducible refine bl_drew1 ?_)⟩

end Go.Proofs.Ytkkifikdnjajjaa
