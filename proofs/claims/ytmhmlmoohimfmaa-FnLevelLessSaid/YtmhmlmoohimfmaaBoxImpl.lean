/-
  What the program's own functions of chapter 3 return, at every argument: the contracts.
-/
import Derived.Test.YtmhmlmoohimfmaaBoxImplB
import Derived.Deep.DeepCutAuto
import Derived.Laws.StructEq
import Derived.BigQuiet
import Derived.Deep.QuietTactic
namespace Go.Proofs.Ytmhmlmoohimfmaa
open Go.RowKit
open M

theorem BCell.yS {W w' : World} {ty : TypeId} (B : Below (W.alloc (.cells #[.int .i64 0, .int .i64 0, .int .i64 0, .int .i64 0] ty)).heap.size (W.alloc (.cells #[.int .i64 0, .int .i64 0, .int .i64 0, .int .i64 0] ty)) w') : BCell w' W.heap.size 0 0 0 0 := (BCell.new W W.heap.size 0 0 0 0 ty rfl).step B
theorem BCell.yD {W w' : World} {ty : TypeId} (B : Below (W.alloc (.cells #[.int .i64 0, .int .i64 0, .int .i64 0, .int .i64 0] ty)).drew.heap.size (W.alloc (.cells #[.int .i64 0, .int .i64 0, .int .i64 0, .int .i64 0] ty)).drew w') : BCell w' W.heap.size 0 0 0 0 := (BCell.new W W.heap.size 0 0 0 0 ty rfl).drew.step B
theorem bv_or {a b c d : Int} (h : vokB a b = true) (g : vokB c d = true) : bvB a b c d = orB a b c d := by simp [bvB, orB, h, g]
theorem near_of {a c x : Int} (h : a ≤ c) : min (max x a) c = max a (min x c) := by omega
theorem bv_meet {a b c d p q r s : Int} (h : bvB a b c d = true) (g : bvB p q r s = true) : bvB (max a p) (max b q) (min c r) (min d s) = orB (max a p) (max b q) (min c r) (min d s) := by
  have h1 := (bv_iff a b c d).1 h
  have g1 := (bv_iff p q r s).1 g
  exact bv_or ((vok_iff _ _).2 (by omega)) ((vok_iff _ _).2 (by omega))
theorem bh_near {a b c d x y : Int} (h : bvB a b c d = true) (g : vokB x y = true) (e1 : max a (min x c) = x) (e2 : max b (min y d) = y) : bhB a b c d x y = true := by
  rw [bh_yes h g]
  have h1 := (bv_iff a b c d).1 h
  unfold h0B
  rw [inB_yes (by omega), inB_yes (by omega)]
  rfl
theorem bh_far1 {a b c d x y : Int} (h : bvB a b c d = true) (g : vokB x y = true) (e1 : ¬ max a (min x c) = x) : bhB a b c d x y = false := by
  rw [bh_yes h g]
  have h1 := (bv_iff a b c d).1 h
  unfold h0B
  rw [inB_no (by omega)]
  rfl
theorem bh_far2 {a b c d x y : Int} (h : bvB a b c d = true) (g : vokB x y = true) (e2 : ¬ max b (min y d) = y) : bhB a b c d x y = false := by
  rw [bh_yes h g]
  have h1 := (bv_iff a b c d).1 h
  unfold h0B
  rw [inB_no (n := y) (by omega), Bool.and_false]

set_option maxHeartbeats 400000 in
theorem implBValid (a b c d : Int) (w : World) : Calls Try.prog 39 #[box a b c d] w fun e w' => e = .returned (.bool (bvB a b c d)) ∧ Below w.heap.size w w' := by
  cases h : vokB a b
  · have E := Lib.hid (bv_no1 (c := c) (d := d) h)
    go_enter Try.func39, Try.ntmps39
    go_wp2_with fail
    refine (implVecOk _ _ _).mono ?_
    rintro e w1 ⟨rfl, B1⟩
    have C1 := B1
    clear B1
    obtain ⟨hc1, hf1⟩ := bcell C1
    have H1 := Lib.hid (bl_trans (bl_alloc (bl_refl w) _) C1)
    go_wp2
    go_ret
    exact ⟨ret_b (by rw [E.out]), H1.out⟩
  cases g : vokB c d
  · have E := Lib.hid (bv_no2 (a := a) (b := b) g)
    go_enter Try.func39, Try.ntmps39
    go_wp2_with fail
    refine (implVecOk _ _ _).mono ?_
    rintro e w1 ⟨rfl, B1⟩
    have C1 := B1
    clear B1
    obtain ⟨hc1, hf1⟩ := bcell C1
    have H1 := Lib.hid (bl_trans (bl_alloc (bl_refl w) _) C1)
    go_wp2_with fail
    refine (implVecOk _ _ _).mono ?_
    rintro e w2 ⟨rfl, B2⟩
    have C2 := bl_trans C1 B2
    clear hc1 hf1 C1 B2
    obtain ⟨hc2, hf2⟩ := bcell C2
    have H2 := Lib.hid (bl_trans (bl_alloc (bl_refl w) _) C2)
    go_wp2
    go_ret
    exact ⟨ret_b (by rw [E.out]), H2.out⟩
  · have E := Lib.hid (bv_or h g)
    go_enter Try.func39, Try.ntmps39
    go_wp2_with fail
    refine (implVecOk _ _ _).mono ?_
    rintro e w1 ⟨rfl, B1⟩
    have C1 := B1
    clear B1
    obtain ⟨hc1, hf1⟩ := bcell C1
    have H1 := Lib.hid (bl_trans (bl_alloc (bl_refl w) _) C1)
    go_wp2_with fail
    refine (implVecOk _ _ _).mono ?_
    rintro e w2 ⟨rfl, B2⟩
    have C2 := bl_trans C1 B2
    clear hc1 hf1 C1 B2
    obtain ⟨hc2, hf2⟩ := bcell C2
    have H2 := Lib.hid (bl_trans (bl_alloc (bl_refl w) _) C2)
    go_wp2_with fail
    refine (implCorners _ _ _ _ _).mono ?_
    rintro e w3 ⟨rfl, B3⟩
    have C3 := bl_trans C2 B3
    clear hc2 hf2 C2 B3
    obtain ⟨hc3, hf3⟩ := bcell C3
    have H3 := Lib.hid (bl_trans (bl_alloc (bl_refl w) _) C3)
    go_wp2_with fail
    refine (implOrdered _ _ _ _ _).mono ?_
    rintro e w4 ⟨rfl, B4⟩
    have C4 := bl_trans C3 B4
    clear hc3 hf3 C3 B4
    obtain ⟨hc4, hf4⟩ := bcell C4
    have H4 := Lib.hid (bl_trans (bl_alloc (bl_refl w) _) C4)
    go_wp2
    go_ret
    exact ⟨ret_b (by rw [E.out]), H4.out⟩

theorem eq_vec (X Y x y : Int) (w : World) : (binOp .eql 24 (.agg #[.int .i64 X, .int .i64 Y]) (.agg #[.int .i64 x, .int .i64 y])).run Try.prog w = .ok (.bool ((X == x) && (Y == y))) w := by
  have u3 := Try.underlying3
  have a3 := Try.isAgg3
  have z3 := Try.sizeOf3
  have hS : Try.prog.underlying 24 = some (.struct (Try.prog.fieldsOf 24)) := by kernel_rfl
  have hp : Try.prog.stoodInHeld 24 = false := by kernel_rfl
  rw [run_eql_struct, show (10000 : Nat) = 9999 + 1 from rfl, run_equalIn_agg w 9999 24 _ _ hS hp]
  simp only [Program.fieldsOf, Try.underlying24]
  go_simp
  by_cases h1 : X = x <;> by_cases h2 : Y = y <;> simp [h1, h2]
theorem vec_guard : Try.prog.eqGuardType Try.prog.depth 24 = false := by kernel_rfl

set_option maxHeartbeats 2000000 in
theorem implTouch0 (a b c d x y r : Int) (w : World) (h : bvB a b c d = true) (x1 : -2000000 ≤ x) (x2 : x ≤ 2000000) (y1 : -2000000 ≤ y) (y2 : y ≤ 2000000) (r0 : 0 ≤ r) (r1 : r ≤ 1000000) : Calls Try.prog 50 #[box a b c d, vec x y, .int .i64 r] w fun e w' => e = .returned (.bool (t0B a b c d x y r)) ∧ Below w.heap.size w w' := by
  obtain ⟨⟨⟨a1, a2⟩, b1, b2⟩, ⟨⟨c1, c2⟩, d1, d2⟩, ac, bd⟩ := (bv_iff a b c d).1 h
  have n3 : -1000000 ≤ max a (min x c) ∧ max a (min x c) ≤ 1000000 := by omega
  have n4 : -1000000 ≤ max b (min y d) ∧ max b (min y d) ≤ 1000000 := by omega
  have E := Lib.hid (show t0B a b c d x y r = decide ((x - max a (min x c)) * (x - max a (min x c)) + (y - max b (min y d)) * (y - max b (min y d)) ≤ r * r) from rfl)
  have Q := Lib.hid (fun W : World => implNear0 a b c d x y W)
  rw [near_of (x := x) ac, near_of (x := y) bd] at Q
  obtain ⟨X, eX⟩ : ∃ X, max a (min x c) = X := ⟨_, rfl⟩
  obtain ⟨Y, eY⟩ : ∃ Y, max b (min y d) = Y := ⟨_, rfl⟩
  rw [eX] at n3 E Q
  rw [eY] at n4 E Q
  clear eX eY h ac bd
  have m1 := mul_bd (a := x - X) (b := x - X) (by omega) (by omega) (by omega) (by omega)
  have m2 := mul_bd (a := y - Y) (b := y - Y) (by omega) (by omega) (by omega) (by omega)
  have m3 := mul_bd (a := r) (b := r) (by omega) (by omega) (by omega) (by omega)
  have v1 : IntKind.i64.wrap (x - X) = x - X := IntWalk.i64_in _ (by omega)
  have v2 : IntKind.i64.wrap (y - Y) = y - Y := IntWalk.i64_in _ (by omega)
  go_enter Try.func50, Try.ntmps50
  go_wp2_with fail
  refine (Q.out _).mono ?_
  rintro e w1 ⟨rfl, B1⟩
  have C1 := B1
  clear B1
  obtain ⟨hc1, hf1⟩ := bcell C1
  have H1 := Lib.hid (bl_trans (bl_alloc (bl_alloc (bl_refl w) _) _) C1)
  have l1 : w.heap.size + 1 < w1.heap.size := by have := C1.size; simp at this; omega
  clear Q
  go_wp2_with fail
  go_quiet (fail)
  go_wp2
  go_ret
  exact ⟨ret_b (by rw [E.out]), by repeat (first | with_reducible exact H1.out | with_reducible refine bl_alloc ?_ _ | with_reducible refine bl_drew ?_ _)⟩

set_option maxHeartbeats 2000000 in
theorem implBTouch (a b c d x y r : Int) (w : World) : Calls Try.prog 22 #[box a b c d, vec x y, .int .i64 r] w fun e w' => e = .returned (.bool (tcB a b c d x y r)) ∧ Below w.heap.size w w' := by
  cases h : bvB a b c d
  · have E := Lib.hid (tc_no1 (x := x) (y := y) (r := r) h)
    go_enter Try.func22, Try.ntmps22
    go_wp2_with fail
    refine (implBValid _ _ _ _ _).mono ?_
    rintro e w1 ⟨rfl, B1⟩
    have C1 := B1
    clear B1
    obtain ⟨hc1, hf1⟩ := bcell C1
    have H1 := Lib.hid (bl_trans (bl_alloc (bl_alloc (bl_refl w) _) _) C1)
    go_wp2
    go_ret
    exact ⟨ret_b (by rw [E.out]), by repeat (first | with_reducible exact H1.out | with_reducible refine bl_alloc ?_ _ | with_reducible refine bl_drew ?_ _)⟩
  cases g : vokB x y
  · have E := Lib.hid (tc_no2 (a := a) (b := b) (c := c) (d := d) (r := r) g)
    go_enter Try.func22, Try.ntmps22
    go_wp2_with fail
    refine (implBValid _ _ _ _ _).mono ?_
    rintro e w1 ⟨rfl, B1⟩
    have C1 := B1
    clear B1
    obtain ⟨hc1, hf1⟩ := bcell C1
    have H1 := Lib.hid (bl_trans (bl_alloc (bl_alloc (bl_refl w) _) _) C1)
    go_wp2_with fail
    refine (implVecOk _ _ _).mono ?_
    rintro e w2 ⟨rfl, B2⟩
    have C2 := bl_trans C1 B2
    clear hc1 hf1 C1 B2
    obtain ⟨hc2, hf2⟩ := bcell C2
    have H2 := Lib.hid (bl_trans (bl_alloc (bl_alloc (bl_refl w) _) _) C2)
    go_wp2
    go_ret
    exact ⟨ret_b (by rw [E.out]), by repeat (first | with_reducible exact H2.out | with_reducible refine bl_alloc ?_ _ | with_reducible refine bl_drew ?_ _)⟩
  by_cases r0 : r < 0
  · have E := Lib.hid (tc_no3 (a := a) (b := b) (c := c) (d := d) (x := x) (y := y) (in_neg r0))
    go_enter Try.func22, Try.ntmps22
    go_wp2_with fail
    refine (implBValid _ _ _ _ _).mono ?_
    rintro e w1 ⟨rfl, B1⟩
    have C1 := B1
    clear B1
    obtain ⟨hc1, hf1⟩ := bcell C1
    have H1 := Lib.hid (bl_trans (bl_alloc (bl_alloc (bl_refl w) _) _) C1)
    go_wp2_with fail
    refine (implVecOk _ _ _).mono ?_
    rintro e w2 ⟨rfl, B2⟩
    have C2 := bl_trans C1 B2
    clear hc1 hf1 C1 B2
    obtain ⟨hc2, hf2⟩ := bcell C2
    have H2 := Lib.hid (bl_trans (bl_alloc (bl_alloc (bl_refl w) _) _) C2)
    go_wp2
    go_ret
    exact ⟨ret_b (by rw [E.out]), by repeat (first | with_reducible exact H2.out | with_reducible refine bl_alloc ?_ _ | with_reducible refine bl_drew ?_ _)⟩
  have r0 : 0 ≤ r := by omega
  cases q : inB r (-1000000) 1000000
  · have E := Lib.hid (tc_no3 (a := a) (b := b) (c := c) (d := d) (x := x) (y := y) (in_big r0 q))
    have q := Lib.hid q
    go_enter Try.func22, Try.ntmps22
    go_wp2_with fail
    refine (implBValid _ _ _ _ _).mono ?_
    rintro e w1 ⟨rfl, B1⟩
    have C1 := B1
    clear B1
    obtain ⟨hc1, hf1⟩ := bcell C1
    have H1 := Lib.hid (bl_trans (bl_alloc (bl_alloc (bl_refl w) _) _) C1)
    go_wp2_with fail
    refine (implVecOk _ _ _).mono ?_
    rintro e w2 ⟨rfl, B2⟩
    have C2 := bl_trans C1 B2
    clear hc1 hf1 C1 B2
    obtain ⟨hc2, hf2⟩ := bcell C2
    have H2 := Lib.hid (bl_trans (bl_alloc (bl_alloc (bl_refl w) _) _) C2)
    go_wp2_with fail
    refine (implCoord' r false _ q.out).mono ?_
    rintro e w' ⟨rfl, rfl⟩
    go_wp2
    go_ret
    exact ⟨ret_b (by rw [E.out]), by repeat (first | with_reducible exact H2.out | with_reducible refine bl_alloc ?_ _ | with_reducible refine bl_drew ?_ _)⟩
  · obtain ⟨qm, r1⟩ := in_mk r0 q
    obtain ⟨⟨x1, x2⟩, y1, y2⟩ := (vok_iff x y).1 g
    have E := Lib.hid (tc_yes h g qm)
    have T := Lib.hid (fun W : World => implTouch0 a b c d x y r W h (by omega) (by omega) (by omega) (by omega) r0 r1)
    have q := Lib.hid q
    clear qm x1 x2 y1 y2
    go_enter Try.func22, Try.ntmps22
    go_wp2_with fail
    refine (implBValid _ _ _ _ _).mono ?_
    rintro e w1 ⟨rfl, B1⟩
    have O0 : BCell w1 w.heap.size a b c d := ((BCell.new w w.heap.size a b c d _ rfl).alloc _).step B1
    have O1 : PCell w1 (w.heap.size + 1) x y := (PCell.new _ (w.heap.size + 1) x y _ (by simp)).step B1
    have Hb := Lib.hid (bl_trans (bl_alloc (bl_alloc (bl_refl w) _) _) B1)
    clear B1
    have c1 := O1.c0
    have c2 := O1.c1
    go_wp2_with fail
    refine (implVecOk _ _ _).mono ?_
    rintro e w2 ⟨rfl, B2⟩
    have P0 := O0.step B2
    have P1 := O1.step B2
    have Hc := Lib.hid (bl_trans Hb.out B2)
    clear B2 O0 O1 Hb c1 c2
    have O0 := P0
    have O1 := P1
    have Hb := Hc
    clear P0 P1 Hc
    go_wp2_with fail
    refine (implCoord' r true _ q.out).mono ?_
    rintro e w' ⟨rfl, rfl⟩
    go_wp2_with fail
    go_region_held3 (fun w' => (w'.cell? ⟨w.heap.size, 0, none⟩ = some (.int .i64 a) ∧ w'.cell? ⟨w.heap.size, 1, none⟩ = some (.int .i64 b) ∧ w'.cell? ⟨w.heap.size, 2, none⟩ = some (.int .i64 c) ∧ w'.cell? ⟨w.heap.size, 3, none⟩ = some (.int .i64 d)) ∧ (w'.cell? ⟨w.heap.size + 1, 0, none⟩ = some (.int .i64 x) ∧ w'.cell? ⟨w.heap.size + 1, 1, none⟩ = some (.int .i64 y)))
      (exact ⟨bc_four (by repeat (first | with_reducible exact O0 | with_reducible refine BCell.far ?_ (by omega) _ _ | with_reducible refine BCell.alloc ?_ _ | with_reducible refine BCell.drew ?_)), pc_two (by repeat (first | with_reducible exact O1 | with_reducible refine PCell.far ?_ (by omega) _ _ | with_reducible refine PCell.alloc ?_ _ | with_reducible refine PCell.drew ?_))⟩)
      (first | (go_at_call 49; (with_reducible refine (implCorners _ _ _ _ _).mono ?_); rintro e wn ⟨rfl, Bn⟩; have O0 := BCell.step (by first | with_reducible exact O0 | with_reducible exact O0.drew) Bn; have O1 := PCell.step (by first | with_reducible exact O1 | with_reducible exact O1.drew) Bn; have Hb := Lib.hid (bl_trans (by first | with_reducible exact Hb.out | with_reducible exact bl_drew1 Hb.out) Bn); clear Bn) | (go_at_call 50; (with_reducible refine (T.out _).mono ?_); rintro e wn ⟨rfl, Bn⟩; have O0 := BCell.step (by first | with_reducible exact O0 | with_reducible exact O0.drew) Bn; have O1 := PCell.step (by first | with_reducible exact O1 | with_reducible exact O1.drew) Bn; have Hb := Lib.hid (bl_trans (by first | with_reducible exact Hb.out | with_reducible exact bl_drew1 Hb.out) Bn); clear Bn))
    all_goals
      go_wp2
      go_ret
      exact ⟨ret_b (by rw [E.out]), by repeat (first | with_reducible exact Hb.out | with_reducible refine bl_set ?_ _ _ _ (by omega) | with_reducible refine bl_alloc ?_ _ | with_reducible refine bl_drew1 ?_)⟩

/-- Where the common corners lie in a variable of their own. -/
def CommonAt (w : World) (a b c d : Int) (v : Value) (W : World) : Prop :=
  ∃ o : Nat, w.heap.size + 1 + 1 < o ∧ v = .pointer (some ⟨o, 0, none⟩) ∧ BCell W o a b c d ∧ BCell W (w.heap.size + 1 + 1) 0 0 0 0 ∧ Below w.heap.size w W

end Go.Proofs.Ytmhmlmoohimfmaa
