/-
  The walks of the exact laws of chapter 3 that make a variable in a region that draws its order.
-/
import Derived.Test.YtkkifikdnjajjabLawBoxX
import Derived.Deep.DeepCutAuto
namespace Go.Proofs.Ytkkifikdnjajjab
open Go.RowKit
open M

theorem BCell.zS {W w' : World} {ty : TypeId} (B : Below (W.alloc (.cells #[.int .i64 0, .int .i64 0, .int .i64 0, .int .i64 0] ty)).heap.size (W.alloc (.cells #[.int .i64 0, .int .i64 0, .int .i64 0, .int .i64 0] ty)) w') : BCell w' W.heap.size 0 0 0 0 := (BCell.new W W.heap.size 0 0 0 0 ty rfl).step B
theorem BCell.zD {W w' : World} {ty : TypeId} (B : Below (W.alloc (.cells #[.int .i64 0, .int .i64 0, .int .i64 0, .int .i64 0] ty)).drew.heap.size (W.alloc (.cells #[.int .i64 0, .int .i64 0, .int .i64 0, .int .i64 0] ty)).drew w') : BCell w' W.heap.size 0 0 0 0 := (BCell.new W W.heap.size 0 0 0 0 ty rfl).drew.step B
theorem BCell.zE {W w' : World} {a b : Obj} {ty : TypeId} (B : Below (((W.alloc a).alloc b).alloc (.cells #[.int .i64 0, .int .i64 0, .int .i64 0, .int .i64 0] ty)).drew.heap.size (((W.alloc a).alloc b).alloc (.cells #[.int .i64 0, .int .i64 0, .int .i64 0, .int .i64 0] ty)).drew w') : BCell w' (W.heap.size + 1 + 1) 0 0 0 0 := by
  have := BCell.zD B
  simpa using this
theorem PCell.zS {W w' : World} {ty : TypeId} (B : Below (W.alloc (.cells #[.int .i64 0, .int .i64 0] ty)).heap.size (W.alloc (.cells #[.int .i64 0, .int .i64 0] ty)) w') : PCell w' W.heap.size 0 0 := (PCell.new W W.heap.size 0 0 ty rfl).step B
theorem PCell.zD {W w' : World} {ty : TypeId} (B : Below (W.alloc (.cells #[.int .i64 0, .int .i64 0] ty)).drew.heap.size (W.alloc (.cells #[.int .i64 0, .int .i64 0] ty)).drew w') : PCell w' W.heap.size 0 0 := (PCell.new W W.heap.size 0 0 ty rfl).drew.step B
theorem PCell.zE {W w' : World} {a b : Obj} {ty : TypeId} (B : Below (((W.alloc a).alloc b).alloc (.cells #[.int .i64 0, .int .i64 0] ty)).drew.heap.size (((W.alloc a).alloc b).alloc (.cells #[.int .i64 0, .int .i64 0] ty)).drew w') : PCell w' (W.heap.size + 1 + 1) 0 0 := by
  have := PCell.zD B
  simpa using this

set_option maxHeartbeats 1000000 in
theorem eqBox_same (p q s t : Int) (w : World) : Calls Try.prog 30 #[box p q s t, box p q s t] w fun e w' => e = .returned (.bool true) ∧ Below w.heap.size w w' := by
  have O0 : BCell ((w.alloc (.cells #[.int .i64 p, .int .i64 q, .int .i64 s, .int .i64 t] 26)).alloc (.cells #[.int .i64 p, .int .i64 q, .int .i64 s, .int .i64 t] 26)) w.heap.size p q s t := (BCell.new w w.heap.size p q s t _ rfl).alloc _
  have O1 : BCell ((w.alloc (.cells #[.int .i64 p, .int .i64 q, .int .i64 s, .int .i64 t] 26)).alloc (.cells #[.int .i64 p, .int .i64 q, .int .i64 s, .int .i64 t] 26)) (w.heap.size + 1) p q s t := BCell.new _ (w.heap.size + 1) p q s t _ (by simp)
  go_enter Try.func30, Try.ntmps30
  go_wp2_with fail
  refine (eqVec_same _ _ _).mono ?_
  rintro e w1 ⟨rfl, B1⟩
  have O2 := O0.step B1
  have O3 := O1.step B1
  have H1 := Lib.hid (bl_trans (bl_alloc (bl_alloc (bl_refl w) _) _) B1)
  clear B1 O0 O1
  have ac0 := O2.c0
  have ac1 := O2.c1
  have ac2 := O2.c2
  have ac3 := O2.c3
  have af0 := O2.f0
  have af1 := O2.f1
  have af2 := O2.f2
  have af3 := O2.f3
  have al := O2.lt
  have bc0 := O3.c0
  have bc1 := O3.c1
  have bc2 := O3.c2
  have bc3 := O3.c3
  have bf0 := O3.f0
  have bf1 := O3.f1
  have bf2 := O3.f2
  have bf3 := O3.f3
  have bl := O3.lt
  go_wp2_with fail
  refine (eqVec_same _ _ _).mono ?_
  rintro e w2 ⟨rfl, B2⟩
  have H2 := Lib.hid (bl_trans H1.out B2)
  clear B2 H1 O2 O3 ac0 ac1 ac2 ac3 af0 af1 af2 af3 al bc0 bc1 bc2 bc3 bf0 bf1 bf2 bf3 bl
  go_wp2
  go_ret
  exact ⟨rfl, H2.out⟩

/-- Between the two calls: the first answer is in a variable of its own. -/
def MeetMid (w : World) (p q s t x y u v : Int) (p5 p6 : Value) (W : World) : Prop :=
  ∃ b : Nat, w.heap.size + 1 < b ∧ p5 = .pointer (some ⟨b, 0, none⟩) ∧ p6 = .bool (mtB p q s t x y u v) ∧ BCell W b (mtA p q s t x y u v) (mtE p q s t x y u v) (mtC p q s t x y u v) (mtD p q s t x y u v) ∧ BCell W (w.heap.size) p q s t ∧ BCell W (w.heap.size + 1) x y u v ∧ Below w.heap.size w W
/-- Behind both calls: both answers are in variables. -/
def MeetEnd (w : World) (b : Nat) (p q s t x y u v : Int) (p5 p6 : Value) (W : World) : Prop :=
  ∃ c : Nat, p5 = .pointer (some ⟨c, 0, none⟩) ∧ p6 = .bool (mtB p q s t x y u v) ∧ BCell W c (mtA p q s t x y u v) (mtE p q s t x y u v) (mtC p q s t x y u v) (mtD p q s t x y u v) ∧ BCell W b (mtA p q s t x y u v) (mtE p q s t x y u v) (mtC p q s t x y u v) (mtD p q s t x y u v) ∧ Below w.heap.size w W

set_option maxHeartbeats 4000000 in
theorem walk_FnExactBoxMeet (p q s t x y u v : Int) (w : World) : Calls Try.prog 9 #[box p q s t, box x y u v] w fun e w' => e = .returned (.bool true) ∧ Below w.heap.size w w' := by
  have O0 : BCell ((w.alloc (.cells #[.int .i64 p, .int .i64 q, .int .i64 s, .int .i64 t] 42)).alloc (.cells #[.int .i64 x, .int .i64 y, .int .i64 u, .int .i64 v] 42)) (w.heap.size) p q s t := ((BCell.new w (w.heap.size) p q s t 42 (by first | rfl | simp)).alloc _)
  have O1 : BCell ((w.alloc (.cells #[.int .i64 p, .int .i64 q, .int .i64 s, .int .i64 t] 42)).alloc (.cells #[.int .i64 x, .int .i64 y, .int .i64 u, .int .i64 v] 42)) (w.heap.size + 1) x y u v := (BCell.new (w.alloc (.cells #[.int .i64 p, .int .i64 q, .int .i64 s, .int .i64 t] 42)) (w.heap.size + 1) x y u v 42 (by first | rfl | simp))
  have Hb := Lib.hid (show Below w.heap.size w ((w.alloc (.cells #[.int .i64 p, .int .i64 q, .int .i64 s, .int .i64 t] 42)).alloc (.cells #[.int .i64 x, .int .i64 y, .int .i64 u, .int .i64 v] 42)) from bl_alloc (bl_alloc (bl_refl w) _) _)
  have lO0 := O0.lt
  have lO1 := O1.lt
  go_enter Try.func9, Try.ntmps9
  go_upto_region 1 with fail
  go_cut [5, 6] (MeetMid w p q s t x y u v)
  case first =>
    go_region_held3 (fun w' => (w'.cell? ⟨w.heap.size, 0, none⟩ = some (.int .i64 p) ∧ w'.cell? ⟨w.heap.size, 1, none⟩ = some (.int .i64 q) ∧ w'.cell? ⟨w.heap.size, 2, none⟩ = some (.int .i64 s) ∧ w'.cell? ⟨w.heap.size, 3, none⟩ = some (.int .i64 t)) ∧ (w'.cell? ⟨w.heap.size + 1, 0, none⟩ = some (.int .i64 x) ∧ w'.cell? ⟨w.heap.size + 1, 1, none⟩ = some (.int .i64 y) ∧ w'.cell? ⟨w.heap.size + 1, 2, none⟩ = some (.int .i64 u) ∧ w'.cell? ⟨w.heap.size + 1, 3, none⟩ = some (.int .i64 v)))
      (exact ⟨bc_all (by repeat (first | with_reducible exact O0 | with_reducible refine BCell.far ?_ (by omega) _ _ | with_reducible refine BCell.alloc ?_ _ | with_reducible refine BCell.drew ?_)), bc_all (by repeat (first | with_reducible exact O1 | with_reducible refine BCell.far ?_ (by omega) _ _ | with_reducible refine BCell.alloc ?_ _ | with_reducible refine BCell.drew ?_))⟩)
      (first | (go_at_call 26; with_reducible refine (toBox_any _ _ _ _ _).mono ?_; rintro e wn ⟨rfl, Bn⟩; have O0 := BCell.step (by first | with_reducible exact O0 | with_reducible exact O0.drew | with_reducible exact O0.alloc _ | with_reducible exact (O0.alloc _).drew) Bn; have O1 := BCell.step (by first | with_reducible exact O1 | with_reducible exact O1.drew | with_reducible exact O1.alloc _ | with_reducible exact (O1.alloc _).drew) Bn; have Hb := Lib.hid (bl_trans (by first | with_reducible exact Hb.out | with_reducible exact bl_drew1 Hb.out | with_reducible exact bl_alloc Hb.out _ | with_reducible exact bl_drew1 (bl_alloc Hb.out _)) Bn); (first | (with_reducible have Z := BCell.step (by first | with_reducible exact Z) Bn) | (with_reducible have Z := BCell.zE Bn) | (with_reducible have Z := BCell.zD Bn) | (with_reducible have Z := BCell.zS Bn) | skip); clear Bn; (try (have zc0 := Z.c0; have zc1 := Z.c1; have zc2 := Z.c2; have zc3 := Z.c3; have zf0 := Z.f0; have zf1 := Z.f1; have zf2 := Z.f2; have zf3 := Z.f3; have zl := Z.lt)); have lO0 := O0.lt; have lO1 := O1.lt) | (go_at_call 28; with_reducible refine (specBMeet _ _ _ _ _ _ _ _ _).mono ?_; rintro e wn ⟨rfl, Bn⟩; have O0 := BCell.step (by first | with_reducible exact O0 | with_reducible exact O0.drew | with_reducible exact O0.alloc _ | with_reducible exact (O0.alloc _).drew) Bn; have O1 := BCell.step (by first | with_reducible exact O1 | with_reducible exact O1.drew | with_reducible exact O1.alloc _ | with_reducible exact (O1.alloc _).drew) Bn; have Hb := Lib.hid (bl_trans (by first | with_reducible exact Hb.out | with_reducible exact bl_drew1 Hb.out | with_reducible exact bl_alloc Hb.out _ | with_reducible exact bl_drew1 (bl_alloc Hb.out _)) Bn); (first | (with_reducible have Z := BCell.step (by first | with_reducible exact Z) Bn) | (with_reducible have Z := BCell.zE Bn) | (with_reducible have Z := BCell.zD Bn) | (with_reducible have Z := BCell.zS Bn) | skip); clear Bn; (try (have zc0 := Z.c0; have zc1 := Z.c1; have zc2 := Z.c2; have zc3 := Z.c3; have zf0 := Z.f0; have zf1 := Z.f1; have zf2 := Z.f2; have zf3 := Z.f3; have zl := Z.lt)); have lO0 := O0.lt; have lO1 := O1.lt))
    all_goals
      go_wp2_with fail
      go_meet
      exact ⟨_, (by omega), rfl, rfl, (by first | with_reducible exact BCell.new _ _ _ _ _ _ _ rfl | exact (((Z.set0 _).set1 _).set2 _).set3 _), (by repeat (first | with_reducible exact O0 | with_reducible refine BCell.far ?_ (by omega) _ _ | with_reducible refine BCell.alloc ?_ _ | with_reducible refine BCell.drew ?_)), (by repeat (first | with_reducible exact O1 | with_reducible refine BCell.far ?_ (by omega) _ _ | with_reducible refine BCell.alloc ?_ _ | with_reducible refine BCell.drew ?_)), (by repeat (first | with_reducible exact Hb.out | with_reducible refine bl_set ?_ _ _ _ (by omega) | with_reducible refine bl_alloc ?_ _ | with_reducible refine bl_drew1 ?_))⟩
  case rest =>
    obtain ⟨b, hb, rfl, rfl, Oc, O0, O1, H⟩ := hcut
    have Hb := Lib.hid H
    clear H
    have lO0 := O0.lt
    have lO1 := O1.lt
    have lOc := Oc.lt
    go_upto_region 2 with fail
    go_cut [7, 8] (MeetEnd w b p q s t x y u v)
    case first =>
      go_region_held3 (fun w' => (w'.cell? ⟨w.heap.size, 0, none⟩ = some (.int .i64 p) ∧ w'.cell? ⟨w.heap.size, 1, none⟩ = some (.int .i64 q) ∧ w'.cell? ⟨w.heap.size, 2, none⟩ = some (.int .i64 s) ∧ w'.cell? ⟨w.heap.size, 3, none⟩ = some (.int .i64 t)) ∧ (w'.cell? ⟨w.heap.size + 1, 0, none⟩ = some (.int .i64 x) ∧ w'.cell? ⟨w.heap.size + 1, 1, none⟩ = some (.int .i64 y) ∧ w'.cell? ⟨w.heap.size + 1, 2, none⟩ = some (.int .i64 u) ∧ w'.cell? ⟨w.heap.size + 1, 3, none⟩ = some (.int .i64 v)) ∧ (w'.cell? ⟨b, 0, none⟩ = some (.int .i64 (mtA p q s t x y u v)) ∧ w'.cell? ⟨b, 1, none⟩ = some (.int .i64 (mtE p q s t x y u v)) ∧ w'.cell? ⟨b, 2, none⟩ = some (.int .i64 (mtC p q s t x y u v)) ∧ w'.cell? ⟨b, 3, none⟩ = some (.int .i64 (mtD p q s t x y u v))))
        (exact ⟨bc_all (by repeat (first | with_reducible exact O0 | with_reducible refine BCell.far ?_ (by omega) _ _ | with_reducible refine BCell.alloc ?_ _ | with_reducible refine BCell.drew ?_)), bc_all (by repeat (first | with_reducible exact O1 | with_reducible refine BCell.far ?_ (by omega) _ _ | with_reducible refine BCell.alloc ?_ _ | with_reducible refine BCell.drew ?_)), bc_all (by repeat (first | with_reducible exact Oc | with_reducible refine BCell.far ?_ (by omega) _ _ | with_reducible refine BCell.alloc ?_ _ | with_reducible refine BCell.drew ?_))⟩)
        (first | (go_at_call 26; with_reducible refine (toBox_any _ _ _ _ _).mono ?_; rintro e wn ⟨rfl, Bn⟩; have O0 := BCell.step (by first | with_reducible exact O0 | with_reducible exact O0.drew | with_reducible exact O0.alloc _ | with_reducible exact (O0.alloc _).drew) Bn; have O1 := BCell.step (by first | with_reducible exact O1 | with_reducible exact O1.drew | with_reducible exact O1.alloc _ | with_reducible exact (O1.alloc _).drew) Bn; have Oc := BCell.step (by first | with_reducible exact Oc | with_reducible exact Oc.drew | with_reducible exact Oc.alloc _ | with_reducible exact (Oc.alloc _).drew) Bn; have Hb := Lib.hid (bl_trans (by first | with_reducible exact Hb.out | with_reducible exact bl_drew1 Hb.out | with_reducible exact bl_alloc Hb.out _ | with_reducible exact bl_drew1 (bl_alloc Hb.out _)) Bn); (first | (with_reducible have Z := BCell.step (by first | with_reducible exact Z) Bn) | (with_reducible have Z := BCell.zE Bn) | (with_reducible have Z := BCell.zD Bn) | (with_reducible have Z := BCell.zS Bn) | skip); clear Bn; (try (have zc0 := Z.c0; have zc1 := Z.c1; have zc2 := Z.c2; have zc3 := Z.c3; have zf0 := Z.f0; have zf1 := Z.f1; have zf2 := Z.f2; have zf3 := Z.f3; have zl := Z.lt)); have lO0 := O0.lt; have lO1 := O1.lt; have lOc := Oc.lt) | (go_at_call 29; with_reducible refine (implBMeet _ _ _ _ _ _ _ _ _).mono ?_; rintro e wn ⟨rfl, Bn⟩; have O0 := BCell.step (by first | with_reducible exact O0 | with_reducible exact O0.drew | with_reducible exact O0.alloc _ | with_reducible exact (O0.alloc _).drew) Bn; have O1 := BCell.step (by first | with_reducible exact O1 | with_reducible exact O1.drew | with_reducible exact O1.alloc _ | with_reducible exact (O1.alloc _).drew) Bn; have Oc := BCell.step (by first | with_reducible exact Oc | with_reducible exact Oc.drew | with_reducible exact Oc.alloc _ | with_reducible exact (Oc.alloc _).drew) Bn; have Hb := Lib.hid (bl_trans (by first | with_reducible exact Hb.out | with_reducible exact bl_drew1 Hb.out | with_reducible exact bl_alloc Hb.out _ | with_reducible exact bl_drew1 (bl_alloc Hb.out _)) Bn); (first | (with_reducible have Z := BCell.step (by first | with_reducible exact Z) Bn) | (with_reducible have Z := BCell.zE Bn) | (with_reducible have Z := BCell.zD Bn) | (with_reducible have Z := BCell.zS Bn) | skip); clear Bn; (try (have zc0 := Z.c0; have zc1 := Z.c1; have zc2 := Z.c2; have zc3 := Z.c3; have zf0 := Z.f0; have zf1 := Z.f1; have zf2 := Z.f2; have zf3 := Z.f3; have zl := Z.lt)); have lO0 := O0.lt; have lO1 := O1.lt; have lOc := Oc.lt))
      all_goals
        go_wp2_with fail
        go_meet
        exact ⟨_, rfl, rfl, (by first | with_reducible exact BCell.new _ _ _ _ _ _ _ rfl | exact (((Z.set0 _).set1 _).set2 _).set3 _), (by repeat (first | with_reducible exact Oc | with_reducible refine BCell.far ?_ (by omega) _ _ | with_reducible refine BCell.alloc ?_ _ | with_reducible refine BCell.drew ?_)), (by repeat (first | with_reducible exact Hb.out | with_reducible refine bl_set ?_ _ _ _ (by omega) | with_reducible refine bl_alloc ?_ _ | with_reducible refine bl_drew1 ?_))⟩
    case rest =>
      obtain ⟨c, rfl, rfl, Od, Oe, H⟩ := hcut
      have H9 := Lib.hid H
      clear H O0 O1 Oc Hb lO0 lO1 lOc
      have i0 := Od.c0
      have j0 := Oe.c0
      have i1 := Od.c1
      have j1 := Oe.c1
      have i2 := Od.c2
      have j2 := Oe.c2
      have i3 := Od.c3
      have j3 := Oe.c3
      go_wp2_with fail
      refine (eqBox_same _ _ _ _ _).mono ?_
      rintro e w4 ⟨rfl, B4⟩
      have H4 := Lib.hid (bl_trans H9.out B4)
      clear B4
      go_wp2
      go_ret
      exact ⟨rfl, H4.out⟩

/-- Between the two calls: the first answer is in a variable of its own. -/
def NearMid (w : World) (p q s t x y : Int) (p5 p6 : Value) (W : World) : Prop :=
  ∃ b : Nat, w.heap.size + 1 < b ∧ p5 = .pointer (some ⟨b, 0, none⟩) ∧ p6 = .bool (nrB p q s t x y) ∧ PCell W b (nrX p q s t x y) (nrY p q s t x y) ∧ BCell W (w.heap.size) p q s t ∧ PCell W (w.heap.size + 1) x y ∧ Below w.heap.size w W
/-- Behind both calls: both answers are in variables. -/
def NearEnd (w : World) (b : Nat) (p q s t x y : Int) (p5 p6 : Value) (W : World) : Prop :=
  ∃ c : Nat, p5 = .pointer (some ⟨c, 0, none⟩) ∧ p6 = .bool (nrB p q s t x y) ∧ PCell W c (nrX p q s t x y) (nrY p q s t x y) ∧ PCell W b (nrX p q s t x y) (nrY p q s t x y) ∧ Below w.heap.size w W

set_option maxHeartbeats 4000000 in
theorem walk_FnExactBoxNearest (p q s t x y : Int) (w : World) : Calls Try.prog 10 #[box p q s t, vec x y] w fun e w' => e = .returned (.bool true) ∧ Below w.heap.size w w' := by
  have O0 : BCell ((w.alloc (.cells #[.int .i64 p, .int .i64 q, .int .i64 s, .int .i64 t] 42)).alloc (.cells #[.int .i64 x, .int .i64 y] 40)) (w.heap.size) p q s t := ((BCell.new w (w.heap.size) p q s t 42 (by first | rfl | simp)).alloc _)
  have O1 : PCell ((w.alloc (.cells #[.int .i64 p, .int .i64 q, .int .i64 s, .int .i64 t] 42)).alloc (.cells #[.int .i64 x, .int .i64 y] 40)) (w.heap.size + 1) x y := (PCell.new (w.alloc (.cells #[.int .i64 p, .int .i64 q, .int .i64 s, .int .i64 t] 42)) (w.heap.size + 1) x y 40 (by first | rfl | simp))
  have Hb := Lib.hid (show Below w.heap.size w ((w.alloc (.cells #[.int .i64 p, .int .i64 q, .int .i64 s, .int .i64 t] 42)).alloc (.cells #[.int .i64 x, .int .i64 y] 40)) from bl_alloc (bl_alloc (bl_refl w) _) _)
  have lO0 := O0.lt
  have lO1 := O1.lt
  go_enter Try.func10, Try.ntmps10
  go_upto_region 1 with fail
  go_cut [5, 6] (NearMid w p q s t x y)
  case first =>
    go_region_held3 (fun w' => (w'.cell? ⟨w.heap.size, 0, none⟩ = some (.int .i64 p) ∧ w'.cell? ⟨w.heap.size, 1, none⟩ = some (.int .i64 q) ∧ w'.cell? ⟨w.heap.size, 2, none⟩ = some (.int .i64 s) ∧ w'.cell? ⟨w.heap.size, 3, none⟩ = some (.int .i64 t)) ∧ (w'.cell? ⟨w.heap.size + 1, 0, none⟩ = some (.int .i64 x) ∧ w'.cell? ⟨w.heap.size + 1, 1, none⟩ = some (.int .i64 y)))
      (exact ⟨bc_all (by repeat (first | with_reducible exact O0 | with_reducible refine BCell.far ?_ (by omega) _ _ | with_reducible refine BCell.alloc ?_ _ | with_reducible refine BCell.drew ?_)), pc_both (by repeat (first | with_reducible exact O1 | with_reducible refine PCell.far ?_ (by omega) _ _ | with_reducible refine PCell.alloc ?_ _ | with_reducible refine PCell.drew ?_))⟩)
      (first | (go_at_call 26; with_reducible refine (toBox_any _ _ _ _ _).mono ?_; rintro e wn ⟨rfl, Bn⟩; have O0 := BCell.step (by first | with_reducible exact O0 | with_reducible exact O0.drew | with_reducible exact O0.alloc _ | with_reducible exact (O0.alloc _).drew) Bn; have O1 := PCell.step (by first | with_reducible exact O1 | with_reducible exact O1.drew | with_reducible exact O1.alloc _ | with_reducible exact (O1.alloc _).drew) Bn; have Hb := Lib.hid (bl_trans (by first | with_reducible exact Hb.out | with_reducible exact bl_drew1 Hb.out | with_reducible exact bl_alloc Hb.out _ | with_reducible exact bl_drew1 (bl_alloc Hb.out _)) Bn); (first | (with_reducible have Z := PCell.step (by first | with_reducible exact Z) Bn) | (with_reducible have Z := PCell.zE Bn) | (with_reducible have Z := PCell.zD Bn) | (with_reducible have Z := PCell.zS Bn) | skip); clear Bn; (try (have zc0 := Z.c0; have zc1 := Z.c1; have zf0 := Z.f0; have zf1 := Z.f1; have zl := Z.lt)); have lO0 := O0.lt; have lO1 := O1.lt) | (go_at_call 27; with_reducible refine (toVec_any _ _ _).mono ?_; rintro e wn ⟨rfl, Bn⟩; have O0 := BCell.step (by first | with_reducible exact O0 | with_reducible exact O0.drew | with_reducible exact O0.alloc _ | with_reducible exact (O0.alloc _).drew) Bn; have O1 := PCell.step (by first | with_reducible exact O1 | with_reducible exact O1.drew | with_reducible exact O1.alloc _ | with_reducible exact (O1.alloc _).drew) Bn; have Hb := Lib.hid (bl_trans (by first | with_reducible exact Hb.out | with_reducible exact bl_drew1 Hb.out | with_reducible exact bl_alloc Hb.out _ | with_reducible exact bl_drew1 (bl_alloc Hb.out _)) Bn); (first | (with_reducible have Z := PCell.step (by first | with_reducible exact Z) Bn) | (with_reducible have Z := PCell.zE Bn) | (with_reducible have Z := PCell.zD Bn) | (with_reducible have Z := PCell.zS Bn) | skip); clear Bn; (try (have zc0 := Z.c0; have zc1 := Z.c1; have zf0 := Z.f0; have zf1 := Z.f1; have zl := Z.lt)); have lO0 := O0.lt; have lO1 := O1.lt) | (go_at_call 22; with_reducible refine (specBNear _ _ _ _ _ _ _).mono ?_; rintro e wn ⟨rfl, Bn⟩; have O0 := BCell.step (by first | with_reducible exact O0 | with_reducible exact O0.drew | with_reducible exact O0.alloc _ | with_reducible exact (O0.alloc _).drew) Bn; have O1 := PCell.step (by first | with_reducible exact O1 | with_reducible exact O1.drew | with_reducible exact O1.alloc _ | with_reducible exact (O1.alloc _).drew) Bn; have Hb := Lib.hid (bl_trans (by first | with_reducible exact Hb.out | with_reducible exact bl_drew1 Hb.out | with_reducible exact bl_alloc Hb.out _ | with_reducible exact bl_drew1 (bl_alloc Hb.out _)) Bn); (first | (with_reducible have Z := PCell.step (by first | with_reducible exact Z) Bn) | (with_reducible have Z := PCell.zE Bn) | (with_reducible have Z := PCell.zD Bn) | (with_reducible have Z := PCell.zS Bn) | skip); clear Bn; (try (have zc0 := Z.c0; have zc1 := Z.c1; have zf0 := Z.f0; have zf1 := Z.f1; have zl := Z.lt)); have lO0 := O0.lt; have lO1 := O1.lt))
    all_goals
      go_wp2_with fail
      go_meet
      exact ⟨_, (by omega), rfl, rfl, (by first | with_reducible exact PCell.new _ _ _ _ _ rfl | exact (Z.set0 _).set1 _), (by repeat (first | with_reducible exact O0 | with_reducible refine BCell.far ?_ (by omega) _ _ | with_reducible refine BCell.alloc ?_ _ | with_reducible refine BCell.drew ?_)), (by repeat (first | with_reducible exact O1 | with_reducible refine PCell.far ?_ (by omega) _ _ | with_reducible refine PCell.alloc ?_ _ | with_reducible refine PCell.drew ?_)), (by repeat (first | with_reducible exact Hb.out | with_reducible refine bl_set ?_ _ _ _ (by omega) | with_reducible refine bl_alloc ?_ _ | with_reducible refine bl_drew1 ?_))⟩
  case rest =>
    obtain ⟨b, hb, rfl, rfl, Oc, O0, O1, H⟩ := hcut
    have Hb := Lib.hid H
    clear H
    have lO0 := O0.lt
    have lO1 := O1.lt
    have lOc := Oc.lt
    go_upto_region 2 with fail
    go_cut [7, 8] (NearEnd w b p q s t x y)
    case first =>
      go_region_held3 (fun w' => (w'.cell? ⟨w.heap.size, 0, none⟩ = some (.int .i64 p) ∧ w'.cell? ⟨w.heap.size, 1, none⟩ = some (.int .i64 q) ∧ w'.cell? ⟨w.heap.size, 2, none⟩ = some (.int .i64 s) ∧ w'.cell? ⟨w.heap.size, 3, none⟩ = some (.int .i64 t)) ∧ (w'.cell? ⟨w.heap.size + 1, 0, none⟩ = some (.int .i64 x) ∧ w'.cell? ⟨w.heap.size + 1, 1, none⟩ = some (.int .i64 y)) ∧ (w'.cell? ⟨b, 0, none⟩ = some (.int .i64 (nrX p q s t x y)) ∧ w'.cell? ⟨b, 1, none⟩ = some (.int .i64 (nrY p q s t x y))))
        (exact ⟨bc_all (by repeat (first | with_reducible exact O0 | with_reducible refine BCell.far ?_ (by omega) _ _ | with_reducible refine BCell.alloc ?_ _ | with_reducible refine BCell.drew ?_)), pc_both (by repeat (first | with_reducible exact O1 | with_reducible refine PCell.far ?_ (by omega) _ _ | with_reducible refine PCell.alloc ?_ _ | with_reducible refine PCell.drew ?_)), pc_both (by repeat (first | with_reducible exact Oc | with_reducible refine PCell.far ?_ (by omega) _ _ | with_reducible refine PCell.alloc ?_ _ | with_reducible refine PCell.drew ?_))⟩)
        (first | (go_at_call 26; with_reducible refine (toBox_any _ _ _ _ _).mono ?_; rintro e wn ⟨rfl, Bn⟩; have O0 := BCell.step (by first | with_reducible exact O0 | with_reducible exact O0.drew | with_reducible exact O0.alloc _ | with_reducible exact (O0.alloc _).drew) Bn; have O1 := PCell.step (by first | with_reducible exact O1 | with_reducible exact O1.drew | with_reducible exact O1.alloc _ | with_reducible exact (O1.alloc _).drew) Bn; have Oc := PCell.step (by first | with_reducible exact Oc | with_reducible exact Oc.drew | with_reducible exact Oc.alloc _ | with_reducible exact (Oc.alloc _).drew) Bn; have Hb := Lib.hid (bl_trans (by first | with_reducible exact Hb.out | with_reducible exact bl_drew1 Hb.out | with_reducible exact bl_alloc Hb.out _ | with_reducible exact bl_drew1 (bl_alloc Hb.out _)) Bn); (first | (with_reducible have Z := PCell.step (by first | with_reducible exact Z) Bn) | (with_reducible have Z := PCell.zE Bn) | (with_reducible have Z := PCell.zD Bn) | (with_reducible have Z := PCell.zS Bn) | skip); clear Bn; (try (have zc0 := Z.c0; have zc1 := Z.c1; have zf0 := Z.f0; have zf1 := Z.f1; have zl := Z.lt)); have lO0 := O0.lt; have lO1 := O1.lt; have lOc := Oc.lt) | (go_at_call 27; with_reducible refine (toVec_any _ _ _).mono ?_; rintro e wn ⟨rfl, Bn⟩; have O0 := BCell.step (by first | with_reducible exact O0 | with_reducible exact O0.drew | with_reducible exact O0.alloc _ | with_reducible exact (O0.alloc _).drew) Bn; have O1 := PCell.step (by first | with_reducible exact O1 | with_reducible exact O1.drew | with_reducible exact O1.alloc _ | with_reducible exact (O1.alloc _).drew) Bn; have Oc := PCell.step (by first | with_reducible exact Oc | with_reducible exact Oc.drew | with_reducible exact Oc.alloc _ | with_reducible exact (Oc.alloc _).drew) Bn; have Hb := Lib.hid (bl_trans (by first | with_reducible exact Hb.out | with_reducible exact bl_drew1 Hb.out | with_reducible exact bl_alloc Hb.out _ | with_reducible exact bl_drew1 (bl_alloc Hb.out _)) Bn); (first | (with_reducible have Z := PCell.step (by first | with_reducible exact Z) Bn) | (with_reducible have Z := PCell.zE Bn) | (with_reducible have Z := PCell.zD Bn) | (with_reducible have Z := PCell.zS Bn) | skip); clear Bn; (try (have zc0 := Z.c0; have zc1 := Z.c1; have zf0 := Z.f0; have zf1 := Z.f1; have zl := Z.lt)); have lO0 := O0.lt; have lO1 := O1.lt; have lOc := Oc.lt) | (go_at_call 21; with_reducible refine (implBNear _ _ _ _ _ _ _).mono ?_; rintro e wn ⟨rfl, Bn⟩; have O0 := BCell.step (by first | with_reducible exact O0 | with_reducible exact O0.drew | with_reducible exact O0.alloc _ | with_reducible exact (O0.alloc _).drew) Bn; have O1 := PCell.step (by first | with_reducible exact O1 | with_reducible exact O1.drew | with_reducible exact O1.alloc _ | with_reducible exact (O1.alloc _).drew) Bn; have Oc := PCell.step (by first | with_reducible exact Oc | with_reducible exact Oc.drew | with_reducible exact Oc.alloc _ | with_reducible exact (Oc.alloc _).drew) Bn; have Hb := Lib.hid (bl_trans (by first | with_reducible exact Hb.out | with_reducible exact bl_drew1 Hb.out | with_reducible exact bl_alloc Hb.out _ | with_reducible exact bl_drew1 (bl_alloc Hb.out _)) Bn); (first | (with_reducible have Z := PCell.step (by first | with_reducible exact Z) Bn) | (with_reducible have Z := PCell.zE Bn) | (with_reducible have Z := PCell.zD Bn) | (with_reducible have Z := PCell.zS Bn) | skip); clear Bn; (try (have zc0 := Z.c0; have zc1 := Z.c1; have zf0 := Z.f0; have zf1 := Z.f1; have zl := Z.lt)); have lO0 := O0.lt; have lO1 := O1.lt; have lOc := Oc.lt))
      all_goals
        go_wp2_with fail
        go_meet
        exact ⟨_, rfl, rfl, (by first | with_reducible exact PCell.new _ _ _ _ _ rfl | exact (Z.set0 _).set1 _), (by repeat (first | with_reducible exact Oc | with_reducible refine PCell.far ?_ (by omega) _ _ | with_reducible refine PCell.alloc ?_ _ | with_reducible refine PCell.drew ?_)), (by repeat (first | with_reducible exact Hb.out | with_reducible refine bl_set ?_ _ _ _ (by omega) | with_reducible refine bl_alloc ?_ _ | with_reducible refine bl_drew1 ?_))⟩
    case rest =>
      obtain ⟨c, rfl, rfl, Od, Oe, H⟩ := hcut
      have H9 := Lib.hid H
      clear H O0 O1 Oc Hb lO0 lO1 lOc
      have i0 := Od.c0
      have j0 := Oe.c0
      have i1 := Od.c1
      have j1 := Oe.c1
      go_wp2_with fail
      refine (eqVec_same _ _ _).mono ?_
      rintro e w4 ⟨rfl, B4⟩
      have H4 := Lib.hid (bl_trans H9.out B4)
      clear B4
      go_wp2
      go_ret
      exact ⟨rfl, H4.out⟩

end Go.Proofs.Ytkkifikdnjajjab
