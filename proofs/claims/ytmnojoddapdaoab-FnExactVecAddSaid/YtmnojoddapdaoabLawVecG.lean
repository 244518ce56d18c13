/-
  The walk of the exact law of the sum of vectors.
-/
import Derived.Test.YtmnojoddapdaoabLawVecE
namespace Go.Proofs.Ytmnojoddapdaoab
open Go.RowKit
open M

/-- A vector variable that has just been made. -/
structure Zat (w : World) (b : Nat) : Prop where
  at0 : VecAt w b 0 0
  f0 : w.frozen? ⟨b, 0, none⟩ = false
  f1 : w.frozen? ⟨b, 1, none⟩ = false
theorem Zat.step {W w' : World} {b : Nat} (h : Zat W b) (B : Below W.heap.size W w') : Zat w' b :=
  ⟨h.at0.step B, (B.frozen (p := ⟨b, 0, none⟩) h.at0.lt).trans h.f0, (B.frozen (p := ⟨b, 1, none⟩) h.at0.lt).trans h.f1⟩
theorem Zat.new (W : World) (t : TypeId) : Zat (W.alloc (.cells #[.int .i64 0, .int .i64 0] t)) W.heap.size :=
  ⟨VecAt.new _ _ _ _ _ rfl, by rw [frozen?_alloc_cells]; simp [World.frozen?], by rw [frozen?_alloc_cells]; simp [World.frozen?]⟩
theorem Zat.newS {W w' : World} {t : TypeId} (B : Below (W.alloc (.cells #[.int .i64 0, .int .i64 0] t)).heap.size (W.alloc (.cells #[.int .i64 0, .int .i64 0] t)) w') : Zat w' W.heap.size := (Zat.new W t).step B
theorem Zat.newK {W w' : World} {t : TypeId} (B : Below (W.alloc (.cells #[.int .i64 0, .int .i64 0] t)).drew.heap.size (W.alloc (.cells #[.int .i64 0, .int .i64 0] t)).drew w') : Zat w' W.heap.size :=
  Zat.step (W := (W.alloc (.cells #[.int .i64 0, .int .i64 0] t)).drew) ⟨(Zat.new W t).at0.drew, (Zat.new W t).f0, (Zat.new W t).f1⟩ B
theorem Zat.newK2 {w w' : World} {a b : Obj} {t : TypeId} (B : Below (((w.alloc a).alloc b).alloc (.cells #[.int .i64 0, .int .i64 0] t)).drew.heap.size (((w.alloc a).alloc b).alloc (.cells #[.int .i64 0, .int .i64 0] t)).drew w') : Zat w' (w.heap.size + 1 + 1) := by
  have := Zat.newK B
  simpa using this
theorem Zat.set {w : World} {b : Nat} (h : Zat w b) (x y : Int) : VecAt ((w.setCell ⟨b, 0, none⟩ (.int .i64 x)).setCell ⟨b, 1, none⟩ (.int .i64 y)) b x y :=
  ⟨(World.cell?_setCell_other _ ⟨b, 1, none⟩ ⟨b, 0, none⟩ _ (by simp)).trans (World.cell?_setCell_same w _ _ h.at0.c0),
    World.cell?_setCell_same _ _ _ ((World.cell?_setCell_other w ⟨b, 0, none⟩ ⟨b, 1, none⟩ _ (by simp)).trans h.at0.c1), by have := h.at0.lt; simpa [World.setCell] using this⟩
theorem VecAt.far {w : World} {b c : Nat} {x y : Int} (h : VecAt w b x y) (hne : c ≠ b) (v0 v1 : Value) : VecAt ((w.setCell ⟨c, 0, none⟩ v0).setCell ⟨c, 1, none⟩ v1) b x y :=
  ⟨(World.cell?_setCell_far _ ⟨c, 1, none⟩ ⟨b, 0, none⟩ _ hne).trans ((World.cell?_setCell_far w ⟨c, 0, none⟩ ⟨b, 0, none⟩ _ hne).trans h.c0),
    (World.cell?_setCell_far _ ⟨c, 1, none⟩ ⟨b, 1, none⟩ _ hne).trans ((World.cell?_setCell_far w ⟨c, 0, none⟩ ⟨b, 1, none⟩ _ hne).trans h.c1), by have := h.lt; simpa [World.setCell] using this⟩
/-- Between the two calls: the first answer is in a variable of its own. -/
def AddMid (w : World) (x y u v : Int) (p q : Value) (W : World) : Prop :=
  ∃ b : Nat, w.heap.size + 1 < b ∧ p = .pointer (some ⟨b, 0, none⟩) ∧ q = .bool (vaB x y u v) ∧ VecAt W b (vaX x y u v) (vaY x y u v) ∧ VecAt W w.heap.size x y ∧ VecAt W (w.heap.size + 1) u v ∧ Below w.heap.size w W
/-- Behind both calls: both answers are in variables. -/
def AddEnd (w : World) (b : Nat) (x y u v : Int) (p q : Value) (W : World) : Prop :=
  ∃ c : Nat, p = .pointer (some ⟨c, 0, none⟩) ∧ q = .bool (vaB x y u v) ∧ VecAt W c (vaX x y u v) (vaY x y u v) ∧ VecAt W b (vaX x y u v) (vaY x y u v) ∧ Below w.heap.size w W

set_option maxHeartbeats 4000000 in
theorem walk_FnExactVecAdd (x y u v : Int) (w : World) : Calls Try.prog 8 #[vec x y, vec u v] w fun e w' => e = .returned (.bool true) ∧ Below w.heap.size w w' := by
  go_enter Try.func8, Try.ntmps8
  have Va : VecAt ((w.alloc (.cells #[.int .i64 x, .int .i64 y] 36)).alloc (.cells #[.int .i64 u, .int .i64 v] 36)) w.heap.size x y := (VecAt.new _ _ x y _ rfl).alloc _
  have Vb : VecAt ((w.alloc (.cells #[.int .i64 x, .int .i64 y] 36)).alloc (.cells #[.int .i64 u, .int .i64 v] 36)) (w.heap.size + 1) u v := VecAt.new _ _ u v _ (by simp)
  have Hb := Lib.hid (bl_alloc (bl_alloc (bl_refl w) (.cells #[.int .i64 x, .int .i64 y] 36)) (.cells #[.int .i64 u, .int .i64 v] 36))
  go_upto_region 1 with fail
  go_cut [5, 6] (AddMid w x y u v)
  case first =>
    go_region_with (first | (go_at_call 24; refine (toVec_any _ _ _).mono ?_; rintro e w1 ⟨rfl, B1⟩; have Va : VecAt w1 (w.heap.size) x y := (by first | exact Va.keep B1 | exact Va.step B1 | exact (Va.alloc _).step B1 | exact (Va.alloc _).keep B1); have Vb : VecAt w1 (w.heap.size + 1) u v := (by first | exact Vb.keep B1 | exact Vb.step B1 | exact (Vb.alloc _).step B1 | exact (Vb.alloc _).keep B1); have Hb := Lib.hid (show Below w.heap.size w w1 from (by first | exact bl_keep Hb.out B1 | exact bl_trans Hb.out B1 | exact bl_trans (bl_alloc Hb.out _) B1 | exact bl_keep (bl_alloc Hb.out _) B1)); (first | (have Vz := Zat.step Vz B1) | (have Vz := Zat.newK2 B1) | (have Vz := Zat.newS B1) | (have Vz := Zat.newK B1) | skip); clear B1; have cVa := Va.c0; have dVa := Va.c1; have lVa := Va.lt; have cVb := Vb.c0; have dVb := Vb.c1; have lVb := Vb.lt; (try (have z0 := Vz.at0.c0; have z1 := Vz.at0.c1; have zl := Vz.at0.lt; have z2 := Vz.f0; have z3 := Vz.f1))) | (go_at_call 25; refine (specVAdd _ _ _ _ _).mono ?_; rintro e w1 ⟨rfl, B1⟩; have Va : VecAt w1 (w.heap.size) x y := (by first | exact Va.keep B1 | exact Va.step B1 | exact (Va.alloc _).step B1 | exact (Va.alloc _).keep B1); have Vb : VecAt w1 (w.heap.size + 1) u v := (by first | exact Vb.keep B1 | exact Vb.step B1 | exact (Vb.alloc _).step B1 | exact (Vb.alloc _).keep B1); have Hb := Lib.hid (show Below w.heap.size w w1 from (by first | exact bl_keep Hb.out B1 | exact bl_trans Hb.out B1 | exact bl_trans (bl_alloc Hb.out _) B1 | exact bl_keep (bl_alloc Hb.out _) B1)); (first | (have Vz := Zat.step Vz B1) | (have Vz := Zat.newK2 B1) | (have Vz := Zat.newS B1) | (have Vz := Zat.newK B1) | skip); clear B1; have cVa := Va.c0; have dVa := Va.c1; have lVa := Va.lt; have cVb := Vb.c0; have dVb := Vb.c1; have lVb := Vb.lt; (try (have z0 := Vz.at0.c0; have z1 := Vz.at0.c1; have zl := Vz.at0.lt; have z2 := Vz.f0; have z3 := Vz.f1))))
    all_goals
      go_wp2_with fail
      go_meet
      exact ⟨_, (by omega), rfl, rfl, (by first | exact VecAt.new _ _ _ _ _ rfl | exact Zat.set Vz _ _), (by first | exact Va.alloc _ | exact Va.far (by omega) _ _), (by first | exact Vb.alloc _ | exact Vb.far (by omega) _ _), (by first | exact bl_alloc Hb.out _ | exact bl_set (bl_set Hb.out _ _ _ (by omega)) _ _ _ (by omega))⟩
  case rest =>
    obtain ⟨b, hb, rfl, rfl, Vc, Va, Vb, H⟩ := hcut
    have Hb := Lib.hid H
    clear H
    have cVa := Va.c0
    have dVa := Va.c1
    have lVa := Va.lt
    have cVb := Vb.c0
    have dVb := Vb.c1
    have lVb := Vb.lt
    have cVc := Vc.c0
    have dVc := Vc.c1
    have lVc := Vc.lt
    go_upto_region 2 with fail
    go_cut [7, 8] (AddEnd w b x y u v)
    case first =>
      go_region_with (first | (go_at_call 24; refine (toVec_any _ _ _).mono ?_; rintro e w1 ⟨rfl, B1⟩; have Va : VecAt w1 (w.heap.size) x y := (by first | exact Va.keep B1 | exact Va.step B1 | exact (Va.alloc _).step B1 | exact (Va.alloc _).keep B1); have Vb : VecAt w1 (w.heap.size + 1) u v := (by first | exact Vb.keep B1 | exact Vb.step B1 | exact (Vb.alloc _).step B1 | exact (Vb.alloc _).keep B1); have Vc : VecAt w1 b (vaX x y u v) (vaY x y u v) := (by first | exact Vc.keep B1 | exact Vc.step B1 | exact (Vc.alloc _).step B1 | exact (Vc.alloc _).keep B1); have Hb := Lib.hid (show Below w.heap.size w w1 from (by first | exact bl_keep Hb.out B1 | exact bl_trans Hb.out B1 | exact bl_trans (bl_alloc Hb.out _) B1 | exact bl_keep (bl_alloc Hb.out _) B1)); (first | (have Vz := Zat.step Vz B1) | (have Vz := Zat.newK2 B1) | (have Vz := Zat.newS B1) | (have Vz := Zat.newK B1) | skip); clear B1; have cVa := Va.c0; have dVa := Va.c1; have lVa := Va.lt; have cVb := Vb.c0; have dVb := Vb.c1; have lVb := Vb.lt; have cVc := Vc.c0; have dVc := Vc.c1; have lVc := Vc.lt; (try (have z0 := Vz.at0.c0; have z1 := Vz.at0.c1; have zl := Vz.at0.lt; have z2 := Vz.f0; have z3 := Vz.f1))) | (go_at_call 19; refine (implVAdd _ _ _ _ _).mono ?_; rintro e w1 ⟨rfl, B1⟩; have Va : VecAt w1 (w.heap.size) x y := (by first | exact Va.keep B1 | exact Va.step B1 | exact (Va.alloc _).step B1 | exact (Va.alloc _).keep B1); have Vb : VecAt w1 (w.heap.size + 1) u v := (by first | exact Vb.keep B1 | exact Vb.step B1 | exact (Vb.alloc _).step B1 | exact (Vb.alloc _).keep B1); have Vc : VecAt w1 b (vaX x y u v) (vaY x y u v) := (by first | exact Vc.keep B1 | exact Vc.step B1 | exact (Vc.alloc _).step B1 | exact (Vc.alloc _).keep B1); have Hb := Lib.hid (show Below w.heap.size w w1 from (by first | exact bl_keep Hb.out B1 | exact bl_trans Hb.out B1 | exact bl_trans (bl_alloc Hb.out _) B1 | exact bl_keep (bl_alloc Hb.out _) B1)); (first | (have Vz := Zat.step Vz B1) | (have Vz := Zat.newK2 B1) | (have Vz := Zat.newS B1) | (have Vz := Zat.newK B1) | skip); clear B1; have cVa := Va.c0; have dVa := Va.c1; have lVa := Va.lt; have cVb := Vb.c0; have dVb := Vb.c1; have lVb := Vb.lt; have cVc := Vc.c0; have dVc := Vc.c1; have lVc := Vc.lt; (try (have z0 := Vz.at0.c0; have z1 := Vz.at0.c1; have zl := Vz.at0.lt; have z2 := Vz.f0; have z3 := Vz.f1))))
      all_goals
        go_wp2_with fail
        go_meet
        exact ⟨_, rfl, rfl, (by first | exact VecAt.new _ _ _ _ _ rfl | exact Zat.set Vz _ _), (by first | exact Vc.alloc _ | exact Vc.far (by omega) _ _), (by first | exact bl_alloc Hb.out _ | exact bl_set (bl_set Hb.out _ _ _ (by omega)) _ _ _ (by omega))⟩
    case rest =>
      obtain ⟨c, rfl, rfl, Vd, Ve, H⟩ := hcut
      have H9 := Lib.hid H
      clear H Va Vb Vc Hb
      have i1 := Vd.c0
      have i2 := Vd.c1
      have i3 := Ve.c0
      have i4 := Ve.c1
      go_wp2_with fail
      refine (eqVec_same _ _ _).mono ?_
      rintro e w9 ⟨rfl, B9⟩
      have H10 := Lib.hid (bl_trans H9.out B9)
      clear B9
      go_wp2
      go_ret
      exact ⟨rfl, H10.out⟩

end Go.Proofs.Ytmnojoddapdaoab
