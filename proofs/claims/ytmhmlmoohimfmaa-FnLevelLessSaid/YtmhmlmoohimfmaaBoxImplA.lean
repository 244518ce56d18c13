/-
  What the program's own helpers of chapter 3 return, at every argument: the contracts.
-/
import Derived.Test.YtmhmlmoohimfmaaBoxCell
import Derived.Test.YtmhmlmoohimfmaaVecImplC
import Derived.Deep.DeepCutAuto
import Derived.BigQuiet
import Derived.Deep.QuietTactic
namespace Go.Proofs.Ytmhmlmoohimfmaa
open Go.RowKit
open M

theorem implCoords (x y : Int) (w : World) : Calls Try.prog 68 #[vec x y] w fun e w' => e = .returned (vec x y) ∧ Below w.heap.size w w' := by
  go_enter Try.func68, Try.ntmps68
  go_wp2
  exact bodyPost_ret (v := vec x y) (by simp [results, Try.results68, go_sem]) rfl ⟨rfl, by repeat (first | exact bl_refl _ | refine bl_alloc ?_ _ | refine bl_set ?_ _ _ _ (by simp))⟩

theorem implPoint (x y : Int) (w : World) : Calls Try.prog 76 #[vec x y] w fun e w' => e = .returned (vec x y) ∧ Below w.heap.size w w' := by
  go_enter Try.func76, Try.ntmps76
  go_wp2
  exact bodyPost_ret (v := vec x y) (by simp [results, Try.results76, go_sem]) rfl ⟨rfl, by repeat (first | exact bl_refl _ | refine bl_alloc ?_ _ | refine bl_set ?_ _ _ _ (by simp))⟩

theorem pc_two {W : World} {b : Nat} {x y : Int} (h : PCell W b x y) : W.cell? ⟨b, 0, none⟩ = some (.int .i64 x) ∧ W.cell? ⟨b, 1, none⟩ = some (.int .i64 y) := ⟨h.c0, h.c1⟩
theorem bc_four {W : World} {b : Nat} {p q s t : Int} (h : BCell W b p q s t) : W.cell? ⟨b, 0, none⟩ = some (.int .i64 p) ∧ W.cell? ⟨b, 1, none⟩ = some (.int .i64 q) ∧ W.cell? ⟨b, 2, none⟩ = some (.int .i64 s) ∧ W.cell? ⟨b, 3, none⟩ = some (.int .i64 t) := ⟨h.c0, h.c1, h.c2, h.c3⟩

set_option maxHeartbeats 1000000 in
theorem implCorners (a b c d : Int) (w : World) : Calls Try.prog 49 #[box a b c d] w fun e w' => e = .returned (box a b c d) ∧ Below w.heap.size w w' := by
  have O0 : BCell ((w.alloc (.cells #[.int .i64 a, .int .i64 b, .int .i64 c, .int .i64 d] 27)).alloc (.cells #[.int .i64 0, .int .i64 0, .int .i64 0, .int .i64 0] 71)) w.heap.size a b c d := (BCell.new w w.heap.size a b c d _ rfl).alloc _
  have O1 : BCell ((w.alloc (.cells #[.int .i64 a, .int .i64 b, .int .i64 c, .int .i64 d] 27)).alloc (.cells #[.int .i64 0, .int .i64 0, .int .i64 0, .int .i64 0] 71)) (w.heap.size + 1) 0 0 0 0 := BCell.new _ (w.heap.size + 1) 0 0 0 0 _ (by simp)
  have Hb := Lib.hid (show Below w.heap.size w ((w.alloc (.cells #[.int .i64 a, .int .i64 b, .int .i64 c, .int .i64 d] 27)).alloc (.cells #[.int .i64 0, .int .i64 0, .int .i64 0, .int .i64 0] 71)) from bl_alloc (bl_alloc (bl_refl w) _) _)
  go_enter Try.func49, Try.ntmps49
  go_upto_region 1 with fail
  go_region_held3 (fun w' => w'.cell? ⟨w.heap.size, 0, none⟩ = some (.int .i64 a) ∧ w'.cell? ⟨w.heap.size, 1, none⟩ = some (.int .i64 b) ∧ w'.cell? ⟨w.heap.size, 2, none⟩ = some (.int .i64 c) ∧ w'.cell? ⟨w.heap.size, 3, none⟩ = some (.int .i64 d))
    (exact bc_four (by repeat (first | with_reducible exact O0 | with_reducible refine BCell.far ?_ (by omega) _ _ | with_reducible refine BCell.alloc ?_ _ | with_reducible refine BCell.drew ?_)))
    ((go_at_call 68; (with_reducible refine (implCoords _ _ _).mono ?_); rintro e wn ⟨rfl, Bn⟩; have O0 := BCell.step (by first | with_reducible exact O0 | with_reducible exact O0.drew) Bn; have O1 := BCell.step (by first | with_reducible exact O1 | with_reducible exact O1.drew) Bn; have Hb := Lib.hid (bl_trans (by first | with_reducible exact Hb.out | with_reducible exact bl_drew1 Hb.out) Bn); clear Bn; have dc0 := O1.c0; have dc1 := O1.c1; have dc2 := O1.c2; have dc3 := O1.c3; have df0 := O1.f0; have df1 := O1.f1; have df2 := O1.f2; have df3 := O1.f3; have dl := O1.lt))
  all_goals
    go_wp2
    exact bodyPost_ret (v := box a b c d) (by simp [results, Try.results49, go_sem, O1.c0, O1.c1, O1.c2, O1.c3]) rfl ⟨rfl, by repeat (first | with_reducible exact Hb.out | with_reducible refine bl_set ?_ _ _ _ (by omega) | with_reducible refine bl_alloc ?_ _ | with_reducible refine bl_drew1 ?_)⟩

/-- Neither coordinate of the first corner is greater. -/
def orB (a b c d : Int) : Bool := decide (a ≤ c) && decide (b ≤ d)
theorem or_yes {a b c d : Int} (h : a ≤ c) (g : b ≤ d) : orB a b c d = true := by simp [orB, h, g]
theorem or_no1 {a b c d : Int} (h : c < a) : orB a b c d = false := by
  have : ¬ a ≤ c := by omega
  simp [orB, this]
theorem or_no2 {a b c d : Int} (h : d < b) : orB a b c d = false := by
  have : ¬ b ≤ d := by omega
  simp [orB, this]

/-- At a round's head. -/
def OrdRel (a b c d : Int) (i : Value) : Prop := i = .int .i64 0 ∨ (i = .int .i64 1 ∧ a ≤ c) ∨ (i = .int .i64 2 ∧ a ≤ c ∧ b ≤ d)

set_option maxHeartbeats 1000000 in
theorem implOrdered (a b c d : Int) (w : World) : Calls Try.prog 64 #[box a b c d] w fun e w' => e = .returned (.bool (orB a b c d)) ∧ Below w.heap.size w w' := by
  have O0 : BCell (w.alloc (.cells #[.int .i64 a, .int .i64 b, .int .i64 c, .int .i64 d] 71)) w.heap.size a b c d := BCell.new w w.heap.size a b c d _ rfl
  have Hb := Lib.hid (show Below w.heap.size w (w.alloc (.cells #[.int .i64 a, .int .i64 b, .int .i64 c, .int .i64 d] 71)) from bl_alloc (bl_refl w) _)
  have i0 : ∀ w : World, (Instr.index 69 (.agg #[.int .i64 a, .int .i64 b]) (.int .i64 0)).run Try.prog w = .ok (.int .i64 a) w := fun _ => by kernel_rfl
  have i1 : ∀ w : World, (Instr.index 69 (.agg #[.int .i64 a, .int .i64 b]) (.int .i64 1)).run Try.prog w = .ok (.int .i64 b) w := fun _ => by kernel_rfl
  go_enter Try.func64, Try.ntmps64
  go_wp2
  go_loop [7] (OrdRel a b c d) (fun i => 2 - (intOf i).toNat)
  case atStart => exact Or.inl rfl
  case round =>
    rcases hrel with rfl | ⟨rfl, h⟩ | ⟨rfl, h, g⟩
    · by_cases h : a ≤ c
      · go_wp2
        go_round
        case rel => exact Or.inr (Or.inl ⟨by go_num, h⟩)
        case measure => simp [intOf]
      · have h' : c < a := by omega
        have E := Lib.hid (or_no1 (b := b) (d := d) h')
        go_wp2
        go_ret
        exact ⟨ret_b (by rw [E.out]), Hb.out⟩
    · by_cases g : b ≤ d
      · go_wp2
        go_round
        case rel => exact Or.inr (Or.inr ⟨by go_num, h, g⟩)
        case measure => simp [intOf]
      · have g' : d < b := by omega
        have E := Lib.hid (or_no2 (a := a) (c := c) g')
        go_wp2
        go_ret
        exact ⟨ret_b (by rw [E.out]), Hb.out⟩
    · have E := Lib.hid (or_yes h g)
      go_wp2
      go_ret
      exact ⟨ret_b (by rw [E.out]), Hb.out⟩

end Go.Proofs.Ytmhmlmoohimfmaa
