/-
  What the program's own helpers of chapter 3 with loops return: the contracts.
-/
import Derived.Test.YtmhmlmoohimfmaaBoxImplA
import Derived.Deep.DeepCutAuto
import Derived.BigQuiet
import Derived.Deep.QuietTactic
namespace Go.Proofs.Ytmhmlmoohimfmaa
open Go.RowKit
open M

/-- At a round's head: the arguments stand, and the common part's coordinates of the axes behind are laid. -/
def MeetRel (w : World) (a b c d p q r s : Int) (i : Value) (W : World) : Prop :=
  ∃ m0 m1 m2 m3 : Int, BCell W w.heap.size a b c d ∧ BCell W (w.heap.size + 1) p q r s ∧ BCell W (w.heap.size + 1 + 1) 0 0 0 0 ∧ BCell W (w.heap.size + 1 + 1 + 1) m0 m1 m2 m3 ∧ Below w.heap.size w W ∧
    (i = .int .i64 0 ∨ (i = .int .i64 1 ∧ m0 = max a p ∧ m2 = min c r) ∨ (i = .int .i64 2 ∧ m0 = max a p ∧ m2 = min c r ∧ m1 = max b q ∧ m3 = min d s))

/-- At a round's head: the box stands, and the nearest point's coordinates of the axes behind are laid. -/
def NearRel (w : World) (o : Nat) (a b c d x y : Int) (i : Value) (W : World) : Prop :=
  ∃ m0 m1 : Int, BCell W w.heap.size a b c d ∧ PCell W (w.heap.size + 1 + 1) 0 0 ∧ PCell W o m0 m1 ∧ Below w.heap.size w W ∧
    (i = .int .i64 0 ∨ (i = .int .i64 1 ∧ m0 = min (max x a) c) ∨ (i = .int .i64 2 ∧ m0 = min (max x a) c ∧ m1 = min (max y b) d))

set_option maxHeartbeats 2000000 in
theorem implNear0 (a b c d x y : Int) (w : World) : Calls Try.prog 69 #[box a b c d, vec x y] w fun e w' => e = .returned (vec (min (max x a) c) (min (max y b) d)) ∧ Below w.heap.size w w' := by
  have hmx := ite_max
  have hmn := ite_min
  have i0 : ∀ w : World, (Instr.index 69 (.agg #[.int .i64 x, .int .i64 y]) (.int .i64 0)).run Try.prog w = .ok (.int .i64 x) w := fun _ => by kernel_rfl
  have i1 : ∀ w : World, (Instr.index 69 (.agg #[.int .i64 x, .int .i64 y]) (.int .i64 1)).run Try.prog w = .ok (.int .i64 y) w := fun _ => by kernel_rfl
  go_enter Try.func69, Try.ntmps69
  go_wp2_with fail
  refine (implCoords _ _ _).mono ?_
  rintro e w1 ⟨rfl, B1⟩
  have P1 : BCell w1 w.heap.size a b c d := (((BCell.new w w.heap.size a b c d _ rfl).alloc _).alloc _).step B1
  have D1 : PCell w1 (w.heap.size + 1 + 1) 0 0 := (PCell.new _ (w.heap.size + 1 + 1) 0 0 _ (by simp)).step B1
  have H1 := Lib.hid (bl_trans (bl_alloc (bl_alloc (bl_alloc (bl_refl w) _) _) _) B1)
  clear B1
  have lp := P1.lt
  have ld := D1.lt
  obtain ⟨o, ho⟩ : ∃ o, o = w1.heap.size := ⟨_, rfl⟩
  have o1 : w.heap.size + 1 + 1 < o := by omega
  have ho := Lib.hid ho
  go_wp2
  go_loopw [11] (NearRel w w1.heap.size a b c d x y) (fun i _ => 2 - (intOf i).toNat)
  case atStart => exact ⟨x, y, P1.alloc _, D1.alloc _, PCell.new _ _ x y _ rfl, bl_alloc H1.out _, Or.inl rfl⟩
  case round =>
    obtain ⟨m0, m1, P, D, M, H, hi⟩ := hrel
    have Hb := Lib.hid H
    clear H P1 D1 H1
    have pc0 := P.c0
    have pc1 := P.c1
    have pc2 := P.c2
    have pc3 := P.c3
    have pf0 := P.f0
    have pf1 := P.f1
    have pf2 := P.f2
    have pf3 := P.f3
    have pl := P.lt
    have dc0 := D.c0
    have dc1 := D.c1
    have df0 := D.f0
    have df1 := D.f1
    have dl := D.lt
    have mc0 := M.c0
    have mc1 := M.c1
    have mf0 := M.f0
    have mf1 := M.f1
    have ml := M.lt
    rcases hi with rfl | ⟨rfl, e0⟩ | ⟨rfl, e0, e1⟩
    · go_wp2_with fail
      go_region_held3 (fun w' => w'.cell? ⟨w.heap.size, 0, none⟩ = some (.int .i64 a) ∧ w'.cell? ⟨w.heap.size, 1, none⟩ = some (.int .i64 b) ∧ w'.cell? ⟨w.heap.size, 2, none⟩ = some (.int .i64 c) ∧ w'.cell? ⟨w.heap.size, 3, none⟩ = some (.int .i64 d))
        (exact bc_four (by repeat (first | with_reducible exact P | with_reducible refine BCell.far ?_ (by omega) _ _ | with_reducible refine BCell.alloc ?_ _ | with_reducible refine BCell.drew ?_)))
        (fail)
      go_wp2
      go_roundw
      case rel => exact ⟨_, _, (by repeat (first | with_reducible exact P | with_reducible refine BCell.far ?_ (by omega) _ _ | with_reducible refine BCell.alloc ?_ _ | with_reducible refine BCell.drew ?_)), (by repeat (first | with_reducible exact D | with_reducible refine PCell.far ?_ (by omega) _ _ | with_reducible refine PCell.alloc ?_ _ | with_reducible refine PCell.drew ?_)), (by first | exact M.set0 _ | exact (M.set0 _).drew), (by repeat (first | with_reducible exact Hb.out | with_reducible refine bl_set ?_ _ _ _ (by omega) | with_reducible refine bl_alloc ?_ _ | with_reducible refine bl_drew1 ?_)), Or.inr (Or.inl ⟨by go_num, rfl⟩)⟩
      case measure => simp [intOf]
    · have E0 := Lib.hid e0
      clear e0
      go_wp2_with fail
      go_region_held3 (fun w' => w'.cell? ⟨w.heap.size, 0, none⟩ = some (.int .i64 a) ∧ w'.cell? ⟨w.heap.size, 1, none⟩ = some (.int .i64 b) ∧ w'.cell? ⟨w.heap.size, 2, none⟩ = some (.int .i64 c) ∧ w'.cell? ⟨w.heap.size, 3, none⟩ = some (.int .i64 d))
        (exact bc_four (by repeat (first | with_reducible exact P | with_reducible refine BCell.far ?_ (by omega) _ _ | with_reducible refine BCell.alloc ?_ _ | with_reducible refine BCell.drew ?_)))
        (fail)
      go_wp2
      go_roundw
      case rel => exact ⟨_, _, (by repeat (first | with_reducible exact P | with_reducible refine BCell.far ?_ (by omega) _ _ | with_reducible refine BCell.alloc ?_ _ | with_reducible refine BCell.drew ?_)), (by repeat (first | with_reducible exact D | with_reducible refine PCell.far ?_ (by omega) _ _ | with_reducible refine PCell.alloc ?_ _ | with_reducible refine PCell.drew ?_)), (by first | exact M.set1 _ | exact (M.set1 _).drew), (by repeat (first | with_reducible exact Hb.out | with_reducible refine bl_set ?_ _ _ _ (by omega) | with_reducible refine bl_alloc ?_ _ | with_reducible refine bl_drew1 ?_)), Or.inr (Or.inr ⟨by go_num, E0.out, rfl⟩)⟩
      case measure => simp [intOf]
    · subst e0 e1
      clear pc0 pc1 pc2 pc3 pf0 pf1 pf2 pf3 pl
      go_wp2_with fail
      refine (implPoint _ _ _).mono ?_
      rintro e w9 ⟨rfl, B9⟩
      have D9 := D.step B9
      have H9 := Lib.hid (bl_trans Hb.out B9)
      clear B9 Hb P D M dc0 dc1 df0 df1 dl mc0 mc1 mf0 mf1 ml
      have dc0 := D9.c0
      have dc1 := D9.c1
      have df0 := D9.f0
      have df1 := D9.f1
      have dl := D9.lt
      go_wp2
      exact bodyPost_ret (v := vec (min (max x a) c) (min (max y b) d)) (by simp [results, Try.results69, go_sem, dc0, dc1]) rfl ⟨rfl, by repeat (first | with_reducible exact H9.out | with_reducible refine bl_set ?_ _ _ _ (by omega) | with_reducible refine bl_alloc ?_ _ | with_reducible refine bl_drew1 ?_)⟩

end Go.Proofs.Ytmhmlmoohimfmaa
