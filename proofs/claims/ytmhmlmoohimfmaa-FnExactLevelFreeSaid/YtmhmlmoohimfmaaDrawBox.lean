/-
  The points near a box that the model draws: each coordinate fits; nothing that was there before the call is written, but the reader.
-/
import Derived.Test.YtmhmlmoohimfmaaBoxCell
namespace Go.Proofs.Ytmhmlmoohimfmaa
open Go.RowKit

/-- A point drawn near a box. -/
def NearDrawn (B : Nat) (r : Nat) (k : Int) (w : World) (e : Ending) (w' : World) : Prop :=
  ∃ x y : Int, (-1100000 ≤ x ∧ x ≤ 1100000) ∧ (-1100000 ≤ y ∧ y ≤ 1100000) ∧ e = .returned (vec x y) ∧ RdU B w' r (k + 9) ∧ Kept r w w'
/-- A coordinate near a side, as the walk spells it. -/
def near1 (a p : Int) : Int := IntKind.i64.wrap (IntKind.i64.wrap (a - 1000) + IntKind.i64.wrap (p * 100))
theorem near1_bd {a p : Int} (a1 : -1000001 ≤ a) (a2 : a ≤ 1000001) (p0 : 0 ≤ p) (p1 : p < 70) : -1100000 ≤ near1 a p ∧ near1 a p ≤ 1100000 := by
  unfold near1
  rw [IntWalk.i64_in (a - 1000) (by omega), IntWalk.i64_in (p * 100) (by omega), IntWalk.i64_in (a - 1000 + p * 100) (by omega)]
  omega

set_option maxHeartbeats 4000000 in
theorem near_drawn {B : Nat} (r : Nat) (k : Int) (a b c d : Int) (w : World) (R : RdU B w r k) (hk : k ≤ 80000) (a1 : -1000001 ≤ a) (a2 : a ≤ 1000001) (b1 : -1000001 ≤ b) (b2 : b ≤ 1000001) :
    Calls Try.prog 46 #[.pointer (some ⟨r, 0, none⟩), box a b c d] w (NearDrawn B r k w) := by
  have hr := R.here
  have hB := R.base
  have n0 : w.heap.size ≠ r := by omega
  have n1 : w.heap.size + 1 ≠ r := by omega
  go_enter Try.func46, Try.ntmps46
  go_wp2_with fail
  refine (pick_any r 4 k _ ((R.alloc _).alloc _) (by omega) (by omega) (by omega)).mono ?_
  rintro e w1 ⟨x1, ⟨p1, q1⟩, rfl, R1, K1⟩
  have P1 : BCell w1 w.heap.size a b c d := ((BCell.new w w.heap.size a b c d _ rfl).alloc _).kept K1 n0
  have D1 : PCell w1 (w.heap.size + 1) 0 0 := (PCell.new _ (w.heap.size + 1) 0 0 _ (by simp)).kept K1 n1
  have K01 := Lib.hid (((Kept.refl r w).alloc _).alloc _ |>.trans K1)
  clear K1 R
  have pl := P1.lt
  have dl := D1.lt
  have pc0 := P1.c0
  have pc1 := P1.c1
  have dc0 := D1.c0
  have dc1 := D1.c1
  have df0 := D1.f0
  have df1 := D1.f1
  by_cases c0 : x1 = 0
  · subst c0
    go_wp2_with fail
    refine (vec_drawn r (k + 1) w1 R1 (by omega)).mono ?_
    rintro e w2 ⟨x, y, ⟨e1, e2⟩, ⟨e3, e4⟩, rfl, R2, K2⟩
    have D2 := D1.kept K2 n1
    have K02 := Lib.hid (K01.out.trans K2)
    have R2' := Lib.hid R2
    clear K2 K01 R1 R2 pc0 pc1 dc0 dc1 df0 df1
    have dc0 := D2.c0
    have dc1 := D2.c1
    have df0 := D2.f0
    have df1 := D2.f1
    go_wp2
    exact bodyPost_ret (v := vec x y) (by simp [results, Try.results46, go_sem, dc0, dc1]) rfl ⟨x, y, ⟨by omega, by omega⟩, ⟨by omega, by omega⟩, rfl, ((R2'.out.set _ _ _ (by omega)).set _ _ _ (by omega)).mono (by omega), (K02.out.set _ _ _ (by omega)).set _ _ _ (by omega)⟩
  · have d0 : (x1 == 0) = false := beq_eq_false_iff_ne.2 c0
    clear c0
    go_wp2_with fail
    go_region_held3 (fun w' => w'.cell? ⟨w.heap.size, 0, none⟩ = some (.int .i64 a) ∧ w'.cell? ⟨w.heap.size, 1, none⟩ = some (.int .i64 b))
      (first | exact ⟨P3.c0, P3.c1⟩ | exact ⟨P2.c0, P2.c1⟩ | exact ⟨P1.c0, P1.c1⟩ | exact ⟨((P3.far (by omega) _ _).far (by omega) _ _).c0, ((P3.far (by omega) _ _).far (by omega) _ _).c1⟩)
      (first | (go_at_call 45; refine (pick_any _ 70 (k + 1 + 1) _ R2 (by omega) (by omega) (by omega)).mono ?_; rintro e w3 ⟨x3, ⟨s3, t3⟩, rfl, R3, K3⟩; have P3 := BCell.kept (by first | exact P2 | exact P2.drew | exact P2.alloc _ | exact P2.drew.alloc _) K3 n0; have D3 := PCell.kept (by first | exact D2 | exact D2.drew | exact D2.alloc _ | exact D2.drew.alloc _) K3 n1; have ec0 := D3.c0; have ec1 := D3.c1; have ef0 := D3.f0; have ef1 := D3.f1) | (go_at_call 45; refine (pick_any _ 70 (k + 1) _ (RdU.drew R1) (by omega) (by omega) (by omega)).mono ?_; rintro e w2 ⟨x2, ⟨s2, t2⟩, rfl, R2, K2⟩; have P2 := BCell.kept (by first | exact P1 | exact P1.drew | exact P1.alloc _ | exact P1.drew.alloc _) K2 n0; have D2 := PCell.kept (by first | exact D1 | exact D1.drew | exact D1.alloc _ | exact D1.drew.alloc _) K2 n1))
    all_goals
      have K03 := Lib.hid (K01.out.drew1.trans (K2.trans K3))
      have R3' := Lib.hid R3
      clear K01 K2 K3 R1 R2 R3
      go_wp2
      exact bodyPost_ret (v := vec (near1 a x2) (near1 b x3)) (by simp [results, Try.results46, go_sem, ec0, ec1, near1]) rfl ⟨_, _, near1_bd a1 a2 s2 t2, near1_bd b1 b2 s3 t3, rfl, ((R3'.out.set _ _ _ (by omega)).set _ _ _ (by omega)).mono (by omega), (K03.out.set _ _ _ (by omega)).set _ _ _ (by omega)⟩

end Go.Proofs.Ytmhmlmoohimfmaa
