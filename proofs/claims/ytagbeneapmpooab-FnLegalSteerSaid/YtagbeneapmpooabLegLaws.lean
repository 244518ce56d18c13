/-
  What the laws on legal runs ask of the plain functions.
-/
import Derived.Test.YtagbeneapmpooabInLegal
import Derived.Test.YtagbeneapmpooabInRow
import Derived.Test.YtagbeneapmpooabDrawAny
import Derived.OwnWalk
namespace Go.Proofs.Ytagbeneapmpooab
open Go.RowKit
open M

theorem M.il_no {i t x y : Int} {ws gs : List Bx} {fp fq fs fz b : Int} (h : lvB i t x y ws gs fp fq fs fz b = false) (xs : List In) : ilI i t x y ws gs fp fq fs fz b xs = 0 := by simp [ilI, h]
theorem M.il_yes {i t x y : Int} {ws gs : List Bx} {fp fq fs fz b : Int} (h : lvB i t x y ws gs fp fq fs fz b = true) (xs : List In) : ilI i t x y ws gs fp fq fs fz b xs = lgI t b xs := by simp [ilI, h]
theorem M.lg_ge (t b : Int) (xs : List In) : -1 ≤ lgI t b xs := by
  rcases lg_bd t b xs 0 0 0 with e | e
  · unfold lgI; omega
  · unfold lgI; omega
theorem M.lg_rolls {t : Int} (b : Int) (n : Nat) (h : 0 ≤ t) : lgI t b (List.replicate n iz) = if (n : Int) ≤ t then -1 else t := by
  have r := lg_roll t b n 0 0 (by omega) h (by omega)
  rw [Int.zero_add] at r
  exact r
theorem M.lg_one {t : Int} (b : Int) (h : 1 ≤ t) : lgI t b [⟨0, 0, false⟩] = -1 := by
  have r := lg_rolls (t := t) b 1 (by omega)
  rw [if_pos (by omega)] at r
  exact r
theorem M.fl_turn (b s0 s : Int) (h : -1 ≤ s ∧ s ≤ 1) : flB b s0 s 0 false = inB (s - s0) (-1) 1 := by
  have g : inV s 0 false = true := by
    simp [inV, inB, h.1, h.2]
  simp [flB, g]
theorem M.lg_steer1 {t : Int} (b : Int) (h : 2 ≤ t) : lgI t b [⟨1, 0, false⟩, ⟨-1, 0, false⟩] = 1 := by
  unfold lgI
  rw [lg_go (bad_ok (by omega) (by decide) (by rw [fl_turn b 0 1 (by omega)]; decide)), lg_stop (bad3 (by rw [fl_turn b 1 (-1) (by omega)]; decide))]
  rfl
theorem M.lg_steer2 {t : Int} (b : Int) (h : 2 ≤ t) : lgI t b [⟨1, 0, false⟩, ⟨0, 0, false⟩] = -1 := by
  unfold lgI
  rw [lg_go (bad_ok (by omega) (by decide) (by rw [fl_turn b 0 1 (by omega)]; decide)), lg_go (bad_ok (by omega) (by decide) (by rw [fl_turn b 1 0 (by omega)]; decide))]
  rfl
/-- The input that pauses. -/
def M.pz : In := ⟨0, 0, true⟩
theorem M.fl_pause {b : Int} (h : bnB b 2 = false) : flB b 0 0 0 true = true := by
  have g : inV 0 0 true = true := by decide
  have k : inB 0 (-1) 1 = true := by decide
  simp [flB, g, h, k]
theorem M.lg_pause3 {t b : Int} (h : bnB b 2 = false) (ht : 3 < t) : lgI t b (List.replicate 3 pz) = -1 := by
  unfold lgI
  rw [show List.replicate 3 pz = [pz, pz, pz] from rfl, lg_go (bad_ok (by omega) (by decide) (fl_pause h)), lg_go (bad_ok (by omega) (by decide) (fl_pause h)), lg_go (bad_ok (by omega) (by decide) (fl_pause h))]
  rfl
theorem M.lg_pause4 {t b : Int} (h : bnB b 2 = false) (ht : 3 < t) : lgI t b (List.replicate 4 pz) = 3 := by
  unfold lgI
  rw [show List.replicate 4 pz = [pz, pz, pz, pz] from rfl, lg_go (bad_ok (by omega) (by decide) (fl_pause h)), lg_go (bad_ok (by omega) (by decide) (fl_pause h)), lg_go (bad_ok (by omega) (by decide) (fl_pause h)), lg_stop (bad2 (by decide))]
  rfl
theorem made_at (z : Array Value) (m j : Nat) (h : j < m) : (madeCells z m).toList[j]? = some (z[j % z.size]!) := by
  simp [madeCells, h]
theorem Inputs.made {w : World} {base g n : Nat} (h : w.ownsRow base 37 3 (.slice (some ⟨g, 0, none⟩) n n) n (madeCells (inp 0 0 false).cells (n * 3)).toList) : Inputs w (some ⟨g, 0, none⟩) n (List.replicate n iz) := by
  refine ⟨by simp, fun hn => ⟨g, 0, rfl, (h.lt g rfl).2, fun k hk => ?_⟩⟩
  have e : (List.replicate n iz).getD k iz = iz := by simp [List.getD_eq_getElem?_getD, hk]
  rw [e, Nat.zero_add]
  have c : ∀ r, r < 3 → w.cell? ⟨g, k * 3 + r, none⟩ = some ((inp 0 0 false).cells[(k * 3 + r) % 3]!) := fun r hr => by
    rw [h.cellAt (k * 3 + r) (by omega), made_at _ _ _ (by omega)]
    rfl
  have c0 := c 0 (by omega)
  have c1 := c 1 (by omega)
  have c2 := c 2 (by omega)
  rw [show (k * 3 + 0) % 3 = 0 by omega] at c0
  rw [show (k * 3 + 1) % 3 = 1 by omega] at c1
  rw [show (k * 3 + 2) % 3 = 2 by omega] at c2
  exact ⟨c0, c1, c2⟩

end Go.Proofs.Ytagbeneapmpooab
