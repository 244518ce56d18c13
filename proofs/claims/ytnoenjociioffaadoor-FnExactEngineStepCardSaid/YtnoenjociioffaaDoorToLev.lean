/-
  Copies of levels that an exact law makes, how it compares levels, and their size.
-/
import Derived.Test.YtnoenjociioffaaDoorLevHashImplB
import Derived.Test.YtnoenjociioffaaDoorLawBoxX
import Derived.Test.YtnoenjociioffaaDoorCelS
import Derived.OwnWalk
import Derived.Laws.OwnMore
import Derived.Deep.RegionHeld3
namespace Go.Proofs.YtnoenjociioffaaDoor
open Go.RowKit
open M

/-- A copy of boxes, made by the call. -/
def CopiedB (w : World) (n : Nat) (bs : List Bx) (e : Ending) (w' : World) : Prop :=
  e = .returned (.slice (some ⟨w.heap.size, 0, none⟩) n n) ∧ Boxes w' (some ⟨w.heap.size, 0, none⟩) n bs ∧ Below w.heap.size w w'
/-- At a round's head: the first k boxes are copied. -/
def CopyB (w : World) (n : Nat) (bs : List Bx) (i : Value) (W : World) : Prop :=
  ∃ k : Nat, k ≤ n ∧ i = .int .i64 k ∧ W.there w.heap.size 0 (n * 4) ∧ (∀ j, j < k → BoxAt W w.heap.size (j * 4) (bs.getD j bz)) ∧ w.heap.size < W.heap.size ∧ Below w.heap.size w W
theorem there_step {W w' : World} {g o n : Nat} (h : W.there g o n) (B : Below W.heap.size W w') (hg : g < W.heap.size) : w'.there g o n := fun j hj => by
  rw [B.cell (p := ⟨g, o + j, none⟩) hg, B.frozen (p := ⟨g, o + j, none⟩) hg]
  exact h j hj
theorem there_set {W : World} {g n : Nat} (h : W.there g 0 n) (o : Nat) (v : Value) : (W.setCell ⟨g, o, none⟩ v).there g 0 n := fun j hj => by
  refine ⟨?_, by rw [World.frozen?_setCell]; exact (h j hj).2⟩
  by_cases e : (0 + j) = o
  · rw [e, World.cell?_setCell_same' _ _ _ (by have := (h j hj).1; rw [e] at this; exact this)]
    rfl
  · rw [World.cell?_setCell_other _ _ _ _ (by first | (simp; done) | (simp; omega))]
    exact (h j hj).1
theorem BoxAt.other {W : World} {g o : Nat} {q : Bx} (h : BoxAt W g o q) {p : Nat} (hp : p < o ∨ o + 3 < p) (v : Value) : BoxAt (W.setCell ⟨g, p, none⟩ v) g o q :=
  ⟨(World.cell?_setCell_other _ _ _ _ (by first | (simp; done) | (simp; omega))).trans h.c0, (World.cell?_setCell_other _ _ _ _ (by first | (simp; done) | (simp; omega))).trans h.c1, (World.cell?_setCell_other _ _ _ _ (by first | (simp; done) | (simp; omega))).trans h.c2, (World.cell?_setCell_other _ _ _ _ (by first | (simp; done) | (simp; omega))).trans h.c3⟩
theorem copy_next {w W : World} {n k : Nat} {bs : List Bx} {a b c d : Int} (hk : k < n) (T : W.there w.heap.size 0 (n * 4)) (hc : ∀ j, j < k → BoxAt W w.heap.size (j * 4) (bs.getD j bz)) (hq : bs.getD k bz = ⟨a, b, c, d⟩) (hl : w.heap.size < W.heap.size) (B : Below w.heap.size w W) :
    CopyB w n bs (.int .i64 (k + 1)) ((((W.setCell ⟨w.heap.size, k * 4, none⟩ (.int .i64 a)).setCell ⟨w.heap.size, k * 4 + 1, none⟩ (.int .i64 b)).setCell ⟨w.heap.size, k * 4 + 2, none⟩ (.int .i64 c)).setCell ⟨w.heap.size, k * 4 + 3, none⟩ (.int .i64 d)) := by
  have t0 := (T (k * 4) (by omega)).1
  have t1 := (T (k * 4 + 1) (by omega)).1
  have t2 := (T (k * 4 + 2) (by omega)).1
  have t3 := (T (k * 4 + 3) (by omega)).1
  rw [Nat.zero_add] at t0 t1 t2 t3
  have s1 := there_set T (k * 4) (.int .i64 a)
  have s2 := there_set s1 (k * 4 + 1) (.int .i64 b)
  have s3 := there_set s2 (k * 4 + 2) (.int .i64 c)
  refine ⟨k + 1, by omega, by simp, there_set s3 _ _, fun j hj => ?_, by simpa [World.setCell] using hl, bl_set (bl_set (bl_set (bl_set B _ _ _ (Nat.le_refl _)) _ _ _ (Nat.le_refl _)) _ _ _ (Nat.le_refl _)) _ _ _ (Nat.le_refl _)⟩
  by_cases e : j = k
  · subst e
    rw [hq]
    refine ⟨?_, ?_, ?_, ?_⟩
    · rw [World.cell?_setCell_other _ _ _ _ (by simp), World.cell?_setCell_other _ _ _ _ (by simp), World.cell?_setCell_other _ _ _ _ (by simp)]
      exact World.cell?_setCell_same' _ _ _ t0
    · rw [World.cell?_setCell_other _ _ _ _ (by simp), World.cell?_setCell_other _ _ _ _ (by simp)]
      exact World.cell?_setCell_same' _ _ _ (by have := (s1 (j * 4 + 1) (by omega)).1; rwa [Nat.zero_add] at this)
    · rw [World.cell?_setCell_other _ _ _ _ (by simp)]
      exact World.cell?_setCell_same' _ _ _ (by have := (s2 (j * 4 + 2) (by omega)).1; rwa [Nat.zero_add] at this)
    · exact World.cell?_setCell_same' _ _ _ (by have := (s3 (j * 4 + 3) (by omega)).1; rwa [Nat.zero_add] at this)
  · exact ((((hc j (by omega)).other (by omega) _).other (by omega) _).other (by omega) _).other (by omega) _
theorem some_of {W : World} {p : Addr} (h : (W.cell? p).isSome = true) : ∃ u, W.cell? p = some u := Option.isSome_iff_exists.1 h

set_option maxHeartbeats 2000000 in
theorem toBoxS_any (A : Option Addr) (n cap : Nat) (bs : List Bx) (w : World) (I : Boxes w A n bs) (hn : n ≤ 1048576) :
    Calls Tryd.prog 67 #[.slice A n cap] w (CopiedB w n bs) := by
  obtain ⟨i0, hi, hz0, hz1, hz2⟩ := info_parts box_info
  have hl := Lib.hid I.1
  have I := Lib.hid I
  go_enter Tryd.func67, Tryd.ntmps67
  go_wp2_with (at_make; refine wpList_make_full _ rfl _ _ 25 rfl w.heap.size 27 i0 (box 0 0 0 0) 4 Tryd.underlying25 hi hz0 hz1 .i64 .i64 _ _ n rfl rfl rfl rfl (by rw [hz2]; omega) (by unfold maxLen; omega) (Nat.le_refl _) ?_)
  intro w0 O0 G0
  have T0 : w0.there w.heap.size 0 (n * 4) := fun j hj => by
    rw [Nat.zero_add]
    refine ⟨?_, O0.frozenAt j⟩
    rw [O0.cellAt j hj, List.getElem?_eq_getElem (by rw [O0.1]; exact hj)]
    rfl
  have L0 : w.heap.size < w0.heap.size := (O0.lt w.heap.size rfl).2
  have B0 : Below w.heap.size w w0 := (bl_refl w).grown G0 (Nat.le_refl _) (fun k e => by cases e)
  clear G0 O0
  go_wp2
  go_loopw [4] (CopyB w n bs) (fun i _ => n - (intOf i).toNat)
  case atStart => exact ⟨0, Nat.zero_le _, rfl, T0, fun j hj => absurd hj (by omega), L0, B0⟩
  case round =>
    obtain ⟨k, hk, rfl, T, hc, L, B⟩ := hrel
    clear T0 L0 B0
    by_cases hlt : k < n
    · obtain ⟨b, off, hA, hb, hcell⟩ := (I.out.step B).2 (by omega)
      obtain ⟨c0, c1, c2, c3⟩ := hcell k hlt
      obtain ⟨⟨za, zb, zc, zd⟩, hq⟩ : ∃ q, bs.getD k bz = q := ⟨_, rfl⟩
      rw [hq] at c0 c1 c2 c3
      simp only at c0 c1 c2 c3
      have hq := Lib.hid hq
      have T := Lib.hid T
      have hc := Lib.hid hc
      have B := Lib.hid B
      subst hA
      clear hcell
      go_wp2_with fail
      refine (toBox_any za zb zc zd _).mono ?_
      rintro e w1 ⟨rfl, B1⟩
      have T1 := Lib.hid (there_step T.out B1 L)
      have hc1 := Lib.hid (fun j hj => (hc.out j hj).of (B1.block _ L))
      have L1 := Nat.lt_of_lt_of_le L B1.size
      have H1 := Lib.hid (bl_trans B.out B1)
      clear B1 T hc B L c0 c1 c2 c3
      obtain ⟨u0, e0⟩ := some_of (T1.out (k * 4) (by omega)).1
      obtain ⟨u1, e1⟩ := some_of (T1.out (k * 4 + 1) (by omega)).1
      obtain ⟨u2, e2⟩ := some_of (T1.out (k * 4 + 2) (by omega)).1
      obtain ⟨u3, e3⟩ := some_of (T1.out (k * 4 + 3) (by omega)).1
      have f0 := (T1.out (k * 4) (by omega)).2
      have f1 := (T1.out (k * 4 + 1) (by omega)).2
      have f2 := (T1.out (k * 4 + 2) (by omega)).2
      have f3 := (T1.out (k * 4 + 3) (by omega)).2
      rw [Nat.zero_add] at e0 e1 e2 e3 f0 f1 f2 f3
      go_wp2
      go_roundw
      case rel => exact copy_next hlt T1.out hc1.out hq.out L1 H1.out
      case measure => simp [intOf]; omega
    · have J : Boxes _ (some ⟨w.heap.size, 0, none⟩) n bs := ⟨hl.out, fun _ => ⟨w.heap.size, 0, rfl, L, fun j hj => by rw [Nat.zero_add]; exact hc j (by omega)⟩⟩
      have J := Lib.hid J
      have B := Lib.hid B
      clear hc T
      go_wp2
      go_ret
      exact ⟨rfl, J.out, B.out⟩

end Go.Proofs.YtnoenjociioffaaDoor
