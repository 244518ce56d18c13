/-
  What the program's own LevelHash returns, at every argument; slices.Concat of two slices of boxes.
-/
import Derived.Test.YtmhmlmoohimfmaaLevImpl
import Derived.Test.YtmhmlmoohimfmaaBoxRow
import Derived.Test.YtmhmlmoohimfmaaHashImpl
import Derived.Lib.AppendZerosOnto
import Derived.Lib.SliceRun
namespace Go.Proofs.Ytmhmlmoohimfmaa
open Go.RowKit
open M

theorem Ints.sevens (w : World) (B : Nat) (a0 a1 a2 a3 a4 a5 a6 : Int) (t : TypeId) (hB : B = w.heap.size) : Ints (w.alloc (.cells #[.int .i64 a0, .int .i64 a1, .int .i64 a2, .int .i64 a3, .int .i64 a4, .int .i64 a5, .int .i64 a6] t)) (some ⟨B, 0, none⟩) 7 [a0, a1, a2, a3, a4, a5, a6] :=
  hB ▸ ⟨rfl, fun _ => ⟨w.heap.size, 0, rfl, by simp, fun k hk => by
    match k, hk with
    | 0, _ => simp
    | 1, _ => simp
    | 2, _ => simp
    | 3, _ => simp
    | 4, _ => simp
    | 5, _ => simp
    | 6, _ => simp⟩⟩

theorem implNumbers (a b c d : Int) (w : World) : Calls Try.prog 53 #[box a b c d] w fun e w' => ∃ g, e = .returned (.slice (some ⟨g, 0, none⟩) 4 4) ∧ w.heap.size ≤ g ∧ Ints w' (some ⟨g, 0, none⟩) 4 [a, b, c, d] ∧ Below w.heap.size w w' := by
  go_enter Try.func53, Try.ntmps53
  go_wp2
  go_ret
  exact ⟨_, rfl, by omega, Ints.four _ _ _ _ _ _ _ (by simp), bl_alloc (bl_alloc (bl_refl w) _) _⟩

set_option maxRecDepth 100000 in
set_option maxHeartbeats 2000000 in
/-- slices.Grow of the nil slice: room that the call owns. -/
theorem implGrow (n : Nat) (w : World) (hn : n ≤ 1000) : Calls Try.prog 72 #[.slice none 0 0, .int .i64 (n : Int)] w fun e w' => ∃ v, e = .returned v ∧ w'.ownsRow w.heap.size 27 4 v 0 (vcl []) ∧ Below w.heap.size w w' := by
  obtain ⟨i0, hi, hz0, hz1, hz2⟩ := info_parts box_info
  by_cases h0 : n = 0
  · subst h0
    go_enter Try.func72, Try.ntmps72
    go_wp2
    go_ret
    exact ⟨_, rfl, World.ownsRow_nil _ _ _ _, bl_refl w⟩
  have h1 : (0 : Int) < (n : Int) := by omega
  have hrz : ∀ ty, (Builtin.append_ #[25, 3] ty #[.slice none 0 0, .int .i64 (n : Int)]).run Try.prog w =
      .ok (.slice (some ⟨w.heap.size, 0, none⟩) n (grownCap w n 0 27)) (w.drew.alloc (.cells (Builtin.zeroCells (box 0 0 0 0).cells n ++ Builtin.zeroCells (box 0 0 0 0).cells (grownCap w n 0 27 - n)) 27)) := fun ty => by
    have h := Lib.run_append_grow_zeros (P := Try.prog) w 25 3 ty 27 i0 (box 0 0 0 0) .i64 .i64 Try.underlying25 Try.underlying3 hi hz0 none 0 0 [] (run_firstCells_none w.drew i0.size 0 0 0) n (by omega) (by omega) (by omega) (by omega) (by rw [hz2]; omega)
      (growslice_fits (need := 0 + n) (old := 0) (by omega) (by rw [hz2]; omega))
    simpa using h
  have hGn : n ≤ grownCap w n 0 27 := grownCap_ge w _ _ _
  have hG63 : grownCap w n 0 27 ≤ maxLen := grownCap_le_maxLen w n 0 27 (by unfold maxLen; omega)
  obtain ⟨G, hG⟩ : ∃ G, G = grownCap w n 0 27 := ⟨_, rfl⟩
  rw [← hG] at hrz hGn hG63
  have hG64 : G ≤ 9223372036854775807 := by unfold maxLen at hG63; omega
  clear hG
  go_enter Try.func72, Try.ntmps72
  go_wp2_with (at_builtin; refine Lib.wpList_append_run _ rfl _ _ _ _ rfl _ _ rfl rfl _ _ (hrz _) ?_)
  all_goals
    go_ret
    refine ⟨_, rfl, ⟨by simp [vcl, flat], .inr ⟨w.heap.size, G, _, rfl, Nat.le_refl _, heap_alloc_new w.drew _, Nat.zero_le _, hG63, ?_, by simp [vcl, flat]⟩⟩, ?_⟩
    · simp [size_zeroCells]
      omega
    · exact bl_alloc (bl_drew1 (bl_refl w)) _

/-- At a round's head of the second loop. -/
def CatRel (w : World) (n m : Nat) (ws gs : List Bx) (v _s i : Value) (W : World) : Prop :=
  ((i = .int .i64 0 ∧ W.ownsRow w.heap.size 27 4 v 0 (vcl [])) ∨ (i = .int .i64 1 ∧ W.ownsRow w.heap.size 27 4 v n (vcl ws)) ∨ (i = .int .i64 2 ∧ W.ownsRow w.heap.size 27 4 v (n + m) (vcl (ws ++ gs)))) ∧ Below w.heap.size w W

set_option maxRecDepth 100000 in
set_option maxHeartbeats 2000000 in
theorem implConcat (sb : Nat) (A : Option Addr) (n c : Nat) (G : Option Addr) (m k : Nat) (ws gs : List Bx) (w : World) (S : CellsAt w sb [.slice A n c, .slice G m k]) (I : Boxes w A n ws) (J : Boxes w G m gs) (hn : n ≤ 100) (hm : m ≤ 100) :
    Calls Try.prog 52 #[.slice (some ⟨sb, 0, none⟩) 2 2] w fun e w' => ∃ D cap, e = .returned (.slice D (n + m) cap) ∧ Boxes w' D (n + m) (ws ++ gs) ∧ (∀ g off, D = some ⟨g, off, none⟩ → w.heap.size ≤ g) ∧ Below w.heap.size w w' := by
  have I := Lib.hid I
  have J := Lib.hid J
  have s0 := S.cell 0 _ rfl
  have s1 := S.cell 1 _ rfl
  have sl := S.lt
  have S := Lib.hid S
  go_enter Try.func52, Try.ntmps52
  go_wp2
  go_loop [3, 5, 11] (fun sz _ i => (i = .int .i64 0 ∧ sz = .int .i64 0) ∨ (i = .int .i64 1 ∧ sz = .int .i64 n) ∨ (i = .int .i64 2 ∧ sz = .int .i64 ((n : Int) + (m : Int)))) (fun _ _ i => 2 - (intOf i).toNat)
  case atStart => exact .inl ⟨rfl, rfl⟩
  case round =>
    rcases hrel with ⟨rfl, rfl⟩ | ⟨rfl, rfl⟩ | ⟨rfl, rfl⟩
    · go_wp2
      go_round
      case rel => exact .inr (.inl ⟨rfl, by simp⟩)
      case measure => simp [intOf]
    · go_wp2
      go_round
      case rel => exact .inr (.inr ⟨rfl, by go_num⟩)
      case measure => simp [intOf]
    · go_wp2_with fail
      rw [show ((n : Int) + (m : Int)) = ((n + m : Nat) : Int) from by omega]
      refine (implGrow (n + m) _ (by omega)).mono ?_
      rintro e w1 ⟨v, rfl, O1, B1⟩
      clear s0 s1
      have B1 := Lib.hid B1
      have O1 := Lib.hid O1
      go_wp2
      go_loopw [6, 8, 27] (CatRel w n m ws gs) (fun _ _ i _ => 2 - (intOf i).toNat)
      case atStart => exact ⟨.inl ⟨rfl, O1.out⟩, B1.out⟩
      case round =>
        clear B1 O1
        obtain ⟨hc, B⟩ := hrel
        have S2 := S.out.step B
        have s0 := S2.cell 0 _ rfl
        have s1 := S2.cell 1 _ rfl
        have sl := S2.lt
        have I2 := Lib.hid (I.out.step B)
        have J2 := Lib.hid (J.out.step B)
        have hsz := Lib.hid B.size
        have B := Lib.hid B
        rcases hc with ⟨rfl, O⟩ | ⟨rfl, O⟩ | ⟨rfl, O⟩
        · have hb := fun g e => (O.lt g e).1
          have O := Lib.hid O
          go_wp2_with (at_builtin; refine append_boxes _ rfl _ _ rfl w.heap.size _ 0 [] rfl O.out A n c ws rfl I2.out (by omega) hsz.out ?_)
          intro v' w6 O6 G6 _
          have H6 := Lib.hid (B.out.grown G6 hsz.out hb)
          have O6 := Lib.hid O6
          go_wp2
          go_roundw
          case rel => exact ⟨.inr (.inl ⟨rfl, by simpa using O6.out⟩), H6.out⟩
          case measure => simp [intOf]
        · have hb := fun g e => (O.lt g e).1
          have O := Lib.hid O
          go_wp2_with (at_builtin; refine append_boxes _ rfl _ _ rfl w.heap.size _ n ws rfl O.out G m k gs rfl J2.out (by omega) hsz.out ?_)
          intro v' w6 O6 G6 _
          have H6 := Lib.hid (B.out.grown G6 hsz.out hb)
          have O6 := Lib.hid O6
          go_wp2
          go_roundw
          case rel => exact ⟨.inr (.inr ⟨rfl, O6.out⟩), H6.out⟩
          case measure => simp [intOf]
        · obtain ⟨D, cap, rfl, K, hD⟩ := Boxes.of_own O
          have K := Lib.hid K
          have hD := Lib.hid hD
          clear O
          go_wp2
          go_ret
          exact ⟨D, cap, rfl, K.out, hD.out, B.out⟩

end Go.Proofs.Ytmhmlmoohimfmaa
