/-
  What the model's LevelHash returns, at every argument.
-/
import Derived.Test.YtmhmlmoohimfmaaLev
import Derived.Test.YtmhmlmoohimfmaaIntRow
import Derived.BigQuiet
import Derived.Deep.QuietTactic
import Derived.Deep.RegionHeld3
namespace Go.Proofs.Ytmhmlmoohimfmaa
open Go.RowKit
open M

theorem Ints.four (w : World) (B : Nat) (a b c d : Int) (t : TypeId) (hB : B = w.heap.size) : Ints (w.alloc (.cells #[.int .i64 a, .int .i64 b, .int .i64 c, .int .i64 d] t)) (some ⟨B, 0, none⟩) 4 [a, b, c, d] :=
  hB ▸ ⟨rfl, fun _ => ⟨w.heap.size, 0, rfl, by simp, fun k hk => by
    match k, hk with
    | 0, _ => simp
    | 1, _ => simp
    | 2, _ => simp
    | 3, _ => simp⟩⟩
theorem CellsAt.grown {W w' : World} {b : Nat} {vs : List Value} {row : Option Nat} (h : CellsAt W b vs) (hg : W.grownBy w' row) (hr : row ≠ some b) : CellsAt w' b vs :=
  h.of (hg.block b h.lt (fun e => hr e.symm)) hg.size

theorem specBox4 (a b c d : Int) (w : World) : Calls Try.prog 54 #[box a b c d] w fun e w' => ∃ D, e = .returned (.slice D 4 4) ∧ Ints w' D 4 [a, b, c, d] ∧ Below w.heap.size w w' := by
  go_enter Try.func54, Try.ntmps54
  go_wp2
  go_ret
  exact ⟨_, rfl, Ints.four _ _ _ _ _ _ _ (by simp), bl_alloc (bl_alloc (bl_refl w) _) _⟩

theorem bl_grown {W W' : World} (B : Below W.heap.size W W') : W.grownBy W' Option.none := ⟨B.os, B.tape, B.output, B.size, fun k hk _ => B.block k hk⟩
theorem own_step {w w' : World} {base : Nat} {e : TypeId} {sz : Nat} {v : Value} {n : Nat} {xs : List Value} (h : w.ownsRow base e sz v n xs) (B : Below w.heap.size w w') : w'.ownsRow base e sz v n xs :=
  h.kept (bl_grown B) (by
    cases hh : v.ownBlock with
    | none => exact .inl rfl
    | some g => exact .inr (by simp))

/-- At a round's head: the numbers of the boxes so far. -/
def HsRel (w : World) (N n : Nat) (vs : List Value) (hd : List Int) (bs : List Bx) (v i : Value) (W : World) : Prop :=
  ∃ j : Nat, j ≤ n ∧ i = .int .i64 j ∧ W.ownsRow (w.heap.size + 1) 3 1 v (N + 4 * j) ((hd ++ flat (bs.take j)).map (Value.int .i64)) ∧ CellsAt W w.heap.size vs ∧ Below w.heap.size w W
theorem hs_next {w W w1 : World} {N n j : Nat} {vs : List Value} {hd : List Int} {bs : List Bx} {v v' : Value} {za zb zc zd : Int} (hj : j < n) (hf : flat (bs.take (j + 1)) = flat (bs.take j) ++ [za, zb, zc, zd])
    (O : w1.ownsRow (w.heap.size + 1) 3 1 v' (N + 4 * j + 4) ((hd ++ flat (bs.take j) ++ [za, zb, zc, zd]).map (Value.int .i64))) (L : CellsAt W w.heap.size vs) (B : Below w.heap.size w W) (hg : W.grownBy w1 v.ownBlock) (hb : ∀ g, v.ownBlock = some g → w.heap.size + 1 ≤ g) :
    HsRel w N n vs hd bs v' (.int .i64 (j + 1)) w1 :=
  ⟨j + 1, by omega, by simp, by rw [hf, ← List.append_assoc]; exact O, L.grown hg (fun e => by have := hb _ e; omega), B.grown hg B.size (fun g e => by have := hb g e; omega)⟩

set_option maxHeartbeats 2000000 in
theorem specLvHash (i t x y : Int) (A : Option Addr) (n c : Nat) (G : Option Addr) (m k : Nat) (p q r s b : Int) (ws gs : List Bx) (w : World) (I : Boxes w A n ws) (J : Boxes w G m gs) (hn : n ≤ 281474976710656) (hm : m ≤ 281474976710656) :
    Calls Try.prog 26 #[lev i t x y A n c G m k p q r s b] w fun e w' => e = .returned (.int .i64 (lhI i t x y ws gs p q r s b)) ∧ Below w.heap.size w w' := by
  have V := Lib.hid (fun (W : World) (Z : Boxes W A n ws) (Y : Boxes W G m gs) => specLvValid i t x y A n c G m k p q r s b ws gs W Z Y hn hm)
  have hl1 := Lib.hid I.1
  have hl2 := Lib.hid J.1
  have I := Lib.hid I
  have J := Lib.hid J
  cases h : lvB i t x y ws gs p q r s b
  · have E := Lib.hid (lh_no h)
    rw [h] at V
    go_enter Try.func26, Try.ntmps26
    go_wp2_with fail
    refine (V.out _ (I.out.alloc _) (J.out.alloc _)).mono ?_
    rintro e w1 ⟨rfl, B1⟩
    have H := Lib.hid (bl_trans (bl_alloc (bl_refl w) _) B1)
    clear B1
    go_wp2
    go_ret
    exact ⟨ret_int (by rw [E.out]), H.out⟩
  obtain ⟨_, _, _, g4, _, g6, _⟩ := (lv_iff i t x y ws gs p q r s b).1 h
  have E := Lib.hid ((lh_yes h).trans (show hsh 17 (lvL i t x y ws gs p q r s b) = hsh 17 ([i, t, x, y, (n : Int), (m : Int), b] ++ flat ws ++ flat gs ++ [p, q, r, s]) by rw [← hl1.out, ← hl2.out]; rfl))
  have g4 : n ≤ 4 := by have := hl1.out; omega
  have g6 : m ≤ 3 := by have := hl2.out; omega
  rw [h] at V
  clear h
  go_enter Try.func26, Try.ntmps26
  go_wp2_with fail
  refine (V.out _ (I.out.alloc _) (J.out.alloc _)).mono ?_
  rintro e w1 ⟨rfl, B1⟩
  have L1 : CellsAt w1 w.heap.size (lvs i t x y A n c G m k p q r s b) := (CellsAt.new w _ _ _ rfl).step B1
  have H1 := Lib.hid (bl_trans (bl_alloc (bl_refl w) _) B1)
  clear B1 V
  have ll := L1.lt
  have k0 := L1.cell 0 _ rfl
  have k1 := L1.cell 1 _ rfl
  have k2 := L1.cell 2 _ rfl
  have k3 := L1.cell 3 _ rfl
  have k4 := L1.cell 4 _ rfl
  have k5 := L1.cell 5 _ rfl
  have k10 := L1.cell 10 _ rfl
  go_wp2
  go_loopw [3, 4] (HsRel w 7 n (lvs i t x y A n c G m k p q r s b) [i, t, x, y, (n : Int), (m : Int), b] ws) (fun _ i _ => n - (intOf i).toNat)
  case atStart => exact ⟨0, Nat.zero_le _, rfl, World.ownsRow_lit _ _ 7 (by omega) (by decide) rfl, L1.alloc _, bl_alloc H1.out _⟩
  case round =>
    clear L1 H1 ll k0 k1 k2 k3 k4 k5 k10
    obtain ⟨j, hj, rfl, O, L, B⟩ := hrel
    have hb := fun g e => (O.lt g e).1
    have kk := L.cell 4 _ rfl
    have ll := L.lt
    by_cases hlt : j < n
    · obtain ⟨bb, off, rfl, hbb, hcell⟩ := (I.out.step B).2 (by omega)
      have Z := (hcell j hlt).lie hbb
      have HF := flat_next (bs := ws) (k := j) (by have := hl1.out; omega)
      clear hcell
      generalize ws.getD j bz = z at *
      obtain ⟨za, zb, zc, zd⟩ := z
      simp only at Z HF
      have HF := Lib.hid HF
      have c0 := Z.c0
      have c1 := Z.c1
      have c2 := Z.c2
      have c3 := Z.c3
      have O := Lib.hid O
      have B := Lib.hid B
      go_wp2_with fail
      refine (specBox4 _ _ _ _ _).mono ?_
      rintro e w5 ⟨D, rfl, J5, B5⟩
      have O5 := Lib.hid (own_step O.out B5)
      have L5 := Lib.hid (L.step B5)
      have H5 := Lib.hid (bl_trans B.out B5)
      have J5 := Lib.hid J5
      clear B5 O B Z c0 c1 c2 c3 kk L
      go_wp2_with (at_builtin; refine append_ints _ rfl _ _ rfl (w.heap.size + 1) _ _ _ rfl O5.out D 4 4 [za, zb, zc, zd] rfl J5.out (by omega) (by have := H5.out.size; have := L5.out.lt; omega) ?_)
      intro v' w6 O6 G6 _
      have A6 := Lib.hid (hs_next (N := 7) (hd := [i, t, x, y, (n : Int), (m : Int), b]) (bs := ws) hlt HF.out (by simpa using O6) L5.out H5.out G6 hb)
      go_wp2
      go_roundw
      case rel => exact A6.out
      case measure => simp [intOf]; omega
    · obtain rfl : j = n := by omega
      rw [List.take_of_length_le (by have := hl1.out; omega)] at O
      go_wp2
      obtain ⟨j1, rfl⟩ : ∃ j1, j1 = j := ⟨_, rfl⟩
      go_loopw [3, 5] (HsRel w (7 + 4 * j1) m (lvs i t x y A j1 c G m k p q r s b) ([i, t, x, y, (j1 : Int), (m : Int), b] ++ flat ws) gs) (fun _ i _ => m - (intOf i).toNat)
      case atStart => exact ⟨0, Nat.zero_le _, rfl, by simpa [flat] using O, L, B⟩
      case round =>
        clear O L B hb kk ll
        obtain ⟨j, hj, rfl, O, L, B⟩ := hrel
        have hb := fun g e => (O.lt g e).1
        have kk := L.cell 5 _ rfl
        have ll := L.lt
        by_cases hlt : j < m
        · obtain ⟨bb, off, rfl, hbb, hcell⟩ := (J.out.step B).2 (by omega)
          have Z := (hcell j hlt).lie hbb
          have HF := flat_next (bs := gs) (k := j) (by have := hl2.out; omega)
          clear hcell
          generalize gs.getD j bz = z at *
          obtain ⟨za, zb, zc, zd⟩ := z
          simp only at Z HF
          have HF := Lib.hid HF
          have c0 := Z.c0
          have c1 := Z.c1
          have c2 := Z.c2
          have c3 := Z.c3
          have O := Lib.hid O
          have B := Lib.hid B
          go_wp2_with fail
          refine (specBox4 _ _ _ _ _).mono ?_
          rintro e w5 ⟨D, rfl, J5, B5⟩
          have O5 := Lib.hid (own_step O.out B5)
          have L5 := Lib.hid (L.step B5)
          have H5 := Lib.hid (bl_trans B.out B5)
          have J5 := Lib.hid J5
          clear B5 O B Z c0 c1 c2 c3 kk L
          go_wp2_with (at_builtin; refine append_ints _ rfl _ _ rfl (w.heap.size + 1) _ _ _ rfl O5.out D 4 4 [za, zb, zc, zd] rfl J5.out (by omega) (by have := H5.out.size; have := L5.out.lt; omega) ?_)
          intro v' w6 O6 G6 _
          have A6 := Lib.hid (hs_next (N := 7 + 4 * j1) (hd := [i, t, x, y, (j1 : Int), (m : Int), b] ++ flat ws) (bs := gs) hlt HF.out (by simpa using O6) L5.out H5.out G6 hb)
          go_wp2
          go_roundw
          case rel => exact A6.out
          case measure => simp [intOf]; omega
        · obtain rfl : j = m := by omega
          rw [List.take_of_length_le (by have := hl2.out; omega)] at O
          have q6 := L.cell 6 _ rfl
          have q7 := L.cell 7 _ rfl
          have q8 := L.cell 8 _ rfl
          have q9 := L.cell 9 _ rfl
          have O := Lib.hid O
          have B := Lib.hid B
          go_wp2_with fail
          refine (specBox4 _ _ _ _ _).mono ?_
          rintro e w5 ⟨D, rfl, J5, B5⟩
          have O5 := Lib.hid (own_step O.out B5)
          have H5 := Lib.hid (bl_trans B.out B5)
          have J5 := Lib.hid J5
          have l5 := Lib.hid (L.step B5).lt
          clear B5 O B L q6 q7 q8 q9 kk
          go_wp2_with (at_builtin; refine append_ints _ rfl _ _ rfl (w.heap.size + 1) _ _ _ rfl O5.out D 4 4 [p, q, r, s] rfl J5.out (by omega) (by have := l5.out; omega) ?_)
          intro v' w6 O6 G6 _
          obtain ⟨A', cap', rfl, I6⟩ := Ints.of_own (xs := [i, t, x, y, (j1 : Int), (j : Int), b] ++ flat ws ++ flat gs ++ [p, q, r, s]) (by simpa using O6)
          have H6 := Lib.hid (H5.out.grown G6 H5.out.size (fun g e => by have := hb g e; omega))
          have I6 := Lib.hid I6
          clear O6 G6
          go_wp2_with fail
          refine (specHsh 17 _ _ _ _ _ (by omega) (by omega) I6.out (by omega)).mono ?_
          rintro e w7 ⟨rfl, rfl⟩
          go_wp2
          go_ret
          exact ⟨ret_int (by rw [E.out]; simp), H6.out⟩

end Go.Proofs.Ytmhmlmoohimfmaa
