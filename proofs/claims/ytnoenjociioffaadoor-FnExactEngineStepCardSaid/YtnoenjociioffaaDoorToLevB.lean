/-
  How an exact law compares levels, what it takes for their size, and how it copies them.
-/
import Derived.Test.YtnoenjociioffaaDoorToLev
import Derived.Test.YtnoenjociioffaaDoorLawBoxY
namespace Go.Proofs.YtnoenjociioffaaDoor
open Go.RowKit
open M

set_option maxHeartbeats 2000000 in
theorem eqBoxS_same (A D : Option Addr) (n c d : Nat) (bs : List Bx) (w : World) (I : Boxes w A n bs) (J : Boxes w D n bs) (hn : n ≤ 1048576) :
    Calls Tryd.prog 70 #[.slice A n c, .slice D n d] w fun e w' => e = .returned (.bool true) ∧ Below w.heap.size w w' := by
  have I := Lib.hid I
  have J := Lib.hid J
  go_enter Tryd.func70, Tryd.ntmps70
  go_wp2
  go_loopw [5] (fun i W => ∃ k : Nat, k ≤ n ∧ i = .int .i64 k ∧ Below w.heap.size w W) (fun i _ => n - (intOf i).toNat)
  case atStart => exact ⟨0, Nat.zero_le _, rfl, bl_refl w⟩
  case round =>
    obtain ⟨k, hk, rfl, B⟩ := hrel
    by_cases hlt : k < n
    · obtain ⟨b1, o1, rfl, hb1, hc1⟩ := (I.out.step B).2 (by omega)
      obtain ⟨b2, o2, rfl, hb2, hc2⟩ := (J.out.step B).2 (by omega)
      have Z := (hc1 k hlt).lie hb1
      have Y := (hc2 k hlt).lie hb2
      have Hb := Lib.hid B
      clear hc1 hc2 B
      generalize bs.getD k bz = q at *
      obtain ⟨za, zb, zc, zd⟩ := q
      simp only at Z Y
      go_wp2_with fail
      go_region_held3 (fun w' => (w'.cell? ⟨b1, o1 + k * 4, none⟩ = some (.int .i64 za) ∧ w'.cell? ⟨b1, o1 + k * 4 + 1, none⟩ = some (.int .i64 zb) ∧ w'.cell? ⟨b1, o1 + k * 4 + 2, none⟩ = some (.int .i64 zc) ∧ w'.cell? ⟨b1, o1 + k * 4 + 3, none⟩ = some (.int .i64 zd)) ∧ (w'.cell? ⟨b2, o2 + k * 4, none⟩ = some (.int .i64 za) ∧ w'.cell? ⟨b2, o2 + k * 4 + 1, none⟩ = some (.int .i64 zb) ∧ w'.cell? ⟨b2, o2 + k * 4 + 2, none⟩ = some (.int .i64 zc) ∧ w'.cell? ⟨b2, o2 + k * 4 + 3, none⟩ = some (.int .i64 zd)))
        (exact ⟨bi_four (by repeat (first | with_reducible exact Z | with_reducible refine BoxIn.far ?_ (by omega) _ _ | with_reducible refine BoxIn.alloc ?_ _ | with_reducible refine BoxIn.drew ?_)), bi_four (by repeat (first | with_reducible exact Y | with_reducible refine BoxIn.far ?_ (by omega) _ _ | with_reducible refine BoxIn.alloc ?_ _ | with_reducible refine BoxIn.drew ?_))⟩)
        ((go_at_call 71; (with_reducible refine (eqBox_same _ _ _ _ _).mono ?_); rintro e wn ⟨rfl, Bn⟩; have Z := BoxIn.step (by first | with_reducible exact Z | with_reducible exact Z.drew) Bn; have Y := BoxIn.step (by first | with_reducible exact Y | with_reducible exact Y.drew) Bn; have Hb := Lib.hid (bl_trans (by first | with_reducible exact Hb.out | with_reducible exact bl_drew1 Hb.out) Bn); clear Bn))
      all_goals
        go_wp2
        go_roundw
        case rel => exact ⟨k + 1, by omega, by go_num, Hb.out⟩
        case measure => simp [intOf]; omega
    · have B := Lib.hid B
      go_wp2
      go_ret
      exact ⟨rfl, B.out⟩

theorem szBox_any (A : Option Addr) (n c : Nat) (l : Int) (w : World) (hn : n ≤ 9223372036854775807) (l0 : 0 ≤ l) (l1 : l ≤ 1048576) :
    Calls Tryd.prog 65 #[.slice A n c, .int .i64 l] w fun e w' => e = .returned (.int .i64 (if l - n < 0 then -1 else l - n)) ∧ w = w' := by
  by_cases h : l - (n : Int) < 0
  · rw [if_pos h]
    go_enter Tryd.func65, Tryd.ntmps65
    go_wp2
    go_ret
    exact ⟨rfl, rfl⟩
  · rw [if_neg h]
    have h' : 0 ≤ l - (n : Int) := by omega
    go_enter Tryd.func65, Tryd.ntmps65
    go_wp2
    go_ret
    exact ⟨rfl, rfl⟩
theorem szLev_ok (i t x y : Int) (A : Option Addr) (n c : Nat) (G : Option Addr) (m kk : Nat) (p q s z b : Int) (w : World) (h : n + m ≤ 1048576) :
    Calls Tryd.prog 33 #[lev i t x y A n c G m kk p q s z b, .int .i64 1048576] w fun e w' => e = .returned (.int .i64 (1048576 - n - m)) ∧ Below w.heap.size w w' := by
  have C1 := fun W => szBox_any A n c 1048576 W (by omega) (by omega) (by omega)
  have C2 := fun W => szBox_any G m kk (1048576 - n) W (by omega) (by omega) (by omega)
  rw [if_neg (show ¬ ((1048576 : Int) - n < 0) by omega)] at C1
  rw [if_neg (show ¬ ((1048576 : Int) - n - m < 0) by omega)] at C2
  have C1 := Lib.hid C1
  have C2 := Lib.hid C2
  have g1 : (0 : Int) ≤ 1048576 - n := by omega
  have g2 : (0 : Int) ≤ 1048576 - n - m := by omega
  go_enter Tryd.func33, Tryd.ntmps33
  go_wp2_with fail
  refine (C1.out _).mono ?_
  rintro e w' ⟨rfl, rfl⟩
  go_wp2_with fail
  refine (C2.out _).mono ?_
  rintro e w' ⟨rfl, rfl⟩
  go_wp2
  go_ret
  exact ⟨rfl, bl_alloc (bl_refl w) _⟩
theorem szLev_no (i t x y : Int) (A : Option Addr) (n c : Nat) (G : Option Addr) (m kk : Nat) (p q s z b : Int) (w : World) (h : 1048576 < n + m) (hn : n ≤ 9223372036854775807) (hm : m ≤ 9223372036854775807) :
    Calls Tryd.prog 33 #[lev i t x y A n c G m kk p q s z b, .int .i64 1048576] w fun e w' => e = .returned (.int .i64 (-1)) ∧ Below w.heap.size w w' := by
  have C1 := fun W => szBox_any A n c 1048576 W (by omega) (by omega) (by omega)
  by_cases h1 : 1048576 < n
  · rw [if_pos (show ((1048576 : Int) - n < 0) by omega)] at C1
    have C1 := Lib.hid C1
    go_enter Tryd.func33, Tryd.ntmps33
    go_wp2_with fail
    refine (C1.out _).mono ?_
    rintro e w' ⟨rfl, rfl⟩
    go_wp2
    go_ret
    exact ⟨rfl, bl_alloc (bl_refl w) _⟩
  · have C2 := fun W => szBox_any G m kk (1048576 - n) W (by omega) (by omega) (by omega)
    rw [if_neg (show ¬ ((1048576 : Int) - n < 0) by omega)] at C1
    rw [if_pos (show ((1048576 : Int) - n - m < 0) by omega)] at C2
    have C1 := Lib.hid C1
    have C2 := Lib.hid C2
    have g1 : (0 : Int) ≤ 1048576 - n := by omega
    go_enter Tryd.func33, Tryd.ntmps33
    go_wp2_with fail
    refine (C1.out _).mono ?_
    rintro e w' ⟨rfl, rfl⟩
    go_wp2_with fail
    refine (C2.out _).mono ?_
    rintro e w' ⟨rfl, rfl⟩
    go_wp2
    go_ret
    exact ⟨rfl, bl_alloc (bl_refl w) _⟩

/-- A copy of a level, made by the call. -/
def CopiedL (w : World) (i t x y : Int) (n m : Nat) (p q s z b : Int) (ws gs : List Bx) (e : Ending) (w' : World) : Prop :=
  ∃ u v : Nat, e = .returned (lev i t x y (some ⟨u, 0, none⟩) n n (some ⟨v, 0, none⟩) m m p q s z b) ∧ Boxes w' (some ⟨u, 0, none⟩) n ws ∧ Boxes w' (some ⟨v, 0, none⟩) m gs ∧ Below w.heap.size w w'
theorem Boxes.farB {W : World} {g n b : Nat} {bs : List Bx} (h : Boxes W (some ⟨g, 0, none⟩) n bs) (hb : g ≠ b) (o : Nat) (v : Value) : Boxes (W.setCell ⟨b, o, none⟩ v) (some ⟨g, 0, none⟩) n bs := h.kept (kset (Kept.refl b W) o v) (fun _ g' off e => by cases e; exact hb)

set_option maxRecDepth 100000 in
set_option maxHeartbeats 4000000 in
theorem toLevel_any (i t x y : Int) (A : Option Addr) (n c : Nat) (G : Option Addr) (m kk : Nat) (p q s z b : Int) (ws gs : List Bx) (w : World) (I : Boxes w A n ws) (J : Boxes w G m gs) (hn : n ≤ 1048576) (hm : m ≤ 1048576) :
    Calls Tryd.prog 34 #[lev i t x y A n c G m kk p q s z b] w (CopiedL w i t x y n m p q s z b ws gs) := by
  have I := Lib.hid I
  have J := Lib.hid J
  go_enter Tryd.func34, Tryd.ntmps34
  go_wp2_with fail
  refine (toVec_any x y _).mono ?_
  rintro e w1 ⟨rfl, B⟩
  have P : CellsAt w1 w.heap.size (lvs i t x y A n c G m kk p q s z b) := (((CellsAt.new w _ _ _ rfl).alloc _).alloc _).step B
  have D : CellsAt w1 (w.heap.size + 1) (lvs 0 0 0 0 none 0 0 none 0 0 0 0 0 0 0) := ((CellsAt.new _ _ _ _ (by simp)).alloc _).step B
  have O : CellsAt w1 (w.heap.size + 1 + 1) (lvs i t 0 0 none 0 0 none 0 0 0 0 0 0 0) := (CellsAt.new _ _ _ _ (by simp)).step B
  have H := Lib.hid (bl_trans (bl_alloc (bl_alloc (bl_alloc (bl_refl w) _) _) _) B)
  clear B
  have Pc0 := P.cell 0 _ rfl
  have Pf0 := P.fr 0
  have Pc1 := P.cell 1 _ rfl
  have Pf1 := P.fr 1
  have Pc2 := P.cell 2 _ rfl
  have Pf2 := P.fr 2
  have Pc3 := P.cell 3 _ rfl
  have Pf3 := P.fr 3
  have Pc4 := P.cell 4 _ rfl
  have Pf4 := P.fr 4
  have Pc5 := P.cell 5 _ rfl
  have Pf5 := P.fr 5
  have Pc6 := P.cell 6 _ rfl
  have Pf6 := P.fr 6
  have Pc7 := P.cell 7 _ rfl
  have Pf7 := P.fr 7
  have Pc8 := P.cell 8 _ rfl
  have Pf8 := P.fr 8
  have Pc9 := P.cell 9 _ rfl
  have Pf9 := P.fr 9
  have Pc10 := P.cell 10 _ rfl
  have Pf10 := P.fr 10
  have Pl := P.lt
  have Oc0 := O.cell 0 _ rfl
  have Of0 := O.fr 0
  have Oc1 := O.cell 1 _ rfl
  have Of1 := O.fr 1
  have Oc2 := O.cell 2 _ rfl
  have Of2 := O.fr 2
  have Oc3 := O.cell 3 _ rfl
  have Of3 := O.fr 3
  have Oc4 := O.cell 4 _ rfl
  have Of4 := O.fr 4
  have Oc5 := O.cell 5 _ rfl
  have Of5 := O.fr 5
  have Oc6 := O.cell 6 _ rfl
  have Of6 := O.fr 6
  have Oc7 := O.cell 7 _ rfl
  have Of7 := O.fr 7
  have Oc8 := O.cell 8 _ rfl
  have Of8 := O.fr 8
  have Oc9 := O.cell 9 _ rfl
  have Of9 := O.fr 9
  have Oc10 := O.cell 10 _ rfl
  have Of10 := O.fr 10
  have Ol := O.lt
  go_wp2_with fail
  refine (toBoxS_any A n c ws _ (I.out.step (bl_set (bl_set H.out _ _ _ (by omega)) _ _ _ (by omega))) hn).mono ?_
  rintro e w2 ⟨rfl, I2, B⟩
  have z2 := B.size
  simp [World.size_setCell] at z2 I2
  clear Pc0 Pf0 Pc1 Pf1 Pc2 Pf2 Pc3 Pf3 Pc4 Pf4 Pc5 Pf5 Pc6 Pf6 Pc7 Pf7 Pc8 Pf8 Pc9 Pf9 Pc10 Pf10 Pl Oc0 Of0 Oc1 Of1 Oc2 Of2 Oc3 Of3 Oc4 Of4 Oc5 Of5 Oc6 Of6 Oc7 Of7 Oc8 Of8 Oc9 Of9 Oc10 Of10 Ol
  have P2 := ((P.far (by omega) _ _).far (by omega) _ _).step B
  have D2 := ((D.far (by omega) _ _).far (by omega) _ _).step B
  have O2 := ((O.set 2 (by simp) _).set 3 (by simp) _).step B
  have H2 := Lib.hid (bl_trans (bl_set (bl_set H.out _ _ _ (by omega)) _ _ _ (by omega)) B)
  have l1 := O.lt
  clear B P D O H
  have I2 := Lib.hid I2
  have P2c0 := P2.cell 0 _ rfl
  have P2f0 := P2.fr 0
  have P2c1 := P2.cell 1 _ rfl
  have P2f1 := P2.fr 1
  have P2c2 := P2.cell 2 _ rfl
  have P2f2 := P2.fr 2
  have P2c3 := P2.cell 3 _ rfl
  have P2f3 := P2.fr 3
  have P2c4 := P2.cell 4 _ rfl
  have P2f4 := P2.fr 4
  have P2c5 := P2.cell 5 _ rfl
  have P2f5 := P2.fr 5
  have P2c6 := P2.cell 6 _ rfl
  have P2f6 := P2.fr 6
  have P2c7 := P2.cell 7 _ rfl
  have P2f7 := P2.fr 7
  have P2c8 := P2.cell 8 _ rfl
  have P2f8 := P2.fr 8
  have P2c9 := P2.cell 9 _ rfl
  have P2f9 := P2.fr 9
  have P2c10 := P2.cell 10 _ rfl
  have P2f10 := P2.fr 10
  have P2l := P2.lt
  have O2c0 := O2.cell 0 _ rfl
  have O2f0 := O2.fr 0
  have O2c1 := O2.cell 1 _ rfl
  have O2f1 := O2.fr 1
  have O2c2 := O2.cell 2 _ rfl
  have O2f2 := O2.fr 2
  have O2c3 := O2.cell 3 _ rfl
  have O2f3 := O2.fr 3
  have O2c4 := O2.cell 4 _ rfl
  have O2f4 := O2.fr 4
  have O2c5 := O2.cell 5 _ rfl
  have O2f5 := O2.fr 5
  have O2c6 := O2.cell 6 _ rfl
  have O2f6 := O2.fr 6
  have O2c7 := O2.cell 7 _ rfl
  have O2f7 := O2.fr 7
  have O2c8 := O2.cell 8 _ rfl
  have O2f8 := O2.fr 8
  have O2c9 := O2.cell 9 _ rfl
  have O2f9 := O2.fr 9
  have O2c10 := O2.cell 10 _ rfl
  have O2f10 := O2.fr 10
  have O2l := O2.lt
  go_wp2_with fail
  refine (toBoxS_any G m kk gs _ (J.out.step (bl_set H2.out _ _ _ (by omega))) hm).mono ?_
  rintro e w3 ⟨rfl, J3, B⟩
  have z3 := B.size
  simp [World.size_setCell] at z3 J3
  clear P2c0 P2f0 P2c1 P2f1 P2c2 P2f2 P2c3 P2f3 P2c4 P2f4 P2c5 P2f5 P2c6 P2f6 P2c7 P2f7 P2c8 P2f8 P2c9 P2f9 P2c10 P2f10 P2l O2c0 O2f0 O2c1 O2f1 O2c2 O2f2 O2c3 O2f3 O2c4 O2f4 O2c5 O2f5 O2c6 O2f6 O2c7 O2f7 O2c8 O2f8 O2c9 O2f9 O2c10 O2f10 O2l
  have P3 := (P2.far (by omega) _ _).step B
  have D3 := (D2.far (by omega) _ _).step B
  have O3 := (O2.set 4 (by simp) _).step B
  have I3 := (I2.out.farB (by omega) _ _).step B
  have H3 := Lib.hid (bl_trans (bl_set H2.out _ _ _ (by omega)) B)
  have l2 := O2.lt
  clear B P2 D2 O2 H2 I2
  have I3 := Lib.hid I3
  have J3 := Lib.hid J3
  have P3c0 := P3.cell 0 _ rfl
  have P3f0 := P3.fr 0
  have P3c1 := P3.cell 1 _ rfl
  have P3f1 := P3.fr 1
  have P3c2 := P3.cell 2 _ rfl
  have P3f2 := P3.fr 2
  have P3c3 := P3.cell 3 _ rfl
  have P3f3 := P3.fr 3
  have P3c4 := P3.cell 4 _ rfl
  have P3f4 := P3.fr 4
  have P3c5 := P3.cell 5 _ rfl
  have P3f5 := P3.fr 5
  have P3c6 := P3.cell 6 _ rfl
  have P3f6 := P3.fr 6
  have P3c7 := P3.cell 7 _ rfl
  have P3f7 := P3.fr 7
  have P3c8 := P3.cell 8 _ rfl
  have P3f8 := P3.fr 8
  have P3c9 := P3.cell 9 _ rfl
  have P3f9 := P3.fr 9
  have P3c10 := P3.cell 10 _ rfl
  have P3f10 := P3.fr 10
  have P3l := P3.lt
  have O3c0 := O3.cell 0 _ rfl
  have O3f0 := O3.fr 0
  have O3c1 := O3.cell 1 _ rfl
  have O3f1 := O3.fr 1
  have O3c2 := O3.cell 2 _ rfl
  have O3f2 := O3.fr 2
  have O3c3 := O3.cell 3 _ rfl
  have O3f3 := O3.fr 3
  have O3c4 := O3.cell 4 _ rfl
  have O3f4 := O3.fr 4
  have O3c5 := O3.cell 5 _ rfl
  have O3f5 := O3.fr 5
  have O3c6 := O3.cell 6 _ rfl
  have O3f6 := O3.fr 6
  have O3c7 := O3.cell 7 _ rfl
  have O3f7 := O3.fr 7
  have O3c8 := O3.cell 8 _ rfl
  have O3f8 := O3.fr 8
  have O3c9 := O3.cell 9 _ rfl
  have O3f9 := O3.fr 9
  have O3c10 := O3.cell 10 _ rfl
  have O3f10 := O3.fr 10
  have O3l := O3.lt
  go_wp2_with fail
  refine (toBox_any p q s z _).mono ?_
  rintro e w4 ⟨rfl, B⟩
  have z4 := B.size
  simp [World.size_setCell] at z4
  clear P3c0 P3f0 P3c1 P3f1 P3c2 P3f2 P3c3 P3f3 P3c4 P3f4 P3c5 P3f5 P3c6 P3f6 P3c7 P3f7 P3c8 P3f8 P3c9 P3f9 P3c10 P3f10 P3l O3c0 O3f0 O3c1 O3f1 O3c2 O3f2 O3c3 O3f3 O3c4 O3f4 O3c5 O3f5 O3c6 O3f6 O3c7 O3f7 O3c8 O3f8 O3c9 O3f9 O3c10 O3f10 O3l
  have P4 := (P3.far (by omega) _ _).step B
  have D4 := (D3.far (by omega) _ _).step B
  have O4 := (O3.set 5 (by simp) _).step B
  have I4 := (I3.out.farB (by omega) _ _).step B
  have J4 := (J3.out.farB (by omega) _ _).step B
  have H4 := Lib.hid (bl_trans (bl_set H3.out _ _ _ (by omega)) B)
  clear B P3 D3 O3 H3 I3 J3
  have I4 := Lib.hid I4
  have J4 := Lib.hid J4
  have P4c0 := P4.cell 0 _ rfl
  have P4f0 := P4.fr 0
  have P4c1 := P4.cell 1 _ rfl
  have P4f1 := P4.fr 1
  have P4c2 := P4.cell 2 _ rfl
  have P4f2 := P4.fr 2
  have P4c3 := P4.cell 3 _ rfl
  have P4f3 := P4.fr 3
  have P4c4 := P4.cell 4 _ rfl
  have P4f4 := P4.fr 4
  have P4c5 := P4.cell 5 _ rfl
  have P4f5 := P4.fr 5
  have P4c6 := P4.cell 6 _ rfl
  have P4f6 := P4.fr 6
  have P4c7 := P4.cell 7 _ rfl
  have P4f7 := P4.fr 7
  have P4c8 := P4.cell 8 _ rfl
  have P4f8 := P4.fr 8
  have P4c9 := P4.cell 9 _ rfl
  have P4f9 := P4.fr 9
  have P4c10 := P4.cell 10 _ rfl
  have P4f10 := P4.fr 10
  have P4l := P4.lt
  have O4c0 := O4.cell 0 _ rfl
  have O4f0 := O4.fr 0
  have O4c1 := O4.cell 1 _ rfl
  have O4f1 := O4.fr 1
  have O4c2 := O4.cell 2 _ rfl
  have O4f2 := O4.fr 2
  have O4c3 := O4.cell 3 _ rfl
  have O4f3 := O4.fr 3
  have O4c4 := O4.cell 4 _ rfl
  have O4f4 := O4.fr 4
  have O4c5 := O4.cell 5 _ rfl
  have O4f5 := O4.fr 5
  have O4c6 := O4.cell 6 _ rfl
  have O4f6 := O4.fr 6
  have O4c7 := O4.cell 7 _ rfl
  have O4f7 := O4.fr 7
  have O4c8 := O4.cell 8 _ rfl
  have O4f8 := O4.fr 8
  have O4c9 := O4.cell 9 _ rfl
  have O4f9 := O4.fr 9
  have O4c10 := O4.cell 10 _ rfl
  have O4f10 := O4.fr 10
  have O4l := O4.lt
  go_upto_region 9 with fail
  refine wp_region_lit ?_
  have O5 := (((((O4.set 6 (by simp) (.int .i64 p)).set 7 (by simp) (.int .i64 q)).set 8 (by simp) (.int .i64 s)).set 9 (by simp) (.int .i64 z)).set 10 (by simp) (.int .i64 b))
  have D5 := (((((D4.far (b' := w.heap.size + 1 + 1) (by omega) 6 (.int .i64 p)).far (b' := w.heap.size + 1 + 1) (by omega) 7 (.int .i64 q)).far (b' := w.heap.size + 1 + 1) (by omega) 8 (.int .i64 s)).far (b' := w.heap.size + 1 + 1) (by omega) 9 (.int .i64 z)).far (b' := w.heap.size + 1 + 1) (by omega) 10 (.int .i64 b))
  have I5 := Lib.hid (((((I4.out.farB (b := w.heap.size + 1 + 1) (by omega) 6 (.int .i64 p)).farB (b := w.heap.size + 1 + 1) (by omega) 7 (.int .i64 q)).farB (b := w.heap.size + 1 + 1) (by omega) 8 (.int .i64 s)).farB (b := w.heap.size + 1 + 1) (by omega) 9 (.int .i64 z)).farB (b := w.heap.size + 1 + 1) (by omega) 10 (.int .i64 b))
  have J5 := Lib.hid (((((J4.out.farB (b := w.heap.size + 1 + 1) (by omega) 6 (.int .i64 p)).farB (b := w.heap.size + 1 + 1) (by omega) 7 (.int .i64 q)).farB (b := w.heap.size + 1 + 1) (by omega) 8 (.int .i64 s)).farB (b := w.heap.size + 1 + 1) (by omega) 9 (.int .i64 z)).farB (b := w.heap.size + 1 + 1) (by omega) 10 (.int .i64 b))
  have H5 := Lib.hid (bl_set (bl_set (bl_set (bl_set (bl_set H4.out (w.heap.size + 1 + 1) 6 (.int .i64 p) (by omega)) (w.heap.size + 1 + 1) 7 (.int .i64 q) (by omega)) (w.heap.size + 1 + 1) 8 (.int .i64 s) (by omega)) (w.heap.size + 1 + 1) 9 (.int .i64 z) (by omega)) (w.heap.size + 1 + 1) 10 (.int .i64 b) (by omega))
  refine load_cells rfl 29 (.tmp 3) rfl (w.heap.size + 1 + 1) rfl (lvs i t x y (some ⟨w1.heap.size, 0, none⟩) n n (some ⟨w2.heap.size, 0, none⟩) m m p q s z b) O5 Tryd.underlying29 rfl level_size ?_
  refine store_new rfl 29 (.tmp 2) (.tmp 29) rfl (w.heap.size + 1) rfl (lvs i t x y (some ⟨w1.heap.size, 0, none⟩) n n (some ⟨w2.heap.size, 0, none⟩) m m p q s z b) rfl _ D5 (by simp) level_size rfl ?_
  intro w6 K6 D6
  have I6 := Lib.hid (I5.out.kept K6 (fun _ g off e => by cases e; omega))
  have J6 := Lib.hid (J5.out.kept K6 (fun _ g off e => by cases e; omega))
  have H6 := Lib.hid (kp_below H5.out K6 (by omega))
  clear I5 J5 H5 K6 D5 O5 P4c0 P4f0 P4c1 P4f1 P4c2 P4f2 P4c3 P4f3 P4c4 P4f4 P4c5 P4f5 P4c6 P4f6 P4c7 P4f7 P4c8 P4f8 P4c9 P4f9 P4c10 P4f10 P4l O4c0 O4f0 O4c1 O4f1 O4c2 O4f2 O4c3 O4f3 O4c4 O4f4 O4c5 O4f5 O4c6 O4f6 O4c7 O4f7 O4c8 O4f8 O4c9 O4f9 O4c10 O4f10 O4l
  go_wp2
  exact bodyPost_ret (v := lev i t x y (some ⟨w1.heap.size, 0, none⟩) n n (some ⟨w2.heap.size, 0, none⟩) m m p q s z b) (res_cells rfl (w.heap.size + 1) rfl (lvs i t x y (some ⟨w1.heap.size, 0, none⟩) n n (some ⟨w2.heap.size, 0, none⟩) m m p q s z b) D6 Tryd.underlying29 rfl level_size) rfl ⟨w1.heap.size, w2.heap.size, rfl, I6.out, J6.out, H6.out⟩

end Go.Proofs.YtnoenjociioffaaDoor
