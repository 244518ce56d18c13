/-
  The lists of numbers and the keys that the model draws: each number fits; nothing that was there before the call is written, but the reader.
-/
import Derived.Test.YtokmkgbmigcjnaaHash
import Derived.Test.YtokmkgbmigcjnaaDrawFix
import Derived.Maps.AppendAt
import Derived.OwnWalk
import Derived.Laws.OwnMore
namespace Go.Proofs.Ytokmkgbmigcjnaa
open Go.RowKit
open M

theorem Kept.grows {r : Nat} {w w' : World} (K : Kept r w w') : w.grownBy w' (some r) := ⟨K.os, K.tape, K.output, K.size, fun k hk hne => K.block k hk (fun e => hne (by rw [e]))⟩
theorem Kept.grown {r : Nat} {w a b : World} {row : Option Nat} (K : Kept r w a) (hg : a.grownBy b row) (hr : ∀ g, row = some g → w.heap.size ≤ g) : Kept r w b :=
  ⟨hg.os.trans K.os, hg.tape.trans K.tape, hg.output.trans K.output, Nat.le_trans K.size hg.size, fun k hk hne => (hg.block k (Nat.lt_of_lt_of_le hk K.size) (fun e => by have := hr k e.symm; omega)).trans (K.block k hk hne)⟩
theorem RdU.grown {B : Nat} {a b : World} {r : Nat} {k : Int} {row : Option Nat} (R : RdU B a r k) (hg : a.grownBy b row) (hr : ∀ g, row = some g → B ≤ g) : RdU B b r k :=
  R.below ((Below.refl _ _).grown hg R.base hr)
theorem own_kept {w w' : World} {base : Nat} {e : TypeId} {v : Value} {n r : Nat} {xs : List Value} (h : w.ownsRow base e 1 v n xs) (K : Kept r w w') (hr : r < base) : w'.ownsRow base e 1 v n xs :=
  h.kept K.grows (.inr fun he => by have := (h.lt r he).1; omega)
theorem Ints.of_own {w : World} {base : Nat} {e : TypeId} {v : Value} {n : Nat} {xs : List Int} (h : w.ownsRow base e 1 v n (xs.map (Value.int .i64))) : ∃ A cap, v = .slice A n cap ∧ Ints w A n xs := by
  have hl : xs.length = n := by simpa using h.1
  have h0 := h
  rcases h0.2 with ⟨rfl, rfl⟩ | ⟨g, cap, cur, rfl, _, hh, _⟩
  · exact ⟨none, 0, rfl, hl, fun hn => by omega⟩
  · refine ⟨_, _, rfl, hl, fun _ => ⟨g, 0, rfl, ?_, fun k hk => ?_⟩⟩
    · exact (h.lt g rfl).2
    · rw [Nat.zero_add, h.cellAt k (by omega), List.getElem?_map, List.getD_eq_getElem?_getD, List.getElem?_eq_getElem (by omega)]
      rfl
/-- Every number fits. -/
def Fits (xs : List Int) : Prop := ∀ x ∈ xs, -2000000001 ≤ x ∧ x ≤ 2000000001
theorem Fits.snoc {xs : List Int} (h : Fits xs) {x : Int} (hx : -2000000001 ≤ x ∧ x ≤ 2000000001) : Fits (xs ++ [x]) := fun y hy => by
  rcases List.mem_append.1 hy with g | g
  · exact h y g
  · rw [List.mem_singleton.1 g]; exact hx
theorem Fits.set {xs : List Int} (h : Fits xs) (j : Nat) {x : Int} (hx : -2000000001 ≤ x ∧ x ≤ 2000000001) : Fits (xs.set j x) := fun y hy => by
  rcases List.mem_or_eq_of_mem_set hy with g | rfl
  · exact h y g
  · exact hx
/-- A drawn list. -/
def ListDrawn (B : Nat) (r : Nat) (k : Int) (w : World) (e : Ending) (w' : World) : Prop :=
  ∃ (A : Option Addr) (n cap : Nat) (xs : List Int), n ≤ 201 ∧ Fits xs ∧ e = .returned (.slice A n cap) ∧ Ints w' A n xs ∧ RdU B w' r (k + 700) ∧ Kept r w w'
/-- At a round's head. -/
def ListRel (B : Nat) (r : Nat) (k : Int) (w : World) (n : Nat) (v i : Value) (W : World) : Prop :=
  ∃ (j : Nat) (xs : List Int), j ≤ n ∧ i = .int .i64 j ∧ Fits xs ∧ W.ownsRow w.heap.size 3 1 v j (xs.map (Value.int .i64)) ∧ RdU B W r (k + 3 + 3 * j) ∧ Kept r w W
theorem list_next {B r : Nat} {k : Int} {w W w1 : World} {n j : Nat} {v v' : Value} {xs : List Int} {z : Int} (hj : j < n) (F : Fits xs) (hz : -2000000001 ≤ z ∧ z ≤ 2000000001)
    (h : w1.ownsRow w.heap.size 3 1 v' (j + 1) (xs.map (Value.int .i64) ++ [.int .i64 z])) (R : RdU B W r (k + 3 + 3 * j + 3)) (K : Kept r w W) (hg : W.grownBy w1 v.ownBlock) (hb : ∀ g, v.ownBlock = some g → w.heap.size ≤ g) (hB : B ≤ w.heap.size) :
    ListRel B r k w n v' (.int .i64 (j + 1)) w1 :=
  ⟨j + 1, xs ++ [z], by omega, by simp, F.snoc hz, by simpa using h, (R.grown hg (fun g e => Nat.le_trans hB (hb g e))).mono (by omega), K.grown hg hb⟩
theorem int_info : (Try.prog.info? 3).map (fun i => (i.zero, i.size, i.bytes)) = some (some (.int .i64 0), 1, 8) := by kernel_rfl

set_option maxHeartbeats 4000000 in
theorem list_drawn {B : Nat} (r : Nat) (k : Int) (w : World) (R : RdU B w r k) (hk : k ≤ 70000) (k0 : 0 ≤ k) :
    Calls Try.prog 24 #[.pointer (some ⟨r, 0, none⟩)] w (ListDrawn B r k w) := by
  obtain ⟨i0, hi, hz0, hz1, hz2⟩ := info_parts int_info
  have hi := hi
  have hB := R.base
  have hr : r < w.heap.size := by have := R.here; omega
  have R := Lib.hid R
  go_enter Try.func24, Try.ntmps24
  go_wp2_with fail
  refine (pick_any r 12 k _ (R.out.alloc _) (by omega) (by omega) (by omega)).mono ?_
  rintro e w1 ⟨a, ⟨a0, a1⟩, rfl, R1, K1⟩
  have O1 := Lib.hid (own_kept (World.ownsRow_lit (base := w.heap.size) (e := 3) (size := 1) w #[] 0 (Nat.le_refl _) (by decide) (by simp)) K1 hr)
  have K1 := Lib.hid ((Kept.refl r w).alloc _ |>.trans K1)
  have R1 := Lib.hid R1
  go_wp2_with fail
  refine (pick_any r 24 _ _ R1.out (by omega) (by omega) (by omega)).mono ?_
  rintro e w2 ⟨c, ⟨c0, c1⟩, rfl, R2, K2⟩
  have O2 := Lib.hid (own_kept O1.out K2 hr)
  have K2 := Lib.hid (K1.out.trans K2)
  have R2 := Lib.hid R2
  clear O1 K1 R1 R
  by_cases hc : c = 0
  · subst hc
    go_wp2_with fail
    refine (pick_any r 3 _ _ R2.out (by omega) (by omega) (by omega)).mono ?_
    rintro e w3 ⟨d, ⟨d0, d1⟩, rfl, R3, K3⟩
    have OW := own_kept O2.out K3 hr
    have KK := K2.out.trans K3
    have RR := R3.mono (k' := k + 3 + 3 * ((0 : Nat) : Int)) (by omega)
    obtain ⟨n, hn⟩ : ∃ n : Nat, (n : Int) = 199 + d := ⟨(199 + d).toNat, by omega⟩
    have n201 : n ≤ 201 := by omega
    have hw' : IntKind.i64.wrap (199 + d) = (n : Int) := by rw [IntWalk.i64_in _ (by omega), hn]
    have hn' := hn.symm
    clear hn K3 R3 O2 K2 R2
    go_wp2
    go_loopw [3, 5] (ListRel B r k w n) (fun _ i _ => n - (intOf i).toNat)
    case atStart => exact ⟨0, [], Nat.zero_le _, rfl, (fun x hx => by cases hx), OW, RR, KK⟩
    case round =>
      obtain ⟨j, xs, hj, rfl, Fx, OX, RX, KX⟩ := hrel
      have hb := fun g e => (OX.lt g e).1
      have OX := Lib.hid OX
      have RX := Lib.hid RX
      have KX := Lib.hid KX
      have Fx := Lib.hid Fx
      by_cases hlt : j < n
      · go_wp2_with fail
        refine (pick_any r 100 _ _ RX.out (by omega) (by omega) (by omega)).mono ?_
        rintro e w4 ⟨x, ⟨x0, x1⟩, rfl, R4, K4⟩
        have O4 := Lib.hid (own_kept OX.out K4 hr)
        have K4 := Lib.hid (KX.out.trans K4)
        have R4 := Lib.hid R4
        go_wp2_with fail
        refine (pick_any r 100 _ _ R4.out (by omega) (by omega) (by omega)).mono ?_
        rintro e w5 ⟨y, ⟨y0, y1⟩, rfl, R5, K5⟩
        have O5 := Lib.hid (own_kept O4.out K5 hr)
        have K5 := Lib.hid (K4.out.trans K5)
        have R5 := Lib.hid R5
        go_wp2_with fail
        refine (pick_any r 2 _ _ R5.out (by omega) (by omega) (by omega)).mono ?_
        rintro e w6 ⟨b, ⟨b0, b1⟩, rfl, R6, K6⟩
        have O6 := Lib.hid (own_kept O5.out K6 hr)
        have K6 := Lib.hid (K5.out.trans K6)
        have R6 := Lib.hid R6
        clear K4 R4 O4 K5 R5 O5 OX RX KX
        have s6 := Lib.hid K6.out.size
        rcases bit_two b0 b1 with rfl | rfl
        all_goals
          go_wp2_with (at_builtin; refine wpList_append_own_at _ rfl _ _ 23 rfl w.heap.size 3 i0 (.int .i64 0) 1 8 Try.underlying23 hi hz0 hz1 hz2 rfl (by decide) _ _ _ rfl (O6.out.alloc _) ⟨w6.heap.size, 0, none⟩ 1 1 [_] rfl rfl (cell_one_new _ _ _) (by intro u hu; simp at hu; subst hu; rfl) (by unfold maxLen; omega) (by omega) (by have := s6.out; simp; omega) ?_)
          intro v' w7 O7 G7 _ _
          have A7 := Lib.hid (list_next (k := k) hlt Fx.out (by omega) O7 ((R6.out.alloc _).mono (by omega)) (K6.out.alloc _) G7 hb hB)
          go_wp2
          go_roundw
          case rel => exact A7.out
          case measure => simp [intOf]; omega
      · obtain rfl : j = n := by omega
        obtain ⟨A, cap, rfl, IX⟩ := Ints.of_own OX.out
        by_cases n0 : j = 0
        · subst n0
          have IX := Lib.hid IX
          go_wp2
          go_ret
          exact ⟨A, 0, cap, xs, by omega, Fx.out, rfl, IX.out, RX.out.mono (by omega), KX.out⟩
        · have n1 : (0 : Int) < (j : Int) := by omega
          go_wp2_with fail
          refine (pick_any r 12 _ _ RX.out (by omega) (by omega) (by omega)).mono ?_
          rintro e w4 ⟨x, ⟨x0, x1⟩, rfl, R4, K4⟩
          have O4 := Lib.hid (own_kept OX.out K4 hr)
          have K4 := Lib.hid (KX.out.trans K4)
          have R4 := Lib.hid R4
          by_cases hx : x = 0
          · subst hx
            go_wp2_with fail
            refine (pick_any r _ _ _ R4.out (by omega) (by omega) (by omega)).mono ?_
            rintro e w5 ⟨y, ⟨y0, y1⟩, rfl, R5, K5⟩
            have O5 := Lib.hid (own_kept O4.out K5 hr)
            have K5 := Lib.hid (K4.out.trans K5)
            have R5 := Lib.hid R5
            go_wp2_with fail
            refine (fix_drawn r _ _ R5.out (by omega)).mono ?_
            rintro e w6 ⟨z, hz, rfl, R6, K6⟩
            have O6 := own_kept O5.out K6 hr
            have K6 := Lib.hid (K5.out.trans K6)
            have R6 := Lib.hid R6
            obtain ⟨q, rfl⟩ := Int.eq_ofNat_of_zero_le y0
            have hq : q < j := by omega
            rcases O6.2 with ⟨_, h0⟩ | ⟨g, cp, cur, hv, hbg, hh, _⟩
            · omega
            simp only [Value.slice.injEq, true_and] at hv
            obtain ⟨rfl, rfl⟩ := hv
            have f6 := O6.frozenAt q
            obtain ⟨u6, c6⟩ : ∃ u, w6.cell? ⟨g, q, none⟩ = some u := by
              have hl : (xs.map (Value.int .i64)).length = j := by simpa using O6.1
              exact ⟨_, (O6.cellAt q (by omega)).trans (List.getElem?_eq_getElem (by omega))⟩
            obtain ⟨O7, G7⟩ := O6.stored q (.int .i64 z)
            rw [← List.map_set] at O7
            obtain ⟨A', cap', hv', I7⟩ := Ints.of_own O7
            simp only [Value.slice.injEq, true_and] at hv'
            obtain ⟨rfl, rfl⟩ := hv'
            have F7 := Lib.hid (Fx.out.set q hz)
            have K7 := Lib.hid (K6.out.grown G7 (fun g' e => by simp at e; omega))
            have R7 := Lib.hid (R6.out.grown G7 (fun g' e => by simp at e; omega))
            have I7 := Lib.hid I7
            clear O7 G7 O6 K4 R4 O4 K5 R5 O5 OX RX KX IX K6 R6 hh Fx
            go_wp2
            go_ret
            exact ⟨_, j, _, _, by omega, F7.out, rfl, I7.out, R7.out.mono (by omega), K7.out⟩
          · have hx' : (x == 0) = false := beq_eq_false_iff_ne.2 hx
            obtain ⟨A', cap', hv', I4⟩ := Ints.of_own O4.out
            simp only [Value.slice.injEq, true_and] at hv'
            obtain ⟨rfl, rfl⟩ := hv'
            have I4 := Lib.hid I4
            clear IX OX RX KX O4
            go_wp2
            go_ret
            exact ⟨_, j, _, xs, by omega, Fx.out, rfl, I4.out, R4.out.mono (by omega), K4.out⟩
  · have hc' : (c == 0) = false := beq_eq_false_iff_ne.2 hc
    have OW := O2.out
    have KK := K2.out
    have RR := R2.out.mono (k' := k + 3 + 3 * ((0 : Nat) : Int)) (by omega)
    obtain ⟨n, rfl⟩ := Int.eq_ofNat_of_zero_le a0
    have n201 : n ≤ 201 := by omega
    go_wp2
    go_loopw [3, 5] (ListRel B r k w n) (fun _ i _ => n - (intOf i).toNat)
    case atStart => exact ⟨0, [], Nat.zero_le _, rfl, (fun x hx => by cases hx), OW, RR, KK⟩
    case round =>
      obtain ⟨j, xs, hj, rfl, Fx, OX, RX, KX⟩ := hrel
      have hb := fun g e => (OX.lt g e).1
      have OX := Lib.hid OX
      have RX := Lib.hid RX
      have KX := Lib.hid KX
      have Fx := Lib.hid Fx
      by_cases hlt : j < n
      · go_wp2_with fail
        refine (pick_any r 100 _ _ RX.out (by omega) (by omega) (by omega)).mono ?_
        rintro e w4 ⟨x, ⟨x0, x1⟩, rfl, R4, K4⟩
        have O4 := Lib.hid (own_kept OX.out K4 hr)
        have K4 := Lib.hid (KX.out.trans K4)
        have R4 := Lib.hid R4
        go_wp2_with fail
        refine (pick_any r 100 _ _ R4.out (by omega) (by omega) (by omega)).mono ?_
        rintro e w5 ⟨y, ⟨y0, y1⟩, rfl, R5, K5⟩
        have O5 := Lib.hid (own_kept O4.out K5 hr)
        have K5 := Lib.hid (K4.out.trans K5)
        have R5 := Lib.hid R5
        go_wp2_with fail
        refine (pick_any r 2 _ _ R5.out (by omega) (by omega) (by omega)).mono ?_
        rintro e w6 ⟨b, ⟨b0, b1⟩, rfl, R6, K6⟩
        have O6 := Lib.hid (own_kept O5.out K6 hr)
        have K6 := Lib.hid (K5.out.trans K6)
        have R6 := Lib.hid R6
        clear K4 R4 O4 K5 R5 O5 OX RX KX
        have s6 := Lib.hid K6.out.size
        rcases bit_two b0 b1 with rfl | rfl
        all_goals
          go_wp2_with (at_builtin; refine wpList_append_own_at _ rfl _ _ 23 rfl w.heap.size 3 i0 (.int .i64 0) 1 8 Try.underlying23 hi hz0 hz1 hz2 rfl (by decide) _ _ _ rfl (O6.out.alloc _) ⟨w6.heap.size, 0, none⟩ 1 1 [_] rfl rfl (cell_one_new _ _ _) (by intro u hu; simp at hu; subst hu; rfl) (by unfold maxLen; omega) (by omega) (by have := s6.out; simp; omega) ?_)
          intro v' w7 O7 G7 _ _
          have A7 := Lib.hid (list_next (k := k) hlt Fx.out (by omega) O7 ((R6.out.alloc _).mono (by omega)) (K6.out.alloc _) G7 hb hB)
          go_wp2
          go_roundw
          case rel => exact A7.out
          case measure => simp [intOf]; omega
      · obtain rfl : j = n := by omega
        obtain ⟨A, cap, rfl, IX⟩ := Ints.of_own OX.out
        by_cases n0 : j = 0
        · subst n0
          have IX := Lib.hid IX
          go_wp2
          go_ret
          exact ⟨A, 0, cap, xs, by omega, Fx.out, rfl, IX.out, RX.out.mono (by omega), KX.out⟩
        · have n1 : (0 : Int) < (j : Int) := by omega
          go_wp2_with fail
          refine (pick_any r 12 _ _ RX.out (by omega) (by omega) (by omega)).mono ?_
          rintro e w4 ⟨x, ⟨x0, x1⟩, rfl, R4, K4⟩
          have O4 := Lib.hid (own_kept OX.out K4 hr)
          have K4 := Lib.hid (KX.out.trans K4)
          have R4 := Lib.hid R4
          by_cases hx : x = 0
          · subst hx
            go_wp2_with fail
            refine (pick_any r _ _ _ R4.out (by omega) (by omega) (by omega)).mono ?_
            rintro e w5 ⟨y, ⟨y0, y1⟩, rfl, R5, K5⟩
            have O5 := Lib.hid (own_kept O4.out K5 hr)
            have K5 := Lib.hid (K4.out.trans K5)
            have R5 := Lib.hid R5
            go_wp2_with fail
            refine (fix_drawn r _ _ R5.out (by omega)).mono ?_
            rintro e w6 ⟨z, hz, rfl, R6, K6⟩
            have O6 := own_kept O5.out K6 hr
            have K6 := Lib.hid (K5.out.trans K6)
            have R6 := Lib.hid R6
            obtain ⟨q, rfl⟩ := Int.eq_ofNat_of_zero_le y0
            have hq : q < j := by omega
            rcases O6.2 with ⟨_, h0⟩ | ⟨g, cp, cur, hv, hbg, hh, _⟩
            · omega
            simp only [Value.slice.injEq, true_and] at hv
            obtain ⟨rfl, rfl⟩ := hv
            have f6 := O6.frozenAt q
            obtain ⟨u6, c6⟩ : ∃ u, w6.cell? ⟨g, q, none⟩ = some u := by
              have hl : (xs.map (Value.int .i64)).length = j := by simpa using O6.1
              exact ⟨_, (O6.cellAt q (by omega)).trans (List.getElem?_eq_getElem (by omega))⟩
            obtain ⟨O7, G7⟩ := O6.stored q (.int .i64 z)
            rw [← List.map_set] at O7
            obtain ⟨A', cap', hv', I7⟩ := Ints.of_own O7
            simp only [Value.slice.injEq, true_and] at hv'
            obtain ⟨rfl, rfl⟩ := hv'
            have F7 := Lib.hid (Fx.out.set q hz)
            have K7 := Lib.hid (K6.out.grown G7 (fun g' e => by simp at e; omega))
            have R7 := Lib.hid (R6.out.grown G7 (fun g' e => by simp at e; omega))
            have I7 := Lib.hid I7
            clear O7 G7 O6 K4 R4 O4 K5 R5 O5 OX RX KX IX K6 R6 hh Fx
            go_wp2
            go_ret
            exact ⟨_, j, _, _, by omega, F7.out, rfl, I7.out, R7.out.mono (by omega), K7.out⟩
          · have hx' : (x == 0) = false := beq_eq_false_iff_ne.2 hx
            obtain ⟨A', cap', hv', I4⟩ := Ints.of_own O4.out
            simp only [Value.slice.injEq, true_and] at hv'
            obtain ⟨rfl, rfl⟩ := hv'
            have I4 := Lib.hid I4
            clear IX OX RX KX O4
            go_wp2
            go_ret
            exact ⟨_, j, _, xs, by omega, Fx.out, rfl, I4.out, R4.out.mono (by omega), K4.out⟩

/-- A drawn key. -/
def KeyDrawn (B : Nat) (r : Nat) (k : Int) (w : World) (e : Ending) (w' : World) : Prop :=
  ∃ x : Int, (-1 ≤ x ∧ x ≤ 10000) ∧ e = .returned (.int .i64 x) ∧ RdU B w' r (k + 3) ∧ Kept r w w'

set_option maxHeartbeats 1000000 in
theorem key_drawn {B : Nat} (r : Nat) (k : Int) (w : World) (R : RdU B w r k) (hk : k ≤ 70000) :
    Calls Try.prog 30 #[.pointer (some ⟨r, 0, none⟩)] w (KeyDrawn B r k w) := by
  have hB := R.base
  have hr : r < w.heap.size := by have := R.here; omega
  have R := Lib.hid R
  go_enter Try.func30, Try.ntmps30
  go_wp2_with fail
  refine (pick_any r 20 k _ R.out (by omega) (by omega) (by omega)).mono ?_
  rintro e w1 ⟨a, ⟨a0, a1⟩, rfl, R1, K1⟩
  have r1 : r < w1.heap.size := by have := K1.size; omega
  have K1 := Lib.hid K1
  have R1 := Lib.hid R1
  by_cases ha : a = 0
  · subst ha
    go_wp2_with fail
    refine (pick_any r 4 _ _ (R1.out.alloc _) (by omega) (by omega) (by omega)).mono ?_
    rintro e w2 ⟨c, ⟨c0, c1⟩, rfl, R2, K2⟩
    have cell : ∀ q, q < 4 → w2.cell? ⟨w1.heap.size, q, none⟩ = #[Value.int .i64 0, .int .i64 9999, .int .i64 10000, .int .i64 (-1)][q]? := fun q hq => by
      rw [K2.cell (p := ⟨w1.heap.size, q, none⟩) (by simp) (by simp; omega)]
      simp [World.cell?_alloc_new]
    have cc : c = 0 ∨ c = 1 ∨ c = 2 ∨ c = 3 := by omega
    have K2 := Lib.hid (K1.out.trans ((Kept.refl r w1).alloc _ |>.trans K2))
    have R2 := Lib.hid R2
    have q0 := cell 0 (by omega)
    have q1 := cell 1 (by omega)
    have q2 := cell 2 (by omega)
    have q3 := cell 3 (by omega)
    simp at q0 q1 q2 q3
    clear cell
    rcases cc with rfl | rfl | rfl | rfl
    all_goals
      go_wp2
      go_ret
      exact ⟨_, by omega, rfl, R2.out.mono (by omega), K2.out⟩
  · have ha' : (a == 0) = false := beq_eq_false_iff_ne.2 ha
    go_wp2_with fail
    refine (pick_any r 99 _ _ R1.out (by omega) (by omega) (by omega)).mono ?_
    rintro e w2 ⟨x, ⟨x0, x1⟩, rfl, R2, K2⟩
    have K2 := Lib.hid (K1.out.trans K2)
    have R2 := Lib.hid R2
    go_wp2_with fail
    refine (pick_any r 100 _ _ R2.out (by omega) (by omega) (by omega)).mono ?_
    rintro e w3 ⟨y, ⟨y0, y1⟩, rfl, R3, K3⟩
    have K3 := Lib.hid (K2.out.trans K3)
    have R3 := Lib.hid R3
    clear K1 K2 R1 R2 R
    go_wp2
    go_ret
    exact ⟨_, by omega, rfl, R3.out.mono (by omega), K3.out⟩

/-- A list has been drawn. -/
def DrawnList (w : World) (e : Ending) (w' : World) : Prop :=
  ∃ (A : Option Addr) (n cap : Nat) (xs : List Int), n ≤ 201 ∧ Fits xs ∧ e = .returned (.slice A n cap) ∧ Ints w' A n xs ∧ Below w.heap.size w w'
/-- A key and a list have been drawn. -/
def DrawnTag (w : World) (e : Ending) (w' : World) : Prop :=
  ∃ (k : Int) (A : Option Addr) (n cap : Nat) (xs : List Int), (-1 ≤ k ∧ k ≤ 10000) ∧ n ≤ 201 ∧ Fits xs ∧ e = .returned (.tuple #[.int .i64 k, .slice A n cap]) ∧ Ints w' A n xs ∧ Below w.heap.size w w'

theorem draw_hash (a : Option Addr) (len cap : Nat) (zs : List Int) (w : World) (h : IsRow .u8 w a len cap zs) :
    Calls Try.prog 14 #[.slice a len cap] w (DrawnList w) := by
  go_enter Try.func14, Try.ntmps14
  go_wp2_with fail
  refine (open_any a len cap zs w h).mono ?_
  rintro e w1 ⟨rfl, R1, B1⟩
  go_wp2_with fail
  refine (list_drawn _ 0 w1 R1 (by omega) (by omega)).mono ?_
  rintro e w2 ⟨A, n, c, xs, hn, Fx, rfl, I2, _, K2⟩
  have hB := Lib.hid (B1.trans (K2.below B1.size (Nat.le_refl _)))
  have I2 := Lib.hid I2
  have Fx := Lib.hid Fx
  clear R1 B1 K2
  go_wp2
  go_ret
  exact ⟨A, n, c, xs, hn, Fx.out, rfl, I2.out, hB.out⟩

theorem draw_tag (a : Option Addr) (len cap : Nat) (zs : List Int) (w : World) (h : IsRow .u8 w a len cap zs) :
    Calls Try.prog 17 #[.slice a len cap] w (DrawnTag w) := by
  go_enter Try.func17, Try.ntmps17
  go_wp2_with fail
  refine (open_any a len cap zs w h).mono ?_
  rintro e w1 ⟨rfl, R1, B1⟩
  go_wp2_with fail
  refine (key_drawn _ 0 w1 R1 (by omega)).mono ?_
  rintro e w2 ⟨k, hk, rfl, R2, K2⟩
  go_wp2_with fail
  refine (list_drawn _ _ w2 R2 (by omega) (by omega)).mono ?_
  rintro e w3 ⟨A, n, c, xs, hn, Fx, rfl, I3, _, K3⟩
  have hB := Lib.hid (B1.trans ((K2.trans K3).below B1.size (Nat.le_refl _)))
  have I3 := Lib.hid I3
  have Fx := Lib.hid Fx
  clear R1 R2 B1 K2 K3
  go_wp2
  go_ret2
  exact ⟨k, A, n, c, xs, hk, hn, Fx.out, rfl, I3.out, hB.out⟩

end Go.Proofs.Ytokmkgbmigcjnaa
