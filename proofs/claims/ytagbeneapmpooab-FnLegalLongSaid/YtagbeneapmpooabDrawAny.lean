/-
  The inputs that the model draws for the laws on legal runs, with their level.
-/
import Derived.Test.YtagbeneapmpooabDrawRun
import Derived.Test.YtagbeneapmpooabDrawLevB
namespace Go.Proofs.Ytagbeneapmpooab
open Go.RowKit
open M

theorem icl_set : ∀ (xs : List In) (i : Nat) (q : In), i < xs.length → (((icl xs).set (i * 3) (.int .i64 q.s)).set (i * 3 + 1) (.int .i64 q.p)).set (i * 3 + 2) (.bool q.z) = icl (xs.set i q)
  | [], i, q, h => absurd h (by simp)
  | a :: xs, 0, q, _ => rfl
  | a :: xs, i + 1, q, h => by
    have e : (i + 1) * 3 = i * 3 + 1 + 1 + 1 := by omega
    have t := icl_set xs i q (by simpa using h)
    rw [e]
    simp only [icl, List.set_cons_succ]
    rw [t]
/-- Drawn inputs. -/
def AnyDrawn (B : Nat) (r : Nat) (k : Int) (w : World) (e : Ending) (w' : World) : Prop :=
  ∃ (A : Option Addr) (n c : Nat) (xs : List In), e = .returned (.slice A n c) ∧ (n ≤ 63 ∧ n ≤ c) ∧ Inputs w' A n xs ∧ Mine w.heap.size A ∧ RdU B w' r (k + 230) ∧ Kept r w w'
theorem any_out {B r : Nat} {k k' : Int} {w W : World} {v : Value} {N : Nat} {ys : List In} (O : W.ownsRow w.heap.size 37 3 v N (icl ys)) (hN : N ≤ 63) (R : RdU B W r k') (hk : k' ≤ k + 230) (K : Kept r w W) : AnyDrawn B r k w (.returned v) W := by
  obtain ⟨A, c, rfl, I, M⟩ := Inputs.of_own O
  exact ⟨A, N, c, ys, rfl, ⟨hN, own_cap O⟩, I, M, R.mono hk, K⟩
theorem Inputs.two (w : World) (B : Nat) (a b : Int) (c : Bool) (d e : Int) (f : Bool) (t : TypeId) (hB : B = w.heap.size) : Inputs (w.alloc (.cells #[.int .i64 a, .int .i64 b, .bool c, .int .i64 d, .int .i64 e, .bool f] t)) (some ⟨B, 0, none⟩) 2 [⟨a, b, c⟩, ⟨d, e, f⟩] :=
  hB ▸ ⟨rfl, fun _ => ⟨w.heap.size, 0, rfl, by simp, fun k hk => by
    match k, hk with
    | 0, _ => exact ⟨by simp, by simp, by simp⟩
    | 1, _ => exact ⟨by simp, by simp, by simp⟩⟩⟩
theorem Inputs.three (w : World) (B : Nat) (a b : Int) (c : Bool) (d e : Int) (f : Bool) (g h : Int) (i : Bool) (t : TypeId) (hB : B = w.heap.size) : Inputs (w.alloc (.cells #[.int .i64 a, .int .i64 b, .bool c, .int .i64 d, .int .i64 e, .bool f, .int .i64 g, .int .i64 h, .bool i] t)) (some ⟨B, 0, none⟩) 3 [⟨a, b, c⟩, ⟨d, e, f⟩, ⟨g, h, i⟩] :=
  hB ▸ ⟨rfl, fun _ => ⟨w.heap.size, 0, rfl, by simp, fun k hk => by
    match k, hk with
    | 0, _ => exact ⟨by simp, by simp, by simp⟩
    | 1, _ => exact ⟨by simp, by simp, by simp⟩
    | 2, _ => exact ⟨by simp, by simp, by simp⟩⟩⟩

set_option maxRecDepth 100000 in
set_option maxHeartbeats 4000000 in
theorem any_drawn {B : Nat} (r : Nat) (k : Int) (i t x y : Int) (A : Option Addr) (n c : Nat) (G : Option Addr) (m kk : Nat) (fp fq fs fz b : Int) (ws gs : List Bx) (w : World) (R : RdU B w r k) (k0 : 0 ≤ k) (hk : k ≤ 50000) (I : Boxes w A n ws) (J : Boxes w G m gs) (MA : Mine B A) (MG : Mine B G) (ok : bxs ws = true) (hn : n ≤ 10) (hm : m ≤ 10) (hL : Lnum t x y b) :
    Calls Try.prog 17 #[.pointer (some ⟨r, 0, none⟩), lev i t x y A n c G m kk fp fq fs fz b] w (AnyDrawn B r k w) := by
  have hr := R.here
  have hB := R.base
  go_enter Try.func17, Try.ntmps17
  go_wp2_with fail
  refine (run_drawn r k i t x y A n c G m kk fp fq fs fz b ws gs _ (R.alloc (.cells #[.int .i64 i, .int .i64 t, .int .i64 x, .int .i64 y, .slice A n c, .slice G m kk, .int .i64 fp, .int .i64 fq, .int .i64 fs, .int .i64 fz, .int .i64 b] 29)) k0 (by omega) (I.alloc (.cells #[.int .i64 i, .int .i64 t, .int .i64 x, .int .i64 y, .slice A n c, .slice G m kk, .int .i64 fp, .int .i64 fq, .int .i64 fs, .int .i64 fz, .int .i64 b] 29)) (J.alloc (.cells #[.int .i64 i, .int .i64 t, .int .i64 x, .int .i64 y, .slice A n c, .slice G m kk, .int .i64 fp, .int .i64 fq, .int .i64 fs, .int .i64 fz, .int .i64 b] 29)) MA MG ok hn hm hL).mono ?_
  rintro e w1 ⟨v, N, xs, rfl, hN, O, R1, K⟩
  replace O := Lib.hid (own_low O (show w.heap.size ≤ (w.alloc (.cells #[.int .i64 i, .int .i64 t, .int .i64 x, .int .i64 y, .slice A n c, .slice G m kk, .int .i64 fp, .int .i64 fq, .int .i64 fs, .int .i64 fz, .int .i64 b] 29)).heap.size + 1 by simp; omega))
  replace K := Lib.hid (((Kept.refl r w).alloc (.cells #[.int .i64 i, .int .i64 t, .int .i64 x, .int .i64 y, .slice A n c, .slice G m kk, .int .i64 fp, .int .i64 fq, .int .i64 fs, .int .i64 fz, .int .i64 b] 29)).trans K)
  have RR := Lib.hid R1
  clear R1 R I J MA MG ok hL
  go_wp2_with fail
  refine (pick_any r 12 _ _ RR.out (by omega) (by omega) (by omega)).mono ?_
  rintro e w2 ⟨c0, ⟨c1, c2⟩, rfl, R1, K1⟩
  replace O := Lib.hid (O.out.kept K1.grows (.inr fun he => by have := (O.out.lt r he).1; omega))
  replace K := Lib.hid (K.out.trans K1)
  replace RR := Lib.hid R1
  clear K1 R1
  obtain ⟨A1, ca, hv, _, _⟩ := Inputs.of_own O.out
  subst hv
  by_cases e0 : c0 = 0
  · subst e0
    have hz := K.out.size
    go_wp2_with (at_builtin; refine append_inputs _ rfl (.tmp 13) (.tmp 16) rfl w.heap.size (.slice A1 N ca) N xs rfl (O.out.alloc _) (some ⟨w2.heap.size, 0, none⟩) 2 2 [⟨0, 0, false⟩, ⟨0, 1, false⟩] rfl (Inputs.two w2 w2.heap.size 0 0 false 0 1 false _ rfl) (by omega) (by simp; omega) ?_)
    intro v' w9 O9 G9 _
    replace O9 := Lib.hid O9
    have K9 := Lib.hid ((K.out.alloc _).grown G9 (fun g e => (O.out.lt g e).1))
    have R9 := Lib.hid ((RR.out.alloc _).grown G9 (fun g e => by have := (O.out.lt g e).1; omega))
    clear G9 O K RR
    go_wp2
    go_ret
    exact any_out O9.out (by omega) R9.out (by omega) K9.out
  by_cases e1 : c0 = 1
  · subst e1
    by_cases h0 : N = 0
    · subst h0
      go_wp2
      go_ret
      exact any_out O.out (by omega) RR.out (by omega) K.out
    have hpos : (0 : Int) < (N : Int) := by omega
    go_wp2_with fail
    refine (pick_any r N _ _ RR.out (by omega) (by omega) (by omega)).mono ?_
    rintro e w3 ⟨ix, ⟨ix0, ix1⟩, rfl, R1, K1⟩
    replace O := Lib.hid (O.out.kept K1.grows (.inr fun he => by have := (O.out.lt r he).1; omega))
    replace K := Lib.hid (K.out.trans K1)
    replace RR := Lib.hid R1
    clear K1 R1
    obtain ⟨ix, rfl⟩ := Int.eq_ofNat_of_zero_le ix0
    have hix : ix < N := by omega
    go_wp2_with fail
    refine (input_drawn r _ _ RR.out (by omega)).mono ?_
    rintro e w4 ⟨a, p, z, _, rfl, R1, K1⟩
    replace O := Lib.hid (O.out.kept K1.grows (.inr fun he => by have := (O.out.lt r he).1; omega))
    replace K := Lib.hid (K.out.trans K1)
    replace RR := Lib.hid R1
    clear K1 R1
    obtain ⟨gb, rfl⟩ : ∃ gb, A1 = some ⟨gb, 0, none⟩ := by
      rcases O.out.2 with ⟨_, h⟩ | ⟨g, cap, cur, h, _⟩
      · omega
      · cases h
        exact ⟨g, rfl⟩
    have hl : xs.length = N := by have := O.out.1; rw [icl_len] at this; omega
    have gB := (O.out.lt gb rfl).1
    have gl := (O.out.lt gb rfl).2
    have ci0 := O.out.cellAt (ix * 3) (by omega)
    have ci1 := O.out.cellAt (ix * 3 + 1) (by omega)
    have ci2 := O.out.cellAt (ix * 3 + 2) (by omega)
    have j0 := icl_at xs ix 0 (by omega) (by omega)
    rw [Nat.add_zero] at j0
    rw [j0] at ci0
    rw [icl_at xs ix 1 (by omega) (by omega)] at ci1
    rw [icl_at xs ix 2 (by omega) (by omega)] at ci2
    have fi0 := O.out.frozenAt (ix * 3)
    have fi1 := O.out.frozenAt (ix * 3 + 1)
    have fi2 := O.out.frozenAt (ix * 3 + 2)
    have O5 := Lib.hid (show ((((w4.setCell ⟨gb, ix * 3, none⟩ (.int .i64 a)).setCell ⟨gb, ix * 3 + 1, none⟩ (.int .i64 p)).setCell ⟨gb, ix * 3 + 2, none⟩ (.bool z))).ownsRow w.heap.size 37 3 (.slice (some ⟨gb, 0, none⟩) N ca) N (icl (xs.set ix ⟨a, p, z⟩)) from (icl_set xs ix ⟨a, p, z⟩ (by omega)) ▸ ((((O.out.stored (ix * 3) _).1.stored (ix * 3 + 1) _).1.stored (ix * 3 + 2) _).1))
    have K5 := Lib.hid (((K.out.set gb (ix * 3) (.int .i64 a) gB).set gb (ix * 3 + 1) (.int .i64 p) gB).set gb (ix * 3 + 2) (.bool z) gB)
    have R5 := Lib.hid (((RR.out.set gb (ix * 3) (.int .i64 a) (by omega)).set gb (ix * 3 + 1) (.int .i64 p) (by omega)).set gb (ix * 3 + 2) (.bool z) (by omega))
    clear j0 O K RR
    generalize icomp (xs.getD ix iz) 0 = q0 at *
    generalize icomp (xs.getD ix iz) 1 = q1 at *
    generalize icomp (xs.getD ix iz) 2 = q2 at *
    go_wp2
    go_ret
    exact any_out O5.out (by omega) R5.out (by omega) K5.out
  by_cases e2 : c0 = 2
  · subst e2
    go_wp2_with fail
    refine (input_drawn r _ _ RR.out (by omega)).mono ?_
    rintro e w3 ⟨a, p, z, _, rfl, R1, K1⟩
    replace O := Lib.hid (O.out.kept K1.grows (.inr fun he => by have := (O.out.lt r he).1; omega))
    replace K := Lib.hid (K.out.trans K1)
    replace RR := Lib.hid R1
    clear K1 R1
    go_wp2_with fail
    refine (input_drawn r _ _ RR.out (by omega)).mono ?_
    rintro e w4 ⟨a2, p2, z2, _, rfl, R1, K1⟩
    replace O := Lib.hid (O.out.kept K1.grows (.inr fun he => by have := (O.out.lt r he).1; omega))
    replace K := Lib.hid (K.out.trans K1)
    replace RR := Lib.hid R1
    clear K1 R1
    go_wp2_with fail
    refine (input_drawn r _ _ RR.out (by omega)).mono ?_
    rintro e w5 ⟨a3, p3, z3, _, rfl, R1, K1⟩
    replace O := Lib.hid (O.out.kept K1.grows (.inr fun he => by have := (O.out.lt r he).1; omega))
    replace K := Lib.hid (K.out.trans K1)
    replace RR := Lib.hid R1
    clear K1 R1
    have hz := K.out.size
    go_wp2_with (at_builtin; refine append_inputs _ rfl (.tmp 33) (.tmp 40) rfl w.heap.size (.slice A1 N ca) N xs rfl (O.out.alloc _) (some ⟨w5.heap.size, 0, none⟩) 3 3 [⟨a, p, z⟩, ⟨a2, p2, z2⟩, ⟨a3, p3, z3⟩] rfl (Inputs.three w5 w5.heap.size a p z a2 p2 z2 a3 p3 z3 _ rfl) (by omega) (by simp; omega) ?_)
    intro v' w9 O9 G9 _
    replace O9 := Lib.hid O9
    have K9 := Lib.hid ((K.out.alloc _).grown G9 (fun g e => (O.out.lt g e).1))
    have R9 := Lib.hid ((RR.out.alloc _).grown G9 (fun g e => by have := (O.out.lt g e).1; omega))
    clear G9 O K RR
    go_wp2
    go_ret
    exact any_out O9.out (by omega) R9.out (by omega) K9.out
  have d0 : (c0 == 0) = false := beq_eq_false_iff_ne.2 e0
  have d1 : (c0 == 1) = false := beq_eq_false_iff_ne.2 e1
  have d2 : (c0 == 2) = false := beq_eq_false_iff_ne.2 e2
  clear e0 e1 e2
  go_wp2
  go_ret
  exact any_out O.out (by omega) RR.out (by omega) K.out

def DrawnLL (w : World) (e : Ending) (w' : World) : Prop :=
  ∃ (i t x y : Int) (A : Option Addr) (n c : Nat) (G : Option Addr) (m kk : Nat) (fp fq fs fz b : Int) (ws gs : List Bx) (D : Option Addr) (N cc : Nat) (xs : List In), e = .returned (.tuple #[lev i t x y A n c G m kk fp fq fs fz b, .slice D N cc]) ∧ (n ≤ 20 ∧ n ≤ c) ∧ (m ≤ 20 ∧ m ≤ kk) ∧ (N ≤ 63 ∧ N ≤ cc) ∧ Boxes w' A n ws ∧ Boxes w' G m gs ∧ Inputs w' D N xs ∧ Below w.heap.size w w'

set_option maxRecDepth 100000 in
set_option maxHeartbeats 4000000 in
theorem draw_legal (a : Option Addr) (len cap : Nat) (zs : List Int) (w : World) (h : IsRow .u8 w a len cap zs) : Calls Try.prog 9 #[.slice a len cap] w (DrawnLL w) := by
  have h1 := h.below (w' := w.alloc (.cells #[.int .i64 0, .int .i64 0, .int .i64 0, .int .i64 0, .slice none 0 0, .slice none 0 0, .int .i64 0, .int .i64 0, .int .i64 0, .int .i64 0, .int .i64 0] 29)) (bl_alloc (bl_refl w) _)
  have D : CellsAt (w.alloc (.cells #[.int .i64 0, .int .i64 0, .int .i64 0, .int .i64 0, .slice none 0 0, .slice none 0 0, .int .i64 0, .int .i64 0, .int .i64 0, .int .i64 0, .int .i64 0] 29)) w.heap.size (lvs 0 0 0 0 none 0 0 none 0 0 0 0 0 0 0) := CellsAt.new w _ _ _ rfl
  have H := Lib.hid (bl_alloc (bl_refl w) (.cells #[.int .i64 0, .int .i64 0, .int .i64 0, .int .i64 0, .slice none 0 0, .slice none 0 0, .int .i64 0, .int .i64 0, .int .i64 0, .int .i64 0, .int .i64 0] 29))
  go_enter Try.func9, Try.ntmps9
  go_wp2_with fail
  refine (open_any a len cap zs (w.alloc (.cells #[.int .i64 0, .int .i64 0, .int .i64 0, .int .i64 0, .slice none 0 0, .slice none 0 0, .int .i64 0, .int .i64 0, .int .i64 0, .int .i64 0, .int .i64 0] 29)) h1).mono ?_
  rintro e w1 ⟨rfl, R1, B⟩
  simp at R1
  have z1 := R1.base
  replace D := D.step B
  replace H := Lib.hid (bl_trans H.out B)
  clear B h1 h
  go_wp2_with fail
  refine (level_drawn2 _ 0 _ R1 (by omega)).mono ?_
  rintro e w2 ⟨i', t', x', y', A', n', c', G', m', kk', p', q', s', z', b', ws', gs', rfl, hn', hm', HL', I2, J2, MA', MG', R2, K⟩
  have z2 := K.size
  replace D := (D.kept K (by omega)).alloc (.cells #[.int .i64 i', .int .i64 t', .int .i64 x', .int .i64 y', .slice A' n' c', .slice G' m' kk', .int .i64 p', .int .i64 q', .int .i64 s', .int .i64 z', .int .i64 b'] 29)
  replace H := Lib.hid (bl_alloc (kp_below H.out K (by omega)) (.cells #[.int .i64 i', .int .i64 t', .int .i64 x', .int .i64 y', .slice A' n' c', .slice G' m' kk', .int .i64 p', .int .i64 q', .int .i64 s', .int .i64 z', .int .i64 b'] 29))
  have L : CellsAt (w2.alloc (.cells #[.int .i64 i', .int .i64 t', .int .i64 x', .int .i64 y', .slice A' n' c', .slice G' m' kk', .int .i64 p', .int .i64 q', .int .i64 s', .int .i64 z', .int .i64 b'] 29)) w2.heap.size (lvs i' t' x' y' A' n' c' G' m' kk' p' q' s' z' b') := CellsAt.new _ _ _ _ rfl
  replace I2 := I2.alloc (.cells #[.int .i64 i', .int .i64 t', .int .i64 x', .int .i64 y', .slice A' n' c', .slice G' m' kk', .int .i64 p', .int .i64 q', .int .i64 s', .int .i64 z', .int .i64 b'] 29)
  replace J2 := J2.alloc (.cells #[.int .i64 i', .int .i64 t', .int .i64 x', .int .i64 y', .slice A' n' c', .slice G' m' kk', .int .i64 p', .int .i64 q', .int .i64 s', .int .i64 z', .int .i64 b'] 29)
  replace R2 := R2.alloc (.cells #[.int .i64 i', .int .i64 t', .int .i64 x', .int .i64 y', .slice A' n' c', .slice G' m' kk', .int .i64 p', .int .i64 q', .int .i64 s', .int .i64 z', .int .i64 b'] 29)
  have MA2 : Mine _ A' := fun g off e => by have := MA' g off e; exact Nat.le_trans z1 this
  have MG2 : Mine _ G' := fun g off e => by have := MG' g off e; exact Nat.le_trans z1 this
  clear R1 K MA' MG'
  have Lc0 := L.cell 0 _ rfl
  have Lc1 := L.cell 1 _ rfl
  have Lc2 := L.cell 2 _ rfl
  have Lc3 := L.cell 3 _ rfl
  have Lc4 := L.cell 4 _ rfl
  have Lc5 := L.cell 5 _ rfl
  have Lc6 := L.cell 6 _ rfl
  have Lc7 := L.cell 7 _ rfl
  have Lc8 := L.cell 8 _ rfl
  have Lc9 := L.cell 9 _ rfl
  have Lc10 := L.cell 10 _ rfl
  have Ll := L.lt
  go_wp2_with fail
  refine (any_drawn _ _ i' t' x' y' A' n' c' G' m' kk' p' q' s' z' b' ws' gs' _ R2 (by omega) (by omega) I2 J2 MA2 MG2 HL'.1.ok hn'.1 hm'.1 HL'.2).mono ?_
  rintro e w3 ⟨E, N, cc, xs, rfl, hN, Y, ME, R3, K⟩
  have z3 := K.size
  simp at z3
  clear Lc0 Lc1 Lc2 Lc3 Lc4 Lc5 Lc6 Lc7 Lc8 Lc9 Lc10 Ll
  replace D := D.kept K (by omega)
  replace L := L.kept K (by omega)
  replace H := Lib.hid (kp_below H.out K (by omega))
  replace I2 := I2.kept K (fun _ g off e => by have := MA2 g off e; omega)
  replace J2 := J2.kept K (fun _ g off e => by have := MG2 g off e; omega)
  clear R2 K
  have Lc0 := L.cell 0 _ rfl
  have Lc1 := L.cell 1 _ rfl
  have Lc2 := L.cell 2 _ rfl
  have Lc3 := L.cell 3 _ rfl
  have Lc4 := L.cell 4 _ rfl
  have Lc5 := L.cell 5 _ rfl
  have Lc6 := L.cell 6 _ rfl
  have Lc7 := L.cell 7 _ rfl
  have Lc8 := L.cell 8 _ rfl
  have Lc9 := L.cell 9 _ rfl
  have Lc10 := L.cell 10 _ rfl
  have Ll := L.lt
  go_wp2_with fail
  refine (bent_drawn _ _ i' t' x' y' A' n' c' G' m' kk' p' q' s' z' b' ws' gs' _ R3 (by omega) (by omega) I2 J2 MA2 MG2 hn' hm' HL'.1.lows).mono ?_
  rintro e w4 ⟨i, t, x, y, A, n, c, G, m, kk, fp, fq, fs, fz, b, ws, gs, rfl, hn, hm, HL, I, J, MA, MG, R4, K⟩
  have z4 := K.size
  clear Lc0 Lc1 Lc2 Lc3 Lc4 Lc5 Lc6 Lc7 Lc8 Lc9 Lc10 Ll hn' hm' HL' I2 J2 MA2 MG2 L R3
  replace D := D.kept K (by omega)
  replace H := Lib.hid (kp_below H.out K (by omega))
  replace Y := Lib.hid (Y.kept K (fun _ g off e => by have := ME g off e; simp at this; omega))
  replace I := Lib.hid I
  replace J := Lib.hid J
  replace MA := Lib.hid MA
  replace MG := Lib.hid MG
  replace ME := Lib.hid ME
  clear K R4 HL
  go_wp2_with (refine store_new rfl 29 (.tmp 2) (.tmp 16) rfl w.heap.size rfl (lvs i t x y A n c G m kk fp fq fs fz b) rfl _ D (by simp) level_size rfl ?_)
  intro w5 K N5
  have Y5 := Lib.hid (Y.out.kept K (fun _ g off e => by have := ME.out g off e; simp at this; omega))
  have I5 := Lib.hid (I.out.kept K (fun _ g off e => by have := MA.out g off e; omega))
  have J5 := Lib.hid (J.out.kept K (fun _ g off e => by have := MG.out g off e; omega))
  have H5 := Lib.hid (kp_below H.out K (by omega))
  clear K Y I J H MA MG ME D
  go_wp2
  exact bodyPost_ret (v := .tuple #[lev i t x y A n c G m kk fp fq fs fz b, .slice E N cc]) (res_cells_tmp rfl w.heap.size rfl (lvs i t x y A n c G m kk fp fq fs fz b) N5 (.slice E N cc) rfl Try.underlying29 rfl level_size) rfl ⟨i, t, x, y, A, n, c, G, m, kk, fp, fq, fs, fz, b, ws, gs, E, N, cc, xs, rfl, hn, hm, hN, I5.out, J5.out, Y5.out, H5.out⟩

end Go.Proofs.Ytagbeneapmpooab
