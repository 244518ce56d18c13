/-
  What the program's own functions of chapter 2 return, at every argument: the contracts.
  More contracts of the program's own functions of chapter 2.
  More contracts of the program's own functions of chapter 2.
  The contracts of the program's own functions of chapter 2, all but the directions'.
-/
import Derived.Test.YtnoenjociioffabVecS
namespace Go.Proofs.Ytnoenjociioffab
open Go.RowKit
open M

/-- A vector in memory that may be written. -/
structure VCell (w : World) (b : Nat) (x y : Int) : Prop where
  c0 : w.cell? ⟨b, 0, none⟩ = some (.int .i64 x)
  c1 : w.cell? ⟨b, 1, none⟩ = some (.int .i64 y)
  f0 : w.frozen? ⟨b, 0, none⟩ = false
  f1 : w.frozen? ⟨b, 1, none⟩ = false
  lt : b < w.heap.size
theorem VCell.step {W w' : World} {b : Nat} {x y : Int} (h : VCell W b x y) (B : Below W.heap.size W w') : VCell w' b x y :=
  ⟨(B.cell (p := ⟨b, 0, none⟩) h.lt).trans h.c0, (B.cell (p := ⟨b, 1, none⟩) h.lt).trans h.c1, (B.frozen (p := ⟨b, 0, none⟩) h.lt).trans h.f0, (B.frozen (p := ⟨b, 1, none⟩) h.lt).trans h.f1, Nat.lt_of_lt_of_le h.lt B.size⟩
theorem VCell.alloc {W : World} {b : Nat} {x y : Int} (h : VCell W b x y) (o : Obj) : VCell (W.alloc o) b x y := h.step (bl_alloc (bl_refl W) o)
theorem VCell.new (W : World) (b : Nat) (x y : Int) (t : TypeId) (hb : b = W.heap.size) : VCell (W.alloc (.cells #[.int .i64 x, .int .i64 y] t)) b x y := by
  subst hb
  exact ⟨by simp, by simp, by simp, by simp, by simp⟩

theorem prod_bd {a b : Int} (a1 : -1000000 ≤ a) (a2 : a ≤ 1000000) (b1 : -1000000 ≤ b) (b2 : b ≤ 1000000) : -1000000000 ≤ mu a b ∧ mu a b ≤ 1000000000 := by
  have h : (mu a b).natAbs ≤ 1000000 * 1000000 / 1000 := by
    unfold mu
    rw [Int.natAbs_tdiv, Int.natAbs_mul]
    exact Nat.div_le_div_right (Nat.mul_le_mul (by omega) (by omega))
  omega
theorem mul_cl {a b : Int} (ha : okB a = true) (hb : okB b = true) : mulI a b = cl (mu a b) ∧ mulB a b = okB (mu a b) := mul_yes ha hb
theorem mul_in {a b : Int} (a1 : -1000000 ≤ a) (a2 : a ≤ 1000000) (b1 : -1000000 ≤ b) (b2 : b ≤ 1000000) : mulI a b = mu a b ∧ mulB a b = true := by
  have p := prod_bd a1 a2 b1 b2
  obtain ⟨h1, h2⟩ := mul_cl (a := a) (b := b) (ok_yes (by omega)) (ok_yes (by omega))
  exact ⟨h1.trans (cl_id (by omega)), h2.trans (ok_yes (by omega))⟩
theorem add_in {a b : Int} (a1 : -1000000000 ≤ a) (a2 : a ≤ 1000000000) (b1 : -1000000000 ≤ b) (b2 : b ≤ 1000000000) : addI a b = a + b ∧ addB a b = true := by
  obtain ⟨h1, h2⟩ := add_yes (a := a) (b := b) (ok_yes (by omega)) (ok_yes (by omega))
  exact ⟨h1.trans (cl_id (by omega)), h2.trans (ok_yes (by omega))⟩
theorem vok_cl_no {a b : Int} (h : vokB a b = false) : vokB (cl a) (cl b) = false := by
  have g := vok_false h
  refine vok_no fun k => g ?_
  rcases cl_three a with ⟨p, q, _⟩ | ⟨p, q, _⟩ | ⟨p, p2, q, _⟩ <;> rcases cl_three b with ⟨r, s, _⟩ | ⟨r, s, _⟩ | ⟨r, r2, s, _⟩ <;> rw [q, s] at k <;> omega
theorem vok_cl_yes {a b : Int} (h : vokB a b = true) : cl a = a ∧ cl b = b := by
  have g := (vok_iff a b).1 h
  exact ⟨cl_id (by omega), cl_id (by omega)⟩
theorem in_neg {m : Int} (h : m < 0) : inB m 0 1000000 = false := inB_no (by omega)
theorem in_big {m : Int} (h0 : 0 ≤ m) (h : inB m (-1000000) 1000000 = false) : inB m 0 1000000 = false := inB_no fun g => by
  rw [inB_yes (by omega)] at h; cases h
theorem in_mk {m : Int} (h0 : 0 ≤ m) (h : inB m (-1000000) 1000000 = true) : inB m 0 1000000 = true ∧ m ≤ 1000000 := by
  have g : -1000000 ≤ m ∧ m ≤ 1000000 := by simpa [inB] using h
  exact ⟨inB_yes (by omega), by omega⟩

theorem implCoord (n : Int) (w : World) : Calls Try.prog 69 #[.int .i64 n] w fun e w' => e = .returned (.bool (inB n (-1000000) 1000000)) ∧ w = w' := by
  by_cases h1 : -1000000 ≤ n
  · by_cases h2 : n ≤ 1000000
    · have E := Lib.hid (inB_yes (n := n) ⟨h1, h2⟩)
      go_enter Try.func69, Try.ntmps69
      go_wp2
      go_ret
      exact ⟨ret_b (by rw [E.out]), rfl⟩
    · have E := Lib.hid (inB_no (n := n) (lo := -1000000) (hi := 1000000) (by omega))
      go_enter Try.func69, Try.ntmps69
      go_wp2
      go_ret
      exact ⟨ret_b (by rw [E.out]), rfl⟩
  · have E := Lib.hid (inB_no (n := n) (lo := -1000000) (hi := 1000000) (by omega))
    go_enter Try.func69, Try.ntmps69
    go_wp2
    go_ret
    exact ⟨ret_b (by rw [E.out]), rfl⟩

theorem implVecOk (x y : Int) (w : World) : Calls Try.prog 42 #[vec x y] w fun e w' => e = .returned (.bool (vokB x y)) ∧ Below w.heap.size w w' := by
  cases hx : inB x (-1000000) 1000000
  · have E := Lib.hid (vok_no1 (y := y) hx)
    go_enter Try.func42, Try.ntmps42
    go_wp2_with (go_at_call 69; refine (implCoord _ _).mono ?_; rintro e w' ⟨rfl, rfl⟩)
    go_ret
    exact ⟨ret_b (by rw [E.out]), bl_alloc (Below.refl _ _) _⟩
  · have E := Lib.hid (vok_yes1 (y := y) hx)
    go_enter Try.func42, Try.ntmps42
    go_wp2_with (go_at_call 69; refine (implCoord _ _).mono ?_; rintro e w' ⟨rfl, rfl⟩)
    go_ret
    exact ⟨ret_b (by rw [E.out]), bl_alloc (Below.refl _ _) _⟩

/-- The contract of VecOk with its answer given. -/
theorem implVecOk' (x y : Int) (b : Bool) (w : World) (h : vokB x y = b) : Calls Try.prog 42 #[vec x y] w fun e w' => e = .returned (.bool b) ∧ Below w.heap.size w w' := by
  subst h
  exact implVecOk x y w

theorem va_out {x y u v : Int} (h : vokB x y = true) (g : vokB u v = true) (k : vokB (x + u) (y + v) = false) : vaX x y u v = 0 ∧ vaY x y u v = 0 ∧ vaB x y u v = false := by
  obtain ⟨e1, e2, e3⟩ := va_yes h g
  obtain ⟨r1, r2⟩ := rng_no k
  exact ⟨e1.trans r1, e2.trans r2, e3.trans k⟩
theorem va_got {x y u v : Int} (h : vokB x y = true) (g : vokB u v = true) (k : vokB (x + u) (y + v) = true) : vaX x y u v = x + u ∧ vaY x y u v = y + v ∧ vaB x y u v = true := by
  obtain ⟨e1, e2, e3⟩ := va_yes h g
  obtain ⟨r1, r2⟩ := rng_yes k
  exact ⟨e1.trans r1, e2.trans r2, e3.trans k⟩

end Go.Proofs.Ytnoenjociioffab

namespace Go.Proofs.Ytnoenjociioffab
open Go.RowKit
open M

theorem vs_out {x y k : Int} (h : vokB x y = true) (g : okB k = true) (q : vokB (mu x k) (mu y k) = false) : vsX x y k = 0 ∧ vsY x y k = 0 ∧ vsB x y k = false := by
  obtain ⟨e1, e2, e3⟩ := vs_yes h g
  obtain ⟨r1, r2⟩ := rng_no q
  exact ⟨e1.trans r1, e2.trans r2, e3.trans q⟩
theorem vs_got {x y k : Int} (h : vokB x y = true) (g : okB k = true) (q : vokB (mu x k) (mu y k) = true) : vsX x y k = mu x k ∧ vsY x y k = mu y k ∧ vsB x y k = true := by
  obtain ⟨e1, e2, e3⟩ := vs_yes h g
  obtain ⟨r1, r2⟩ := rng_yes q
  exact ⟨e1.trans r1, e2.trans r2, e3.trans q⟩

end Go.Proofs.Ytnoenjociioffab

namespace Go.Proofs.Ytnoenjociioffab
open Go.RowKit
open M

set_option maxHeartbeats 400000 in
theorem implVLen0 (x y : Int) (w : World) (x1 : -1000000 ≤ x) (x2 : x ≤ 1000000) (y1 : -1000000 ≤ y) (y2 : y ≤ 1000000) : Calls Try.prog 43 #[vec x y] w fun e w' => e = .returned (.int .i64 (vl x y)) ∧ Below w.heap.size w w' := by
  have a := square_bd x1 x2
  have b := square_bd y1 y2
  go_enter Try.func43, Try.ntmps43
  go_wp2_with fail
  go_quiet (fail)
  go_wp2_with fail
  refine (implRoot _ _ (by omega) (by omega)).mono ?_
  rintro e w' ⟨rfl, rfl⟩
  go_wp2
  go_ret
  exact ⟨ret_int rfl, by repeat (first | exact bl_refl _ | refine bl_alloc ?_ _ | refine bl_drew ?_ _)⟩
theorem implVLen0' (x y L : Int) (w : World) (hL : vl x y = L) (x1 : -1000000 ≤ x) (x2 : x ≤ 1000000) (y1 : -1000000 ≤ y) (y2 : y ≤ 1000000) : Calls Try.prog 43 #[vec x y] w fun e w' => e = .returned (.int .i64 L) ∧ Below w.heap.size w w' := by
  subst hL
  exact implVLen0 x y w x1 x2 y1 y2

theorem implVLen (x y : Int) (w : World) : Calls Try.prog 21 #[vec x y] w fun e w' => e = .returned (.tuple #[.int .i64 (vlI x y), .bool (vokB x y)]) ∧ Below w.heap.size w w' := by
  cases h : vokB x y
  · have E := Lib.hid (vl_no h)
    have h := Lib.hid h
    go_enter Try.func21, Try.ntmps21
    go_wp2_with fail
    refine (implVecOk' x y false _ h.out).mono ?_
    rintro e w1 ⟨rfl, B1⟩
    have H1 := Lib.hid (bl_trans (bl_alloc (bl_refl w) _) B1)
    have V1 : VCell w1 (w.heap.size) x y := (VCell.new _ _ x y _ (by first | rfl | simp)).step B1
    clear B1
    have c1a := V1.c0
    have c1b := V1.c1
    have f1a := V1.f0
    have f1b := V1.f1
    have l1 := V1.lt
    go_wp2
    go_ret2
    exact ⟨ret_ib (by rw [E.out]) rfl, by repeat (first | exact H1.out | refine bl_alloc ?_ _ | refine bl_drew ?_ _)⟩
  · have E := Lib.hid (vl_yes h)
    obtain ⟨⟨x1, x2⟩, y1, y2⟩ := (vok_iff x y).1 h
    have h := Lib.hid h
    go_enter Try.func21, Try.ntmps21
    go_wp2_with fail
    refine (implVecOk' x y true _ h.out).mono ?_
    rintro e w1 ⟨rfl, B1⟩
    have H1 := Lib.hid (bl_trans (bl_alloc (bl_refl w) _) B1)
    have V1 : VCell w1 (w.heap.size) x y := (VCell.new _ _ x y _ (by first | rfl | simp)).step B1
    clear B1
    have c1a := V1.c0
    have c1b := V1.c1
    have f1a := V1.f0
    have f1b := V1.f1
    have l1 := V1.lt
    go_wp2_with fail
    refine (implVLen0 _ _ _ x1 x2 y1 y2).mono ?_
    rintro e w2 ⟨rfl, B2⟩
    have H2 := Lib.hid (bl_trans (H1.out) B2)
    have V2 : VCell w2 w.heap.size x y := V1.step B2
    clear B2 H1 V1 c1a c1b f1a f1b l1
    have c2a := V2.c0
    have c2b := V2.c1
    have f2a := V2.f0
    have f2b := V2.f1
    have l2 := V2.lt
    go_wp2
    go_ret2
    exact ⟨ret_ib (by rw [E.out]) rfl, by repeat (first | exact H2.out | refine bl_alloc ?_ _ | refine bl_drew ?_ _)⟩

/-- The contract of coordinateOk with its answer given. -/
theorem implCoord' (n : Int) (b : Bool) (w : World) (h : inB n (-1000000) 1000000 = b) : Calls Try.prog 69 #[.int .i64 n] w fun e w' => e = .returned (.bool b) ∧ w = w' := by
  subst h
  exact implCoord n w

end Go.Proofs.Ytnoenjociioffab
