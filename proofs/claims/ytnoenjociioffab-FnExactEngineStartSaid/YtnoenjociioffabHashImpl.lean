/-
  What the program's own functions of chapter 4 return, at every argument: the contracts.
-/
import Derived.Test.YtnoenjociioffabHashS
import Derived.Test.YtnoenjociioffabRdS
import Derived.Test.YtnoenjociioffabRowS
import Derived.Deep.RegionHeld3
namespace Go.Proofs.Ytnoenjociioffab
open Go.RowKit
open M

/-- An integer in memory that may be written. -/
structure ICell (w : World) (b : Nat) (x : Int) : Prop where
  c0 : w.cell? ⟨b, 0, none⟩ = some (.int .i64 x)
  f0 : w.frozen? ⟨b, 0, none⟩ = false
  lt : b < w.heap.size
theorem ICell.of {W w' : World} {b : Nat} {x : Int} (h : ICell W b x) (e : w'.heap[b]? = W.heap[b]?) (hs : W.heap.size ≤ w'.heap.size) : ICell w' b x :=
  ⟨(World.cell?_of_block (a := ⟨b, 0, none⟩) e).trans h.c0, (World.frozen?_of_block (a := ⟨b, 0, none⟩) e).trans h.f0, Nat.lt_of_lt_of_le h.lt hs⟩
theorem ICell.step {W w' : World} {b : Nat} {x : Int} (h : ICell W b x) (B : Below W.heap.size W w') : ICell w' b x := h.of (B.block b h.lt) B.size
theorem ICell.alloc {W : World} {b : Nat} {x : Int} (h : ICell W b x) (o : Obj) : ICell (W.alloc o) b x := h.step (bl_alloc (bl_refl W) o)
theorem ICell.drew {W : World} {b : Nat} {x : Int} (h : ICell W b x) : ICell W.drew b x := ⟨h.c0, h.f0, h.lt⟩
theorem ICell.new (W : World) (b : Nat) (x : Int) (ty : TypeId) (hb : b = W.heap.size) : ICell (W.alloc (.cells #[.int .i64 x] ty)) b x := by
  subst hb
  exact ⟨by simp, by simp, by simp⟩
theorem ICell.set {W : World} {b : Nat} {x : Int} (h : ICell W b x) (z : Int) : ICell (W.setCell ⟨b, 0, none⟩ (.int .i64 z)) b z :=
  ⟨World.cell?_setCell_same' _ _ _ (by rw [h.c0]; rfl), (by rw [World.frozen?_setCell]; exact h.f0), (by rw [World.size_setCell]; exact h.lt)⟩
theorem Kept.mine {r : Nat} {w a : World} (h : Kept r w a) (o : Nat) (v : Value) : Kept r w (a.setCell ⟨r, o, none⟩ v) :=
  ⟨h.os, h.tape, h.output, by simpa [World.setCell] using h.size, fun k hk hr => (Below.heap_setCell a ⟨r, o, none⟩ v k hr).trans (h.block k hk hr)⟩
theorem Kept.drewd {r : Nat} {w a : World} (h : Kept r w a) : Kept r w a.drew := ⟨h.os, h.tape, h.output, h.size, h.block⟩
/-- The list lies elsewhere than block b. -/
def Off (A : Option Addr) (n b : Nat) : Prop := 0 < n → ∀ k off, A = some ⟨k, off, none⟩ → k ≠ b
theorem Ints.kept {w w' : World} {A : Option Addr} {n r : Nat} {xs : List Int} (h : Ints w A n xs) (K : Kept r w w') (hA : Off A n r) : Ints w' A n xs :=
  ⟨h.1, fun hn => by
    obtain ⟨b, off, e, hb, hc⟩ := h.2 hn
    exact ⟨b, off, e, Nat.lt_of_lt_of_le hb K.size, fun k hk => (K.cell (p := ⟨b, off + k, none⟩) hb (hA hn b off e)).trans (hc k hk)⟩⟩
theorem Ints.off {w : World} {A : Option Addr} {n : Nat} {xs : List Int} (h : Ints w A n xs) {b : Nat} (hb : w.heap.size ≤ b) : Off A n b := fun hn k off e => by
  obtain ⟨b', off', e', hb', _⟩ := h.2 hn
  rw [e'] at e
  cases e
  omega
theorem off_new {a b n : Nat} (h : b < a) : Off (some ⟨a, 0, none⟩) n b := fun _ k off e => by
  cases e
  omega

theorem rem_low {n : Int} (h : n.tmod 1000003 < 0) : n % 1000003 = n.tmod 1000003 + 1000003 := by
  have e := @Int.tmod_eq_emod n 1000003
  by_cases c : 0 ≤ n ∨ (1000003 : Int) ∣ n
  · rw [if_pos c] at e
    omega
  · rw [if_neg c] at e
    omega
theorem rem_high {n : Int} (h : 0 ≤ n.tmod 1000003) : n % 1000003 = n.tmod 1000003 := by
  have e := @Int.tmod_eq_emod n 1000003
  by_cases c : 0 ≤ n ∨ (1000003 : Int) ∣ n
  · rw [if_pos c] at e
    omega
  · rw [if_neg c] at e
    omega
theorem implRem (n r : Int) (w : World) (hr : n % 1000003 = r) : Calls Try.prog 66 #[.int .i64 n] w fun e w' => e = .returned (.int .i64 r) ∧ w = w' := by
  have t1 : -1000003 < n.tmod 1000003 := Int.lt_tmod_of_pos n (by omega)
  have t2 : n.tmod 1000003 < 1000003 := Int.tmod_lt_of_pos n (by omega)
  by_cases h : n.tmod 1000003 < 0
  · have E := Lib.hid (hr.symm.trans (rem_low h))
    clear hr
    go_enter Try.func66, Try.ntmps66
    go_wp2
    go_ret
    exact ⟨ret_int (by rw [E.out]), rfl⟩
  · have E := Lib.hid (hr.symm.trans (rem_high (by omega)))
    clear hr
    go_enter Try.func66, Try.ntmps66
    go_wp2
    go_ret
    exact ⟨ret_int (by rw [E.out]), rfl⟩

/-- At a round's head: the hash of the numbers so far. -/
def ContRel (w : World) (b n : Nat) (h : Int) (xs : List Int) (i : Value) (W : World) : Prop :=
  ∃ k : Nat, k ≤ n ∧ i = .int .i64 k ∧ ICell W b (hsh h (xs.take k)) ∧ Kept b w W
/-- What the closure leaves: its hash is continued by the numbers. -/
def Cont (w : World) (b : Nat) (v : Int) (e : Ending) (w' : World) : Prop := e = .returned (.int .i64 v) ∧ ICell w' b v ∧ Kept b w w'

set_option maxHeartbeats 1000000 in
theorem implCont (h : Int) (A : Option Addr) (n cap b : Nat) (xs : List Int) (w : World) (h0 : 0 ≤ h) (h1 : h < 1000003) (I : Ints w A n xs) (hA : Off A n b) (C : ICell w b h) (hn : n ≤ 281474976710656) :
    Calls Try.prog 65 #[.slice A n cap, .pointer (some ⟨b, 0, none⟩)] w (Cont w b (hsh h xs)) := by
  have I := Lib.hid I
  have hA := Lib.hid hA
  have C := Lib.hid C
  go_enter Try.func65, Try.ntmps65
  go_wp2
  go_loopw [8] (ContRel w b n h xs) (fun i _ => n - (intOf i).toNat)
  case atStart => exact ⟨0, Nat.zero_le _, rfl, C.out, Kept.refl _ _⟩
  case round =>
    obtain ⟨k, hk, rfl, D, K⟩ := hrel
    clear C
    obtain ⟨b0, b1⟩ := hsh_bd h0 h1 (xs.take k)
    have hl := Lib.hid I.out.1
    by_cases hlt : k < n
    · obtain ⟨b', off, rfl, hb, hcell⟩ := (I.out.kept K hA.out).2 (by omega)
      have hck := hcell k hlt
      have HS := Lib.hid (hsh_take (h := h) (xs := xs) (k := k) (by have := hl.out; omega))
      clear hcell
      generalize xs.getD k 0 = z at *
      generalize hsh h (xs.take k) = v at *
      obtain ⟨r, er⟩ : ∃ r, z % 1000003 = r := ⟨_, rfl⟩
      have r0 : 0 ≤ r := by omega
      have r1 : r < 1000003 := by omega
      have HS := Lib.hid (show hsh h (List.take (k + 1) xs) = (v * 8191 + r + 1) % 1000003 by rw [HS.out, ← er]; unfold stp; rw [Int.mul_comm])
      have er := Lib.hid er
      have K := Lib.hid K
      have dc := D.c0
      have df := D.f0
      have dl := D.lt
      go_wp2_with fail
      go_region_with ((go_at_call 66; (with_reducible refine (implRem _ r _ er.out).mono ?_); rintro e wn ⟨rfl, rfl⟩))
      all_goals
        go_wp2
        go_roundw
        case rel => exact ⟨k + 1, by omega, by go_num, by rw [HS.out]; repeat (first | with_reducible exact D.set _ | with_reducible refine ICell.drew ?_ | with_reducible exact (ICell.drew D).set _ | with_reducible exact (ICell.drew (ICell.drew D)).set _), by repeat (first | with_reducible exact K.out | with_reducible refine Kept.mine ?_ _ _ | with_reducible refine Kept.drewd ?_)⟩
        case measure => simp [intOf]; omega
    · have e : (xs.take k) = xs := List.take_of_length_le (by have := hl.out; omega)
      rw [e] at D
      have dc := D.c0
      have K := Lib.hid K
      go_wp2
      go_ret
      exact ⟨rfl, D, K.out⟩

theorem implStart (w : World) : Calls Try.prog 37 #[] w fun e w' => e = .returned (.func (.func 65) #[] #[.pointer (some ⟨w.heap.size, 0, none⟩)]) ∧ ICell w' w.heap.size 17 ∧ Below w.heap.size w w' := by
  have hmf : ∀ (fn : Fn) (first cap : Array Value) (w : World), (Instr.makeFunc fn first cap).run Try.prog w = .ok (.func fn first cap) w := fun _ _ _ _ => rfl
  go_enter Try.func37, Try.ntmps37
  go_wp2
  go_ret
  exact ⟨rfl, ICell.new _ _ _ _ rfl, bl_alloc (bl_refl _) _⟩

theorem beq_turn (t x : Int) : (t == x) = decide (x = t) := by
  by_cases q : x = t
  · subst q; simp
  · have q' : ¬ t = x := fun e => q e.symm
    simp [q, q']

end Go.Proofs.Ytnoenjociioffab
