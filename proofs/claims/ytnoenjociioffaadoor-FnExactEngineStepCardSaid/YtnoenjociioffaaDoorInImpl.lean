/-
  What the program's own functions of inputs return, at every argument.
-/
import Derived.Test.YtnoenjociioffaaDoorInS
import Derived.Test.YtnoenjociioffaaDoorBans
import Derived.Test.YtnoenjociioffaaDoorCelS
import Derived.Test.YtnoenjociioffaaDoorInRow
import Derived.Test.YtnoenjociioffaaDoorLevImpl
namespace Go.Proofs.YtnoenjociioffaaDoor
open Go.RowKit
open Go.Maps
open M

set_option maxHeartbeats 1000000 in
theorem implIValid (s p : Int) (z : Bool) (w : World) : Calls Tryd.prog 45 #[inp s p z] w fun e w' => e = .returned (.bool (inV s p z)) ∧ Below w.heap.size w w' := by
  cases z
  · by_cases s0 : s < -1
    · have ds : decide ((-1 : Int) ≤ s) = false := decide_eq_false (by omega)
      have E := Lib.hid (show inV s p false = false by simp [inV, in_off s0])
      go_enter Tryd.func45, Tryd.ntmps45
      go_wp2
      go_ret
      exact ⟨ret_b (by rw [E.out]), bl_alloc (bl_refl w) _⟩
    have s0 : -1 ≤ s := by omega
    by_cases s1 : 1 < s
    · have ds : decide (s ≤ (1 : Int)) = false := decide_eq_false (by omega)
      have E := Lib.hid (show inV s p false = false by simp [inV, in_over s1])
      go_enter Tryd.func45, Tryd.ntmps45
      go_wp2
      go_ret
      exact ⟨ret_b (by rw [E.out]), bl_alloc (bl_refl w) _⟩
    have s1 : s ≤ 1 := by omega
    by_cases p0 : p < 0
    · have dp : decide ((0 : Int) ≤ p) = false := decide_eq_false (by omega)
      have E := Lib.hid (show inV s p false = false by simp [inV, in_off p0])
      go_enter Tryd.func45, Tryd.ntmps45
      go_wp2
      go_ret
      exact ⟨ret_b (by rw [E.out]), bl_alloc (bl_refl w) _⟩
    have p0 : 0 ≤ p := by omega
    by_cases p1 : 2 < p
    · have dp : decide (p ≤ (2 : Int)) = false := decide_eq_false (by omega)
      have E := Lib.hid (show inV s p false = false by simp [inV, in_over p1])
      go_enter Tryd.func45, Tryd.ntmps45
      go_wp2
      go_ret
      exact ⟨ret_b (by rw [E.out]), bl_alloc (bl_refl w) _⟩
    have p1 : p ≤ 2 := by omega
    have E := Lib.hid (show inV s p false = true by simp [inV, inB_yes (n := s) (lo := -1) (hi := 1) ⟨s0, s1⟩, inB_yes (n := p) (lo := 0) (hi := 2) ⟨p0, p1⟩])
    go_enter Tryd.func45, Tryd.ntmps45
    go_wp2
    go_ret
    exact ⟨ret_b (by rw [E.out]), bl_alloc (bl_refl w) _⟩
  · by_cases hs : s = 0
    · subst hs
      by_cases hp : p = 0
      · subst hp
        have E := Lib.hid (show inV 0 0 true = true by decide)
        go_enter Tryd.func45, Tryd.ntmps45
        go_wp2
        go_ret
        exact ⟨ret_b (by rw [E.out]), bl_alloc (bl_refl w) _⟩
      · have dp : (p == 0) = false := beq_eq_false_iff_ne.2 hp
        have E := Lib.hid (show inV 0 p true = false by simp [inV, hp])
        clear hp
        go_enter Tryd.func45, Tryd.ntmps45
        go_wp2
        go_ret
        exact ⟨ret_b (by rw [E.out]), bl_alloc (bl_refl w) _⟩
    · have ds : (s == 0) = false := beq_eq_false_iff_ne.2 hs
      have E := Lib.hid (show inV s p true = false by simp [inV, hs])
      clear hs
      go_enter Tryd.func45, Tryd.ntmps45
      go_wp2
      go_ret
      exact ⟨ret_b (by rw [E.out]), bl_alloc (bl_refl w) _⟩

/-- At the operation: an entry of a map literal. -/
theorem wp_insert_own {H : Type} {P : Program} {w : World} {o : Oper} {a : Act} {K' : Act → World → Prop} {Q : Exit → Act → World → Prop} (t : TypeId) (m x v : Operand) (hop : o.op = Op.insert t m x v)
    {k e : TypeId} (K : Keyed P k) (ht : P.underlying t = some (.map k e)) (R : Value → Option (DataW H × List MemPlace)) (b n : Nat) (D : DataW H)
    (hm : a.eval m = .map (some b)) (hown : w.ownsMap P k R b n D) (hn : n < maxLen) (key val : Value) (kl : Lit) (hx : a.eval x = key) (hv : a.eval v = val) (hkey : keyOf P k key = some kl)
    (d : DataW H) (ps : List MemPlace) (hval : R val = some (d, ps))
    (hK : ∀ w', w'.ownsMap P k R b (n + 1) (D.put kl d) → w.grownBy w' (some b) → K' (a.put o.dst undef) w') : o.wp P a w K' Q := by
  obtain ⟨w', hrun, r1, r2⟩ := hown.update K ht hn hkey hval
  unfold Oper.wp
  simp [execOp, hop, hm, hx, hv, hrun, Result.andThen]
  exact hK w' r1 r2
abbrev MapAt (w : World) (b n : Nat) (D : DataW Unit) : Prop := w.ownsMap (H := Unit) Tryd.prog 3 (plainElem Tryd.prog 4) b n D
theorem MapAt.step {w w' : World} {b n : Nat} {D : DataW Unit} (h : MapAt w b n D) (B : Below w.heap.size w w') : MapAt w' b n D := by
  have hl := World.ownsMap.lt h
  obtain ⟨es, clock, hb, F, hs, hD⟩ := h
  exact ⟨es, clock, (B.block b hl).trans hb, F, hs, hD⟩
/-- At the operation: a map is made. -/
theorem wp_made {w : World} {o : Oper} {a : Act} {K : Act → World → Prop} {Q : Exit → Act → World → Prop} (t : TypeId) (hop : o.op = Op.makeMap t none)
    (h : ∀ (b : Nat) (w' : World), Below w.heap.size w w' → w.heap.size ≤ b → MapAt w' b 0 (.map []) → K (a.put o.dst (.map (some b))) w') : o.wp Tryd.prog a w K Q := by
  unfold Oper.wp
  simp [execOp, hop, run_makeMap, Result.andThen]
  exact h _ _ (bl_alloc (bl_refl w) _) (Nat.le_refl _) (World.ownsMap_made w _ _ _)
theorem bn_ab (x y : Bool) : ((DataW.map [] : DataW Unit).put (.int .i64 1) (.lit (.bool x))).put (.int .i64 2) (.lit (.bool y)) = bnD x y := rfl
theorem bn_ba (x y : Bool) : ((DataW.map [] : DataW Unit).put (.int .i64 2) (.lit (.bool y))).put (.int .i64 1) (.lit (.bool x)) = bnD x y := rfl

/-- One input follows another, where f1 and f2 are forbidden. -/
def M.flF (f1 f2 : Bool) (s0 s p : Int) (z : Bool) : Bool := inV s p z && !(decide (p = 2) && f1 || z && f2) && inB (s - s0) (-1) 1
theorem M.flF_of (b s0 s p : Int) (z : Bool) : flF (bnB b 1) (bnB b 2) s0 s p z = flB b s0 s p z := by
  unfold flF flB
  cases inV s p z <;> cases decide (p = 2) <;> cases bnB b 1 <;> cases z <;> cases bnB b 2 <;> cases inB (s - s0) (-1) 1 <;> rfl

end Go.Proofs.YtnoenjociioffaaDoor
