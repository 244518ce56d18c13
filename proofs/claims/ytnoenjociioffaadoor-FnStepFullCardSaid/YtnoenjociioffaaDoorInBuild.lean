/-
  Slices of inputs, made at a step of a region that draws its order.
-/
import Derived.Test.YtnoenjociioffaaDoorInRow
import Derived.Great.BuildSlice
namespace Go.Proofs.YtnoenjociioffaaDoor
open Go.RowKit
open M

theorem run_build0 (w : World) : (Instr.buildSlice 100 0 #[]).run Tryd.prog w = .ok (.slice (some ⟨w.heap.size, 0, none⟩) 0 0) (w.alloc (.cells #[] 33)) := by
  obtain ⟨i0, hi, hz0, hz1, hz2⟩ := info_parts input_info
  simp [Instr.buildSlice, run_underlying Tryd.underlying100, sizeOf, typeInfo, hi, Instr.fill, newRow]
  first | rfl | kernel_rfl | simp [Array.range]
theorem wp_build0 {w : World} {o : Oper} {a : Act} {K : Act → World → Prop} {Q : Exit → Act → World → Prop} (hop : o.op = .buildSlice 100 0 #[])
    (h : ∀ (g : Nat) (w' : World), Below w.heap.size w w' → w.heap.size ≤ g → w'.ownsRow g 33 3 (.slice (some ⟨g, 0, none⟩) 0 0) 0 (icl []) → K (a.put o.dst (.slice (some ⟨g, 0, none⟩) 0 0)) w') : o.wp Tryd.prog a w K Q := by
  unfold Oper.wp execOp
  simp only [hop, Sem.run_bind, List.map_toArray, List.map_nil, run_build0, Result.andThen_ok]
  exact h _ _ (bl_alloc (bl_refl w) _) (Nat.le_refl _) (own_noinputs w _ _ rfl (Nat.le_refl _))
theorem wp_build1 {w : World} {o : Oper} {a : Act} {K : Act → World → Prop} {Q : Exit → Act → World → Prop} (x : Operand) (hop : o.op = .buildSlice 100 1 #[(0, x)]) (s p : Int) (z : Bool) (hx : a.eval x = inp s p z)
    (h : ∀ (g : Nat) (w' : World), Below w.heap.size w w' → w.heap.size ≤ g → Inputs w' (some ⟨g, 0, none⟩) 1 [⟨s, p, z⟩] → K (a.put o.dst (.slice (some ⟨g, 0, none⟩) 1 1)) w') : o.wp Tryd.prog a w K Q := by
  obtain ⟨i0, hi, hz0, hz1, hz2⟩ := info_parts input_info
  refine wp_buildSlice 100 33 1 _ hop #[.int .i64 s, .int .i64 p, .bool z] i0 (inp 0 0 false) Tryd.underlying100 hi hz0 (by rw [hz1]; decide) (by rw [hz1]; decide) ?_ (h _ _ (bl_alloc (bl_refl w) _) (Nat.le_refl _) (Inputs.one w _ s p z _ rfl))
  rw [hz1]
  simp only [List.map_toArray, List.map_cons, List.map_nil, hx]
  first | kernel_rfl | (simp [Instr.fill, Array.range, Value.cells]; done) | go_simp
theorem wp_append_in {w : World} {o : Oper} {a : Act} {K : Act → World → Prop} {Q : Exit → Act → World → Prop} (s x : Operand)
    (ho : o.op = .call { callee := .builtin .append, args := #[s, x], argTypes := #[100, 100] }) (base : Nat) (v : Value) (n : Nat) (qs : List In) (hs : a.eval s = v) (hown : w.ownsRow base 33 3 v n (icl qs))
    (A : Option Addr) (m c : Nat) (xs : List In) (hx : a.eval x = .slice A m c) (I : Inputs w A m xs) (hn : n + m ≤ 10000000) (hb : base ≤ w.heap.size)
    (h : ∀ v' w', w'.ownsRow base 33 3 v' (n + m) (icl (qs ++ xs)) → w.grownBy w' v.ownBlock → K (a.put o.dst v') w') : o.wp Tryd.prog a w K Q := by
  obtain ⟨v', w', hr, h2, h3, _⟩ := run_append_inputs w base o.type v n qs hown A m c xs I hn hb
  unfold Oper.wp execOp
  simp only [ho, resolve, invoke, builtin, Sem.run_bind, Sem.run_pure, Result.andThen_ok, List.map_toArray, List.map_cons, List.map_nil, hs, hx, hr]
  exact h v' w' h2 h3
theorem own_low {W : World} {base lo : Nat} {e : TypeId} {sz : Nat} {v : Value} {n : Nat} {xs : List Value} (h : W.ownsRow base e sz v n xs) (hb : lo ≤ base) : W.ownsRow lo e sz v n xs :=
  ⟨h.1, h.2.imp id (fun ⟨g, cap, cur, e1, hg, r⟩ => ⟨g, cap, cur, e1, Nat.le_trans hb hg, r⟩)⟩

end Go.Proofs.YtnoenjociioffaaDoor
