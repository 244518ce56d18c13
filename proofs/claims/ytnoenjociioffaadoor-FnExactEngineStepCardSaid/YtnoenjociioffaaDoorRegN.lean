/-
  Steps of a region that draws its order: a call by its contract, a call through an interface, a new variable; the world behind each is a letter.
-/
import Derived.Test.YtnoenjociioffaaDoorCelS
import Derived.Deep.RegionHeld
import Derived.Deep.RegionHeld3
namespace Go.Proofs.YtnoenjociioffaaDoor
open Go.RowKit

/-- A function with a body of its own is entered. -/
def Enters (P : Program) (f : FuncId) : Prop := ∃ fn, P.funcs[f]? = some fn ∧ (fn.name == "runtime.NumGoroutine") = false ∧ fn.body.isNone = false
theorem run_callFunc {P : Program} {f : FuncId} (hf : Enters P f) (vs : Array Value) (w : World) : (callFunc f vs).run P w = .ok (.enter f vs) w := by
  obtain ⟨fn, h1, h2, h3⟩ := hf
  unfold callFunc
  simp only [Sem.run_bind, show (program : Sem Program).run P w = .ok P w from rfl, Result.andThen_ok, h1, h2, h3]
  rfl
theorem wp_of_enter {P : Program} {w : World} {o : Oper} {a : Act} {K : Act → World → Prop} {Q : Exit → Act → World → Prop} {f : FuncId} {vs : Array Value} (e : (execOp a.eval o).run P w = .ok (.enter f vs) w) {R : Ending → World → Prop} (hc : Calls P f vs w R)
    (h : ∀ e w', R e w' → ∃ v, e = .returned v ∧ K (a.put o.dst v) w') : o.wp P a w K Q := by
  unfold Oper.wp
  rw [e, Oper.upon_enter]
  refine hc.mono fun e w' hR => ?_
  obtain ⟨v, rfl, hK⟩ := h e w' hR
  exact hK
theorem wp_call_fn {P : Program} {w : World} {o : Oper} {a : Act} {K : Act → World → Prop} {Q : Exit → Act → World → Prop} {f : FuncId} (hf : Enters P f) (xs : Array Operand) (ts : Array TypeId)
    (ho : o.op = .call { callee := .value (.func f), args := xs, argTypes := ts }) (vs : Array Value) (hv : xs.map a.eval = vs) {R : Ending → World → Prop} (hc : Calls P f vs w R)
    (h : ∀ e w', R e w' → ∃ v, e = .returned v ∧ K (a.put o.dst v) w') : o.wp P a w K Q := by
  refine wp_of_enter ?_ hc h
  unfold execOp
  have e0 : (#[] ++ vs ++ #[] : Array Value) = vs := by simp
  simp only [ho, resolve, invoke, Deferred.ofValue, hv, Sem.run_bind, Sem.run_pure, Result.andThen_ok, Act.eval, e0]
  exact run_callFunc hf vs w
theorem wp_invoke_fn {P : Program} {w : World} {o : Oper} {a : Act} {K : Act → World → Prop} {Q : Exit → Act → World → Prop} {f : FuncId} (hf : Enters P f) (x : Operand) (name : String) (xs : Array Operand) (ts : Array TypeId)
    (ho : o.op = .call { callee := .invoke x name, args := xs, argTypes := ts }) (t : TypeId) (v : Value) (hx : a.eval x = .iface t v) (r : Value) (hm : (method (P.types.size + Made.depth) t v name).run P w = .ok (f, r) w) (vs : Array Value) (hv : #[r] ++ xs.map a.eval = vs) {R : Ending → World → Prop} (hc : Calls P f vs w R)
    (h : ∀ e w', R e w' → ∃ v, e = .returned v ∧ K (a.put o.dst v) w') : o.wp P a w K Q := by
  refine wp_of_enter ?_ hc h
  unfold execOp
  simp only [ho, resolve, hx, Sem.run_bind, Sem.run_pure, Result.andThen_ok]
  unfold invoke
  have e1 : (#[Value.iface t v] ++ xs.map a.eval)[0]? = some (.iface t v) := by rw [Array.getElem?_append_left (by simp)]; rfl
  have e2 : (#[Value.iface t v] ++ xs.map a.eval).extract 1 (#[Value.iface t v] ++ xs.map a.eval).size = xs.map a.eval := by apply Array.ext'; simp; exact List.take_of_length_le (by simp)
  rw [e1]
  simp only [e2]
  unfold callMethod
  simp only [Sem.run_bind, show (program : Sem Program).run P w = .ok P w from rfl, Result.andThen_ok, hm, hv]
  exact run_callFunc hf vs w
/-- A contract that ends 'e = .. and Below'. -/
theorem bel_back {W : World} {v : Value} {K : Value → World → Prop} (h : ∀ w', Below W.heap.size W w' → K v w') : ∀ (e : Ending) (w' : World), (e = .returned v ∧ Below W.heap.size W w') → ∃ v, e = .returned v ∧ K v w' := fun _ w' ⟨he, B⟩ => ⟨v, he, h w' B⟩

end Go.Proofs.YtnoenjociioffaaDoor
