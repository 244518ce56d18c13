/-
  '==' on inputs; what the laws on codes ask.
-/
import Derived.Test.YtagbeneapmpooaaInS
import Derived.Laws.StructEq
namespace Go.Proofs.Ytagbeneapmpooaa
open Go.RowKit
open M

theorem equal_input (s p : Int) (z : Bool) (s' p' : Int) (z' : Bool) (w : World) : (Op.equalIn 10000 24 (inp s p z) (inp s' p' z')).run Try.prog w = .ok ((s == s') && ((p == p') && (z == z'))) w := by
  have u3 := Try.underlying3
  have a3 := Try.isAgg3
  have z3 := Try.sizeOf3
  have u4 := Try.underlying4
  have a4 := Try.isAgg4
  have z4 := Try.sizeOf4
  have hS : Try.prog.underlying 24 = some (.struct (Try.prog.fieldsOf 24)) := by kernel_rfl
  have hp : Try.prog.stoodInHeld 24 = false := by kernel_rfl
  rw [show (10000 : Nat) = 9999 + 1 from rfl, run_equalIn_agg w 9999 24 _ _ hS hp]
  simp only [Program.fieldsOf, Try.underlying24]
  go_simp
  by_cases h1 : s = s' <;> by_cases h2 : p = p' <;> cases z <;> cases z' <;> simp [h1, h2]
theorem eq_input {s p : Int} {z : Bool} {s' p' : Int} {z' : Bool} {r : Bool} (h : ((s == s') && ((p == p') && (z == z'))) = r) (w : World) : (binOp .eql 24 (inp s p z) (inp s' p' z')).run Try.prog w = .ok (.bool r) w := by
  rw [run_eql_struct, equal_input, h]
  rfl
theorem neq_input {s p : Int} {z : Bool} {s' p' : Int} {z' : Bool} {r : Bool} (h : ((s == s') && ((p == p') && (z == z'))) = r) (w : World) : (binOp .neq 24 (inp s p z) (inp s' p' z')).run Try.prog w = .ok (.bool (!r)) w := by
  rw [run_neq_struct, equal_input, h]
  rfl
theorem beq_input (s p : Int) (z : Bool) : ((s == s) && ((p == p) && (z == z))) = true := by simp
theorem input_guard : Try.prog.eqGuardType Try.prog.depth 24 = false := by kernel_rfl
theorem nine {s p : Int} {z : Bool} (h : inV s p z = true) : (z = true ∧ s = 0 ∧ p = 0) ∨ (z = false ∧ (s = -1 ∨ s = 0 ∨ s = 1) ∧ (p = 0 ∨ p = 1 ∨ p = 2)) := by
  obtain ⟨⟨s1, s2⟩, ⟨p1, p2⟩, hz⟩ := iv_bd h
  cases z
  · exact .inr ⟨rfl, by omega, by omega⟩
  · exact .inl ⟨rfl, hz rfl⟩
theorem code_of {s p : Int} {z : Bool} (h : inV s p z = true) : ofS (icI s p z) = s ∧ ofP (icI s p z) = p ∧ ofZ (icI s p z) = z ∧ inB (icI s p z) 0 9 = true ∧ 0 ≤ icI s p z := by
  rcases nine h with ⟨rfl, rfl, rfl⟩ | ⟨rfl, rfl | rfl | rfl, rfl | rfl | rfl⟩ <;> decide
theorem of_code {n : Int} (h : inB n 0 9 = true) : icI (ofS n) (ofP n) (ofZ n) = n ∧ inV (ofS n) (ofP n) (ofZ n) = true := by
  rcases ten_n h with rfl | rfl | rfl | rfl | rfl | rfl | rfl | rfl | rfl | rfl <;> decide
theorem of_other {n k : Int} (h : inB n 0 9 = true) (g : inB k 0 9 = true) (e : k ≠ n) : ((ofS k == ofS n) && ((ofP k == ofP n) && (ofZ k == ofZ n))) = false := by
  rcases h1 : ((ofS k == ofS n) && ((ofP k == ofP n) && (ofZ k == ofZ n))) with _ | _
  · rfl
  · simp only [Bool.and_eq_true, beq_iff_eq] at h1
    have a1 := (of_code h).1
    have a2 := (of_code g).1
    rw [h1.1, h1.2.1, h1.2.2, a1] at a2
    exact (e a2.symm).elim

end Go.Proofs.Ytagbeneapmpooaa
