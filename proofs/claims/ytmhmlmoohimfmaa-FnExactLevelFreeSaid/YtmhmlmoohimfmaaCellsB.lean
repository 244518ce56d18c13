/-
  A variable of many cells, stored at a step of a region that draws its order.
-/
import Derived.Test.YtmhmlmoohimfmaaCells
namespace Go.Proofs.Ytmhmlmoohimfmaa
open Go.RowKit

/-- At the operation (its guard decided): a struct is stored whole. -/
theorem wp_store_cells {P : Program} {o : Oper} {a : Act} {w : World} {K : Act → World → Prop} {Q : Exit → Act → World → Prop} (ty : TypeId) (x y : Operand) (ho : o.op = .store ty x y)
    (b : Nat) (hx : a.eval x = .pointer (some ⟨b, 0, none⟩)) (vs : List Value) (hy : a.eval y = .agg vs.toArray) (us : List Value) (D : CellsAt w b us) (hl : vs.length ≤ us.length) (hi : (P.info? ty).map (·.size) = some vs.length) (h1 : vs.all (·.oneCell') = true)
    (h : K (a.put o.dst undef) (w.setCells b 0 vs)) : o.wp P a w K Q :=
  wp_store_mid ty x y ho b 0 vs.toArray hx hy (by simpa using D.there hl) (by simpa using hi) (by rw [List.all_toArray]; exact h1) (by simpa using h)

/-- The same, the world behind it a letter. -/
theorem wp_store_new {P : Program} {o : Oper} {a : Act} {w : World} {K : Act → World → Prop} {Q : Exit → Act → World → Prop} (ty : TypeId) (x y : Operand) (ho : o.op = .store ty x y)
    (b : Nat) (hx : a.eval x = .pointer (some ⟨b, 0, none⟩)) (vs : List Value) (hy : a.eval y = .agg vs.toArray) (us : List Value) (D : CellsAt w b us) (hl : vs.length ≤ us.length) (hi : (P.info? ty).map (·.size) = some vs.length) (h1 : vs.all (·.oneCell') = true)
    (h : ∀ w', Kept b w w' → CellsAt w' b vs → K (a.put o.dst undef) w') : o.wp P a w K Q :=
  wp_store_cells ty x y ho b hx vs hy us D hl hi h1 (h _ (ksets vs 0 (Kept.refl b w)) (D.all vs hl))
theorem store_new {P : Program} {ops : Array Oper} {rest : List Oper} {o : Oper} {a : Act} {w : World} {Q : Exit → Act → World → Prop} (hgd : o.guard = none) (ty : TypeId) (x y : Operand) (ho : o.op = .store ty x y)
    (b : Nat) (hx : a.eval x = .pointer (some ⟨b, 0, none⟩)) (vs : List Value) (hy : a.eval y = .agg vs.toArray) (us : List Value) (D : CellsAt w b us) (hl : vs.length ≤ us.length) (hi : (P.info? ty).map (·.size) = some vs.length) (h1 : vs.all (·.oneCell') = true)
    (h : ∀ w', Kept b w w' → CellsAt w' b vs → wpList P ops Q rest (a.put o.dst undef) w') : wpList P ops Q (o :: rest) a w :=
  store_cells hgd ty x y ho b hx vs hy us D hl hi h1 (h _ (ksets vs 0 (Kept.refl b w)) (D.all vs hl))

end Go.Proofs.Ytmhmlmoohimfmaa
