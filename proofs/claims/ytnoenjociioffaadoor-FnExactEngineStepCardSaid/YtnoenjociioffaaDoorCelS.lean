/-
  A variable of many cells (a struct by value): how it is loaded whole, stored whole and handed back.
  A variable of many cells, stored at a step of a region that draws its order.
-/
import Derived.Test.YtnoenjociioffaaDoorLevS
import Derived.Deep.MidRow
namespace Go.Proofs.YtnoenjociioffaaDoor
open Go.RowKit

theorem CellsAt.range {W : World} {b : Nat} {vs : List Value} (h : CellsAt W b vs) : W.rangeAt b 0 vs := fun j v hj => by rw [Nat.zero_add]; exact h.cell j v hj
theorem CellsAt.there {W : World} {b : Nat} {vs : List Value} (h : CellsAt W b vs) {n : Nat} (hn : n ≤ vs.length) : W.there b 0 n := fun j hj => by
  rw [Nat.zero_add]
  exact ⟨by rw [h.cell j _ (List.getElem?_eq_getElem (by omega))]; rfl, h.fr j⟩
theorem kset {b : Nat} {W A : World} (h : Kept b W A) (o : Nat) (v : Value) : Kept b W (A.setCell ⟨b, o, none⟩ v) := h.trans (Kept.step A b v o 0)
theorem ksets {b : Nat} {W : World} : ∀ (vs : List Value) (o : Nat) {A : World}, Kept b W A → Kept b W (A.setCells b o vs)
  | [], _, _, h => h
  | v :: vs, o, _, h => ksets vs (o + 1) (kset h o v)
theorem CellsAt.all {W : World} {b : Nat} {us : List Value} (h : CellsAt W b us) (vs : List Value) (hl : vs.length ≤ us.length) : CellsAt (W.setCells b 0 vs) b vs :=
  ⟨fun j v hj => by have := World.rangeAt_setCells_same W b 0 vs (h.there hl) j v hj; rwa [Nat.zero_add] at this, fun j => by rw [World.frozen?_setCells]; exact h.fr j, Nat.lt_of_lt_of_le h.lt (ksets vs 0 (Kept.refl b W)).size⟩
theorem bl_sets {w a : World} (h : Below w.heap.size w a) {b : Nat} (hb : w.heap.size ≤ b) (o : Nat) (vs : List Value) : Below w.heap.size w (a.setCells b o vs) :=
  h.trans ((ksets vs o (Kept.refl b a)).below h.size hb)
theorem Kept.sets' {r : Nat} {w a : World} (h : Kept r w a) {b : Nat} (hb : w.heap.size ≤ b) (o : Nat) (vs : List Value) : Kept r w (a.setCells b o vs) :=
  have K := ksets vs o (Kept.refl b a)
  ⟨K.os.trans h.os, K.tape.trans h.tape, K.output.trans h.output, Nat.le_trans h.size K.size, fun j hj hr => (K.block j (Nat.lt_of_lt_of_le hj h.size) (by omega)).trans (h.block j hj hr)⟩
theorem RdU.sets' {B : Nat} {w : World} {r : Nat} {k : Int} (R : RdU B w r k) {b : Nat} (hb : B ≤ b) (o : Nat) (vs : List Value) : RdU B (w.setCells b o vs) r k :=
  R.below ((ksets vs o (Kept.refl b w)).below R.base hb)

/-- At the operation: a struct is loaded whole. -/
theorem load_cells {P : Program} {ops : Array Oper} {rest : List Oper} {o : Oper} {a : Act} {w : World} {Q : Exit → Act → World → Prop} (hgd : o.guard = none) (ty : TypeId) (x : Operand) (ho : o.op = .load ty x)
    (b : Nat) (hx : a.eval x = .pointer (some ⟨b, 0, none⟩)) (vs : List Value) (L : CellsAt w b vs) {d : TypeDesc} (hu : P.underlying ty = some d) (hd : d.isRow = true) (hi : (P.info? ty).map (·.size) = some vs.length)
    (h : wpList P ops Q rest (a.put o.dst (.agg vs.toArray)) w) : wpList P ops Q (o :: rest) a w :=
  wpList_load_mid hgd ty x ho b 0 hx vs d L.range hu hd hi h
/-- At the operation: a struct is stored whole. -/
theorem store_cells {P : Program} {ops : Array Oper} {rest : List Oper} {o : Oper} {a : Act} {w : World} {Q : Exit → Act → World → Prop} (hgd : o.guard = none) (ty : TypeId) (x y : Operand) (ho : o.op = .store ty x y)
    (b : Nat) (hx : a.eval x = .pointer (some ⟨b, 0, none⟩)) (vs : List Value) (hy : a.eval y = .agg vs.toArray) (us : List Value) (D : CellsAt w b us) (hl : vs.length ≤ us.length) (hi : (P.info? ty).map (·.size) = some vs.length) (h1 : vs.all (·.oneCell') = true)
    (h : wpList P ops Q rest (a.put o.dst undef) (w.setCells b 0 vs)) : wpList P ops Q (o :: rest) a w :=
  wpList_store_mid hgd ty x y ho b 0 vs.toArray hx hy (by simpa using D.there hl) (by simpa using hi) (by rw [List.all_toArray]; exact h1) (by simpa using h)
/-- At a step of a region that draws its order: a struct is stored whole. -/
theorem step_store_cells {P : Program} {ops : Array Oper} {o : Oper} {a : Act} {w : World} {K : Act → World → Prop} {Q : Exit → Act → World → Prop} {E : Prop} (hgd : o.guard = none) (ty : TypeId) (x y : Operand) (ho : o.op = .store ty x y)
    (b : Nat) (hx : a.eval x = .pointer (some ⟨b, 0, none⟩)) (vs : List Value) (hy : a.eval y = .agg vs.toArray) (us : List Value) (D : CellsAt w b us) (hl : vs.length ≤ us.length) (hi : (P.info? ty).map (·.size) = some vs.length) (h1 : vs.all (·.oneCell') = true)
    (h : K (a.put o.dst undef) (w.setCells b 0 vs)) : if Region.wanted o (yielded ops a.tmps) = true then Oper.wp P o a w K Q else E := by
  have hw : Region.wanted o (yielded ops a.tmps) = true := by simp [Region.wanted, hgd]
  rw [if_pos hw]
  exact wp_store_mid ty x y ho b 0 vs.toArray hx hy (by simpa using D.there hl) (by simpa using hi) (by rw [List.all_toArray]; exact h1) (by simpa using h)
theorem CellsAt.farAll {W : World} {b : Nat} {vs : List Value} (h : CellsAt W b vs) {b' : Nat} (hne : b ≠ b') (o : Nat) (us : List Value) : CellsAt (W.setCells b' o us) b vs := h.kept (ksets us o (Kept.refl b' W)) hne
theorem PCell.farAll {W : World} {b : Nat} {x y : Int} (h : PCell W b x y) {b' : Nat} (hne : b ≠ b') (o : Nat) (us : List Value) : PCell (W.setCells b' o us) b x y := h.kept (ksets us o (Kept.refl b' W)) hne
/-- What a function hands back that lies in one variable. -/
theorem res_cells {P : Program} {fn : Func} {p : Tmp} {ty : TypeId} {tmps : Array Value} {w : World} (h : fn.results = #[.cell p ty]) (b : Nat) (hp : tmps[p]?.getD undef = .pointer (some ⟨b, 0, none⟩)) (vs : List Value) (L : CellsAt w b vs) {d : TypeDesc}
    (hu : P.underlying ty = some d) (hd : d.isRow = true) (hi : (P.info? ty).map (·.size) = some vs.length) : (results fn tmps).run P w = .ok (.agg vs.toArray) w := by
  simp [results, h, hp, asAddr, run_loadVar_mid w b 0 ty vs d L.range hu hd hi]

/-- What a function hands back that lies in two variables. -/
theorem res_cells2 {P : Program} {fn : Func} {p p' : Tmp} {ty ty' : TypeId} {tmps : Array Value} {w : World} (h : fn.results = #[.cell p ty, .cell p' ty']) (b b' : Nat) (hp : tmps[p]?.getD undef = .pointer (some ⟨b, 0, none⟩)) (hp' : tmps[p']?.getD undef = .pointer (some ⟨b', 0, none⟩)) (vs us : List Value) (L : CellsAt w b vs) (L' : CellsAt w b' us) {d d' : TypeDesc}
    (hu : P.underlying ty = some d) (hd : d.isRow = true) (hi : (P.info? ty).map (·.size) = some vs.length) (hu' : P.underlying ty' = some d') (hd' : d'.isRow = true) (hi' : (P.info? ty').map (·.size) = some us.length) : (results fn tmps).run P w = .ok (.tuple #[.agg vs.toArray, .agg us.toArray]) w := by
  simp [results, h, hp, hp', asAddr, run_loadVar_mid w b 0 ty vs d L.range hu hd hi, run_loadVar_mid w b' 0 ty' us d' L'.range hu' hd' hi']
/-- What a function hands back, one part in a variable, one in a slot. -/
theorem res_cells_tmp {P : Program} {fn : Func} {p q : Tmp} {ty : TypeId} {tmps : Array Value} {w : World} (h : fn.results = #[.cell p ty, .tmp q]) (b : Nat) (hp : tmps[p]?.getD undef = .pointer (some ⟨b, 0, none⟩)) (vs : List Value) (L : CellsAt w b vs) (v : Value) (hq : tmps[q]?.getD undef = v) {d : TypeDesc}
    (hu : P.underlying ty = some d) (hd : d.isRow = true) (hi : (P.info? ty).map (·.size) = some vs.length) : (results fn tmps).run P w = .ok (.tuple #[.agg vs.toArray, v]) w := by
  simp [results, h, hp, hq, asAddr, run_loadVar_mid w b 0 ty vs d L.range hu hd hi]
theorem vec_size : (Tryd.prog.info? 24).map (·.size) = some 2 := by kernel_rfl
theorem level_size : (Tryd.prog.info? 29).map (·.size) = some 11 := by kernel_rfl

end Go.Proofs.YtnoenjociioffaaDoor

namespace Go.Proofs.YtnoenjociioffaaDoor
open Go.RowKit

/-- At the operation (its guard decided): a struct is stored whole. -/
theorem wp_store_cells {P : Program} {o : Oper} {a : Act} {w : World} {K : Act → World → Prop} {Q : Exit → Act → World → Prop} (ty : TypeId) (x y : Operand) (ho : o.op = .store ty x y)
    (b : Nat) (hx : a.eval x = .pointer (some ⟨b, 0, none⟩)) (vs : List Value) (hy : a.eval y = .agg vs.toArray) (us : List Value) (D : CellsAt w b us) (hl : vs.length ≤ us.length) (hi : (P.info? ty).map (·.size) = some vs.length) (h1 : vs.all (·.oneCell') = true)
    (h : K (a.put o.dst undef) (w.setCells b 0 vs)) : o.wp P a w K Q :=
  wp_store_mid ty x y ho b 0 vs.toArray hx hy (by simpa using D.there hl) (by simpa using hi) (by rw [List.all_toArray]; exact h1) (by simpa using h)

/-- The same, the world behind it a letter. -/
theorem wp_store_new {P : Program} {o : Oper} {a : Act} {w : World} {K : Act → World → Prop} {Q : Exit → Act → World → Prop} (ty : TypeId) (x y : Operand) (ho : o.op = .store ty x y)
    (b : Nat) (hx : a.eval x = .pointer (some ⟨b, 0, none⟩)) (vs : List Value) (hy : a.eval y = .agg vs.toArray) (us : List Value) (D : CellsAt w b us) (hl : vs.length ≤ us.length) (hi : (P.info? ty).map (·.size) = some vs.length) (h1 : vs.all (·.oneCell') = true)
    (h : ∀ w', Kept b w w' → CellsAt w' b vs → K (a.put o.dst undef) w') : o.wp P a w K Q :=
  wp_store_cells ty x y ho b hx vs hy us D hl hi h1 (h _ (ksets vs 0 (Kept.refl b w)) (D.all vs hl))
theorem store_new {P : Program} {ops : Array Oper} {rest : List Oper} {o : Oper} {a : Act} {w : World} {Q : Exit → Act → World → Prop} (hgd : o.guard = none) (ty : TypeId) (x y : Operand) (ho : o.op = .store ty x y)
    (b : Nat) (hx : a.eval x = .pointer (some ⟨b, 0, none⟩)) (vs : List Value) (hy : a.eval y = .agg vs.toArray) (us : List Value) (D : CellsAt w b us) (hl : vs.length ≤ us.length) (hi : (P.info? ty).map (·.size) = some vs.length) (h1 : vs.all (·.oneCell') = true)
    (h : ∀ w', Kept b w w' → CellsAt w' b vs → wpList P ops Q rest (a.put o.dst undef) w') : wpList P ops Q (o :: rest) a w :=
  store_cells hgd ty x y ho b hx vs hy us D hl hi h1 (h _ (ksets vs 0 (Kept.refl b w)) (D.all vs hl))

end Go.Proofs.YtnoenjociioffaaDoor
