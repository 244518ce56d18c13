/-
  From what a row lists of the package-level table to what the walks ask of the world.
-/
import Derived.Test.YtnoenjociioffaaDoorRows
import Derived.Test.YtnoenjociioffaaDoorVecDir
import Derived.Lib.LaidU8
import Derived.ChangeVars
import Derived.WalkSmall
import Derived.Carry
namespace Go.Proofs.YtnoenjociioffaaDoor
open Go.ChangeShapes Go.RowKit

theorem gQ : Tryd.prog.globalNamed "loop.example/replayverifier/impl.firstQuarter" = some 0 := by kernel_rfl
theorem gQType : (Tryd.prog.globals[0]?).map (·.type) = some 130 := by kernel_rfl
theorem cellsV : Tryd.prog.cellsOf 24 = 2 := by kernel_rfl
theorem cellsI : Tryd.prog.cellsOf 3 = 1 := by kernel_rfl
theorem laidOutQ : laidOutB Tryd.prog = true := by kernel_rfl
theorem ownQ : ownKnob Tryd.prog.godebug = none := by kernel_rfl

theorem pair_at {W : World} {cs : Array Value} {fuel : Nat} {ds : List (DataW Unit)} {p : List MemPlace} (hd : DataW.trod (fun _ => ()) Tryd.prog W 0 (fun _ => true) false fuel 130 cs.toList = some (.agg ds, p)) (i : Nat) (hi : i < 4) (x y : Int)
    (he : ds[i]? = some (.agg [.lit (.int .i64 x), .lit (.int .i64 y)])) : cs[i * 2]? = some (.int .i64 x) ∧ cs[i * 2 + 1]? = some (.int .i64 y) := by
  obtain ⟨fuel', d, q, h1, h2⟩ := Lib.array_elem Tryd.underlying130 hd i hi
  rw [cellsV] at h2
  obtain rfl : d = .agg ([x, y].map fun z => .lit (.int .i64 z)) := Option.some.inj (h1.symm.trans he)
  have h3 := Lib.ints_of_struct Tryd.underlying24 (fun j f hf => by
    rcases j with _ | _ | j
    · simp at hf; subst hf; exact ⟨Tryd.underlying3, rfl, cellsI⟩
    · simp at hf; subst hf; exact ⟨Tryd.underlying3, rfl, cellsI⟩
    · simp at hf) cellsV h2
  have e0 := congrArg (·[0]?) h3
  have e1 := congrArg (·[1]?) h3
  simp [List.getElem?_drop] at e0 e1
  exact ⟨e0, e1⟩

/-- What the row's list gives: the table's cells hold its four vectors. -/
theorem quarter_of {W : World} (h : laidMetH Tryd.prog [("loop.example/replayverifier/impl.firstQuarter", Rows.laid_loop_example_replayverifier_impl_firstQuarter)] W) : Quarter W := by
  obtain ⟨g, t, cs, fuel, p, hg, ht, hvar, hd⟩ := Lib.laidMet.reads (show laidMet Tryd.prog [("loop.example/replayverifier/impl.firstQuarter", Rows.laid_loop_example_replayverifier_impl_firstQuarter)] W from h) (.head _)
  obtain rfl := Option.some.inj (gQ.symm.trans hg)
  obtain rfl := Option.some.inj (gQType.symm.trans ht)
  unfold Rows.laid_loop_example_replayverifier_impl_firstQuarter at hd
  obtain ⟨a0, b0⟩ := pair_at hd 0 (by decide) 1000 0 rfl
  obtain ⟨a1, b1⟩ := pair_at hd 1 (by decide) 924 383 rfl
  obtain ⟨a2, b2⟩ := pair_at hd 2 (by decide) 707 707 rfl
  obtain ⟨a3, b3⟩ := pair_at hd 3 (by decide) 383 924 rfl
  refine ⟨(World.var?_cell hg hvar 0).trans a0, (World.var?_cell hg hvar 1).trans b0, (World.var?_cell hg hvar 2).trans a1, (World.var?_cell hg hvar 3).trans b1, (World.var?_cell hg hvar 4).trans a2, (World.var?_cell hg hvar 5).trans b2, (World.var?_cell hg hvar 6).trans a3, (World.var?_cell hg hvar 7).trans b3, ?_⟩
  rcases Nat.lt_or_ge 0 W.heap.size with k | k
  · exact k
  · have c := (World.var?_cell hg hvar 0).trans a0
    simp [World.cell?, Array.getElem?_eq_none k] at c

/-- The variable reads behind the call as before it. -/
theorem var_stays {H : Type} {enc : TypeId × Value → H} {W W' : World} {gs : List (DataW H)} {q : List MemPlace} (hV : DataW.TrodVars enc Tryd.prog W (fun _ => true) ["loop.example/replayverifier/impl.firstQuarter"] gs q) (hb : Below W.heap.size W W') (h0 : 0 < W.heap.size) :
    ∃ d q', gs = [d] ∧ DataW.TrodVars enc Tryd.prog W' (fun b => decide (b < W.heap.size)) ["loop.example/replayverifier/impl.firstQuarter"] [d] q' := by
  obtain ⟨g, t, cs, fuel, d, p, rfl, hg, ht, hvar, hd, rfl⟩ := trodVars_one hV
  obtain rfl := Option.some.inj (gQ.symm.trans hg)
  obtain rfl := Option.some.inj (gQType.symm.trans ht)
  obtain ⟨fuel', hd'⟩ := Below.trod (v := .agg cs) laidOutQ (by kernel_rfl) (of_decide_eq_true (by kernel_rfl)) ⟨fuel, hd⟩ hb (fun x hx => DataW.trod_lt fuel _ _ _ hd x hx)
  exact ⟨d, _, rfl, trodVars_mk1 gQ gQType (var?_below hb gQ h0 hvar) hd'⟩

def quarterCells : Array Value := #[.int .i64 1000, .int .i64 0, .int .i64 924, .int .i64 383, .int .i64 707, .int .i64 707, .int .i64 383, .int .i64 924]
abbrev quarterH {H : Type} : DataW H := .agg [.agg [.lit (.int .i64 1000), .lit (.int .i64 0)], .agg [.lit (.int .i64 924), .lit (.int .i64 383)], .agg [.lit (.int .i64 707), .lit (.int .i64 707)], .agg [.lit (.int .i64 383), .lit (.int .i64 924)]]
/-- A world for the witness: the settled one, the table holding what its initialiser lays. -/
noncomputable def laidWorld (os : Os) : World :=
  { World.holding Tryd.prog os ⟨#[], #[], []⟩ with heap := (World.holding Tryd.prog os ⟨#[], #[], []⟩).heap.modify 0 fun
      | .cells _ t frozen => .cells quarterCells t frozen
      | o => o }

end Go.Proofs.YtnoenjociioffaaDoor
