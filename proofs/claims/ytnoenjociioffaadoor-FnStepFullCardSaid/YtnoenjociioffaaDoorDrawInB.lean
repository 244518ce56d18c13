/-
  A level and two inputs that the model draws.
-/
import Derived.Test.YtnoenjociioffaaDoorDrawIn
import Derived.Test.YtnoenjociioffaaDoorDrawLevB
namespace Go.Proofs.YtnoenjociioffaaDoor
open Go.RowKit
open M

def DrawnLII (w : World) (e : Ending) (w' : World) : Prop :=
  ∃ (i t x y : Int) (A : Option Addr) (n c : Nat) (G : Option Addr) (m kk : Nat) (p q s z b : Int) (ws gs : List Bx) (s1 p1 : Int) (z1 : Bool) (s2 p2 : Int) (z2 : Bool), (((-3 ≤ s1 ∧ s1 ≤ 3) ∧ (-3 ≤ p1 ∧ p1 ≤ 5)) ∧ ((-3 ≤ s2 ∧ s2 ≤ 3) ∧ (-3 ≤ p2 ∧ p2 ≤ 5))) ∧ e = .returned (.tuple #[lev i t x y A n c G m kk p q s z b, inp s1 p1 z1, inp s2 p2 z2]) ∧ (n ≤ 20 ∧ n ≤ c) ∧ (m ≤ 20 ∧ m ≤ kk) ∧ Boxes w' A n ws ∧ Boxes w' G m gs ∧ Mine w.heap.size A ∧ Mine w.heap.size G ∧ Below w.heap.size w w'
/-- What a function hands back that lies in three variables. -/
theorem res_cells3 {P : Program} {fn : Func} {p p' p2 : Tmp} {ty ty' ty2 : TypeId} {tmps : Array Value} {w : World} (h : fn.results = #[.cell p ty, .cell p' ty', .cell p2 ty2]) (b b' b2 : Nat) (hp : tmps[p]?.getD undef = .pointer (some ⟨b, 0, none⟩)) (hp' : tmps[p']?.getD undef = .pointer (some ⟨b', 0, none⟩)) (hp2 : tmps[p2]?.getD undef = .pointer (some ⟨b2, 0, none⟩)) (vs us ts : List Value) (L : CellsAt w b vs) (L' : CellsAt w b' us) (L2 : CellsAt w b2 ts) {d d' d2 : TypeDesc}
    (hu : P.underlying ty = some d) (hd : d.isRow = true) (hi : (P.info? ty).map (·.size) = some vs.length) (hu' : P.underlying ty' = some d') (hd' : d'.isRow = true) (hi' : (P.info? ty').map (·.size) = some us.length) (hu2 : P.underlying ty2 = some d2) (hd2 : d2.isRow = true) (hi2 : (P.info? ty2).map (·.size) = some ts.length) : (results fn tmps).run P w = .ok (.tuple #[.agg vs.toArray, .agg us.toArray, .agg ts.toArray]) w := by
  simp [results, h, hp, hp', hp2, asAddr, run_loadVar_mid w b 0 ty vs d L.range hu hd hi, run_loadVar_mid w b' 0 ty' us d' L'.range hu' hd' hi', run_loadVar_mid w b2 0 ty2 ts d2 L2.range hu2 hd2 hi2]

end Go.Proofs.YtnoenjociioffaaDoor
