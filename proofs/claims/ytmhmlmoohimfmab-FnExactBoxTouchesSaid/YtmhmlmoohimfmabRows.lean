/-
  No cell of these rows narrows 'for every input' (looked for: loops, veiled, ifaces, maps, wideKeys, modest, calm, conditions, laid).
  DERIVED. THE GIVEN ROWS OF THIS SEAT. 4 by the template 'for every input the law returns true; each argument reads behind the call as it read before'; 0 by the template 'total and deterministic' (their statements: YtmhmlmoohimfmabTotals.lean).
  GIVEN WITH THE SEED: the statements are not yours to turn. If you find one false, say at which input.
  Laid BY PROGRAM, IN A SANDBOX (cutbox-rows.mjs): the forced cells as the released guide's own fill.sh prints them over the translation 3644283887374346… (all of the seat's roots in one cut). By AI agents, Wed Nov 11 2026. No macro, syntax, notation, axiom, sorry.
-/
import Derived.Test.YtmhmlmoohimfmabChecked
import GoSem.Claim
import GoSem.ClaimJoined
import GoSem.ClaimMapViews
import Derived.JoinedTies
import Derived.KernelRfl
namespace Go.Proofs.Ytmhmlmoohimfmab
/- THE CELL 'sum', in the pinned program and in every row, IS THE sha256 OF THE DUMP (.gsa) THAT YtmhmlmoohimfmabProg.lean LOADS. Nothing in Lean hashes anything: it is a label: what it is worth is what the hold of that sum in a sandbox is worth. -/
noncomputable def Try.pinned : Pinned := { name := "ytmhmlmoohimfmab", sum := "36442838873743463a1ed78d7ce4898cbe54add65d3225183799bfc8ca870b4e", checked := Try.checked }
namespace Rows
def none {H : Type} : Left H := { results := [], args := [] }

/-- 'laws.FnTouches': WHATEVER THE INPUT: true; the input reads as it did. -/
def fnTouchesSpec : ChangeSpec := { name := "fnTouches", fn := fun _ => fun
  | [d] => { results := [.lit (.bool true)], args := [d] }
  | _ => none }
def fnTouchesRow : OpenClaim := { program := "ytmhmlmoohimfmab", sum := "36442838873743463a1ed78d7ce4898cbe54add65d3225183799bfc8ca870b4e", func := "loop.example/replayverifier/laws.FnTouches", spec := "fnTouches", apart := false }
def FnTouchesSaid : Prop := fnTouchesRow.holds Try.pinned (OpenSpec.ofChange fnTouchesSpec)

/-- ITS FALSE NEIGHBOUR: 'it returns false'. Refute it at one input. -/
def fnTouchesWrong : ChangeSpec := { name := "fnTouches", fn := fun _ => fun
  | [d] => { results := [.lit (.bool false)], args := [d] }
  | _ => none }
def FnTouchesWrongFalsely : Prop := fnTouchesRow.holds Try.pinned (OpenSpec.ofChange fnTouchesWrong)

/-- 'laws.FnTouchesMore': WHATEVER THE INPUT: true; the input reads as it did. -/
def fnTouchesMoreSpec : ChangeSpec := { name := "fnTouchesMore", fn := fun _ => fun
  | [d1, d2] => { results := [.lit (.bool true)], args := [d1, d2] }
  | _ => none }
def fnTouchesMoreRow : OpenClaim := { program := "ytmhmlmoohimfmab", sum := "36442838873743463a1ed78d7ce4898cbe54add65d3225183799bfc8ca870b4e", func := "loop.example/replayverifier/laws.FnTouchesMore", spec := "fnTouchesMore", apart := false }
def FnTouchesMoreSaid : Prop := fnTouchesMoreRow.holds Try.pinned (OpenSpec.ofChange fnTouchesMoreSpec)

/-- ITS FALSE NEIGHBOUR: 'it returns false'. Refute it at one input. -/
def fnTouchesMoreWrong : ChangeSpec := { name := "fnTouchesMore", fn := fun _ => fun
  | [d1, d2] => { results := [.lit (.bool false)], args := [d1, d2] }
  | _ => none }
def FnTouchesMoreWrongFalsely : Prop := fnTouchesMoreRow.holds Try.pinned (OpenSpec.ofChange fnTouchesMoreWrong)

/-- 'laws.FnTouchesNear': WHATEVER THE INPUT: true; the input reads as it did. -/
def fnTouchesNearSpec : ChangeSpec := { name := "fnTouchesNear", fn := fun _ => fun
  | [d1, d2] => { results := [.lit (.bool true)], args := [d1, d2] }
  | _ => none }
def fnTouchesNearRow : OpenClaim := { program := "ytmhmlmoohimfmab", sum := "36442838873743463a1ed78d7ce4898cbe54add65d3225183799bfc8ca870b4e", func := "loop.example/replayverifier/laws.FnTouchesNear", spec := "fnTouchesNear", apart := false }
def FnTouchesNearSaid : Prop := fnTouchesNearRow.holds Try.pinned (OpenSpec.ofChange fnTouchesNearSpec)

/-- ITS FALSE NEIGHBOUR: 'it returns false'. Refute it at one input. -/
def fnTouchesNearWrong : ChangeSpec := { name := "fnTouchesNear", fn := fun _ => fun
  | [d1, d2] => { results := [.lit (.bool false)], args := [d1, d2] }
  | _ => none }
def FnTouchesNearWrongFalsely : Prop := fnTouchesNearRow.holds Try.pinned (OpenSpec.ofChange fnTouchesNearWrong)

/-- 'laws.FnExactBoxTouches': WHATEVER THE INPUT: true; the input reads as it did. -/
def fnExactBoxTouchesSpec : ChangeSpec := { name := "fnExactBoxTouches", fn := fun _ => fun
  | [d1, d2, d3] => { results := [.lit (.bool true)], args := [d1, d2, d3] }
  | _ => none }
def fnExactBoxTouchesRow : OpenClaim := { program := "ytmhmlmoohimfmab", sum := "36442838873743463a1ed78d7ce4898cbe54add65d3225183799bfc8ca870b4e", func := "loop.example/replayverifier/laws.FnExactBoxTouches", spec := "fnExactBoxTouches", apart := false }
def FnExactBoxTouchesSaid : Prop := fnExactBoxTouchesRow.holds Try.pinned (OpenSpec.ofChange fnExactBoxTouchesSpec)

/-- ITS FALSE NEIGHBOUR: 'it returns false'. Refute it at one input. -/
def fnExactBoxTouchesWrong : ChangeSpec := { name := "fnExactBoxTouches", fn := fun _ => fun
  | [d1, d2, d3] => { results := [.lit (.bool false)], args := [d1, d2, d3] }
  | _ => none }
def FnExactBoxTouchesWrongFalsely : Prop := fnExactBoxTouchesRow.holds Try.pinned (OpenSpec.ofChange fnExactBoxTouchesWrong)

/- THE SECOND FORM. 'bulk': how many values and letters a reading holds, each counted each time it is reached (what is shared counts as often as it is met; a slice's spare places count too). A statement '..UptoSaid' is the law's where the arguments, and the package variables that the reading takes, are together of bulk at most 1048576: NARROWER than '..Said'. Prove '..Said' where nothing that the law and all that it calls make is longer than what came in: it says more and counts as full. Else prove '..UptoSaid'. A law counts once. -/
mutual
def uptoBulk {H : Type} : DataW H → Nat
  | .lit (.string bytes) => bytes.length + 1
  | .lit _ => 1
  | .nil => 1
  | .ptr d => uptoBulk d + 1
  | .slice elems spare => uptoBulkAll elems + uptoBulkAll spare + 1
  | .agg parts => uptoBulkAll parts + 1
  | .iface _ d => uptoBulk d + 1
  | .map entries => uptoBulkEntries entries + 1
  | .held _ => 1
def uptoBulkAll {H : Type} : List (DataW H) → Nat
  | [] => 0
  | d :: r => uptoBulk d + uptoBulkAll r
def uptoBulkEntries {H : Type} : List (Lit × DataW H) → Nat
  | [] => 0
  | x :: r => uptoBulkEntry x + uptoBulkEntries r
def uptoBulkEntry {H : Type} : Lit × DataW H → Nat
  | (.string bytes, d) => bytes.length + uptoBulk d + 1
  | (_, d) => uptoBulk d + 1
 end
def uptoSmall : (H : Type) → List (DataW H) → Bool := fun _ ds => decide (uptoBulkAll ds ≤ 1048576)
def OpenSpec.upto (s : _root_.Go.ChangeSpec) : _root_.Go.OpenSpec := { _root_.Go.OpenSpec.ofChange s with cond := some uptoSmall }

/-- 'laws.FnTouches', WHERE WHAT IT READS IS OF BULK AT MOST 1048576: true; the input reads as it did. -/
def fnTouchesUptoRow : OpenClaim := { program := "ytmhmlmoohimfmab", sum := "36442838873743463a1ed78d7ce4898cbe54add65d3225183799bfc8ca870b4e", func := "loop.example/replayverifier/laws.FnTouches", spec := "fnTouches", apart := false, narrowed := true }
def FnTouchesUptoSaid : Prop := fnTouchesUptoRow.holds Try.pinned (OpenSpec.upto fnTouchesSpec)

/-- 'laws.FnTouchesMore', WHERE WHAT IT READS IS OF BULK AT MOST 1048576: true; the input reads as it did. -/
def fnTouchesMoreUptoRow : OpenClaim := { program := "ytmhmlmoohimfmab", sum := "36442838873743463a1ed78d7ce4898cbe54add65d3225183799bfc8ca870b4e", func := "loop.example/replayverifier/laws.FnTouchesMore", spec := "fnTouchesMore", apart := false, narrowed := true }
def FnTouchesMoreUptoSaid : Prop := fnTouchesMoreUptoRow.holds Try.pinned (OpenSpec.upto fnTouchesMoreSpec)

/-- 'laws.FnTouchesNear', WHERE WHAT IT READS IS OF BULK AT MOST 1048576: true; the input reads as it did. -/
def fnTouchesNearUptoRow : OpenClaim := { program := "ytmhmlmoohimfmab", sum := "36442838873743463a1ed78d7ce4898cbe54add65d3225183799bfc8ca870b4e", func := "loop.example/replayverifier/laws.FnTouchesNear", spec := "fnTouchesNear", apart := false, narrowed := true }
def FnTouchesNearUptoSaid : Prop := fnTouchesNearUptoRow.holds Try.pinned (OpenSpec.upto fnTouchesNearSpec)

/-- 'laws.FnExactBoxTouches', WHERE WHAT IT READS IS OF BULK AT MOST 1048576: true; the input reads as it did. -/
def fnExactBoxTouchesUptoRow : OpenClaim := { program := "ytmhmlmoohimfmab", sum := "36442838873743463a1ed78d7ce4898cbe54add65d3225183799bfc8ca870b4e", func := "loop.example/replayverifier/laws.FnExactBoxTouches", spec := "fnExactBoxTouches", apart := false, narrowed := true }
def FnExactBoxTouchesUptoSaid : Prop := fnExactBoxTouchesUptoRow.holds Try.pinned (OpenSpec.upto fnExactBoxTouchesSpec)

end Rows
end Go.Proofs.Ytmhmlmoohimfmab
