/-
  No cell of these rows narrows 'for every input' (looked for: loops, veiled, ifaces, maps, wideKeys, modest, calm, conditions, laid).
  DERIVED. THE GIVEN ROWS OF THIS SEAT. 9 by the template 'for every input the law returns true; each argument reads behind the call as it read before'; 0 by the template 'total and deterministic' (their statements: YtkkifikdnjajjaaTotals.lean).
  GIVEN WITH THE SEED: the statements are not yours to turn. If you find one false, say at which input.
  Laid BY PROGRAM, IN A SANDBOX (cutbox-rows.mjs): the forced cells as the released guide's own fill.sh prints them over the translation b8483a51dd9e0ab8… (all of the seat's roots in one cut). By AI agents, Wed Nov 11 2026. No macro, syntax, notation, axiom, sorry.
-/
import Derived.Test.YtkkifikdnjajjaaChecked
import GoSem.Claim
import GoSem.ClaimJoined
import GoSem.ClaimMapViews
import Derived.JoinedTies
import Derived.KernelRfl
namespace Go.Proofs.Ytkkifikdnjajjaa
/- THE CELL 'sum', in the pinned program and in every row, IS THE sha256 OF THE DUMP (.gsa) THAT YtkkifikdnjajjaaProg.lean LOADS. Nothing in Lean hashes anything: it is a label: what it is worth is what the hold of that sum in a sandbox is worth. -/
noncomputable def Try.pinned : Pinned := { name := "ytkkifikdnjajjaa", sum := "b8483a51dd9e0ab8687090a6a4b75855ba68e218b990eae9f1673fdce5c9b55f", checked := Try.checked }
namespace Rows
def none {H : Type} : Left H := { results := [], args := [] }

/-- 'laws.FnBoxHas': WHATEVER THE INPUT: true; the input reads as it did. -/
def fnBoxHasSpec : ChangeSpec := { name := "fnBoxHas", fn := fun _ => fun
  | [d] => { results := [.lit (.bool true)], args := [d] }
  | _ => none }
def fnBoxHasRow : OpenClaim := { program := "ytkkifikdnjajjaa", sum := "b8483a51dd9e0ab8687090a6a4b75855ba68e218b990eae9f1673fdce5c9b55f", func := "loop.example/replayverifier/laws.FnBoxHas", spec := "fnBoxHas", apart := false }
def FnBoxHasSaid : Prop := fnBoxHasRow.holds Try.pinned (OpenSpec.ofChange fnBoxHasSpec)

/-- ITS FALSE NEIGHBOUR: 'it returns false'. Refute it at one input. -/
def fnBoxHasWrong : ChangeSpec := { name := "fnBoxHas", fn := fun _ => fun
  | [d] => { results := [.lit (.bool false)], args := [d] }
  | _ => none }
def FnBoxHasWrongFalsely : Prop := fnBoxHasRow.holds Try.pinned (OpenSpec.ofChange fnBoxHasWrong)

/-- 'laws.FnBoxHasSides': WHATEVER THE INPUT: true; the input reads as it did. -/
def fnBoxHasSidesSpec : ChangeSpec := { name := "fnBoxHasSides", fn := fun _ => fun
  | [d] => { results := [.lit (.bool true)], args := [d] }
  | _ => none }
def fnBoxHasSidesRow : OpenClaim := { program := "ytkkifikdnjajjaa", sum := "b8483a51dd9e0ab8687090a6a4b75855ba68e218b990eae9f1673fdce5c9b55f", func := "loop.example/replayverifier/laws.FnBoxHasSides", spec := "fnBoxHasSides", apart := false }
def FnBoxHasSidesSaid : Prop := fnBoxHasSidesRow.holds Try.pinned (OpenSpec.ofChange fnBoxHasSidesSpec)

/-- ITS FALSE NEIGHBOUR: 'it returns false'. Refute it at one input. -/
def fnBoxHasSidesWrong : ChangeSpec := { name := "fnBoxHasSides", fn := fun _ => fun
  | [d] => { results := [.lit (.bool false)], args := [d] }
  | _ => none }
def FnBoxHasSidesWrongFalsely : Prop := fnBoxHasSidesRow.holds Try.pinned (OpenSpec.ofChange fnBoxHasSidesWrong)

/-- 'laws.FnMeet': WHATEVER THE INPUT: true; the input reads as it did. -/
def fnMeetSpec : ChangeSpec := { name := "fnMeet", fn := fun _ => fun
  | [d] => { results := [.lit (.bool true)], args := [d] }
  | _ => none }
def fnMeetRow : OpenClaim := { program := "ytkkifikdnjajjaa", sum := "b8483a51dd9e0ab8687090a6a4b75855ba68e218b990eae9f1673fdce5c9b55f", func := "loop.example/replayverifier/laws.FnMeet", spec := "fnMeet", apart := false }
def FnMeetSaid : Prop := fnMeetRow.holds Try.pinned (OpenSpec.ofChange fnMeetSpec)

/-- ITS FALSE NEIGHBOUR: 'it returns false'. Refute it at one input. -/
def fnMeetWrong : ChangeSpec := { name := "fnMeet", fn := fun _ => fun
  | [d] => { results := [.lit (.bool false)], args := [d] }
  | _ => none }
def FnMeetWrongFalsely : Prop := fnMeetRow.holds Try.pinned (OpenSpec.ofChange fnMeetWrong)

/-- 'laws.FnMeetPoint': WHATEVER THE INPUT: true; the input reads as it did. -/
def fnMeetPointSpec : ChangeSpec := { name := "fnMeetPoint", fn := fun _ => fun
  | [d1, d2] => { results := [.lit (.bool true)], args := [d1, d2] }
  | _ => none }
def fnMeetPointRow : OpenClaim := { program := "ytkkifikdnjajjaa", sum := "b8483a51dd9e0ab8687090a6a4b75855ba68e218b990eae9f1673fdce5c9b55f", func := "loop.example/replayverifier/laws.FnMeetPoint", spec := "fnMeetPoint", apart := false }
def FnMeetPointSaid : Prop := fnMeetPointRow.holds Try.pinned (OpenSpec.ofChange fnMeetPointSpec)

/-- ITS FALSE NEIGHBOUR: 'it returns false'. Refute it at one input. -/
def fnMeetPointWrong : ChangeSpec := { name := "fnMeetPoint", fn := fun _ => fun
  | [d1, d2] => { results := [.lit (.bool false)], args := [d1, d2] }
  | _ => none }
def FnMeetPointWrongFalsely : Prop := fnMeetPointRow.holds Try.pinned (OpenSpec.ofChange fnMeetPointWrong)

/-- 'laws.FnMeetNone': WHATEVER THE INPUT: true; the input reads as it did. -/
def fnMeetNoneSpec : ChangeSpec := { name := "fnMeetNone", fn := fun _ => fun
  | [d] => { results := [.lit (.bool true)], args := [d] }
  | _ => none }
def fnMeetNoneRow : OpenClaim := { program := "ytkkifikdnjajjaa", sum := "b8483a51dd9e0ab8687090a6a4b75855ba68e218b990eae9f1673fdce5c9b55f", func := "loop.example/replayverifier/laws.FnMeetNone", spec := "fnMeetNone", apart := false }
def FnMeetNoneSaid : Prop := fnMeetNoneRow.holds Try.pinned (OpenSpec.ofChange fnMeetNoneSpec)

/-- ITS FALSE NEIGHBOUR: 'it returns false'. Refute it at one input. -/
def fnMeetNoneWrong : ChangeSpec := { name := "fnMeetNone", fn := fun _ => fun
  | [d] => { results := [.lit (.bool false)], args := [d] }
  | _ => none }
def FnMeetNoneWrongFalsely : Prop := fnMeetNoneRow.holds Try.pinned (OpenSpec.ofChange fnMeetNoneWrong)

/-- 'laws.FnMeetSelf': WHATEVER THE INPUT: true; the input reads as it did. -/
def fnMeetSelfSpec : ChangeSpec := { name := "fnMeetSelf", fn := fun _ => fun
  | [d] => { results := [.lit (.bool true)], args := [d] }
  | _ => none }
def fnMeetSelfRow : OpenClaim := { program := "ytkkifikdnjajjaa", sum := "b8483a51dd9e0ab8687090a6a4b75855ba68e218b990eae9f1673fdce5c9b55f", func := "loop.example/replayverifier/laws.FnMeetSelf", spec := "fnMeetSelf", apart := false }
def FnMeetSelfSaid : Prop := fnMeetSelfRow.holds Try.pinned (OpenSpec.ofChange fnMeetSelfSpec)

/-- ITS FALSE NEIGHBOUR: 'it returns false'. Refute it at one input. -/
def fnMeetSelfWrong : ChangeSpec := { name := "fnMeetSelf", fn := fun _ => fun
  | [d] => { results := [.lit (.bool false)], args := [d] }
  | _ => none }
def FnMeetSelfWrongFalsely : Prop := fnMeetSelfRow.holds Try.pinned (OpenSpec.ofChange fnMeetSelfWrong)

/-- 'laws.FnNearest': WHATEVER THE INPUT: true; the input reads as it did. -/
def fnNearestSpec : ChangeSpec := { name := "fnNearest", fn := fun _ => fun
  | [d] => { results := [.lit (.bool true)], args := [d] }
  | _ => none }
def fnNearestRow : OpenClaim := { program := "ytkkifikdnjajjaa", sum := "b8483a51dd9e0ab8687090a6a4b75855ba68e218b990eae9f1673fdce5c9b55f", func := "loop.example/replayverifier/laws.FnNearest", spec := "fnNearest", apart := false }
def FnNearestSaid : Prop := fnNearestRow.holds Try.pinned (OpenSpec.ofChange fnNearestSpec)

/-- ITS FALSE NEIGHBOUR: 'it returns false'. Refute it at one input. -/
def fnNearestWrong : ChangeSpec := { name := "fnNearest", fn := fun _ => fun
  | [d] => { results := [.lit (.bool false)], args := [d] }
  | _ => none }
def FnNearestWrongFalsely : Prop := fnNearestRow.holds Try.pinned (OpenSpec.ofChange fnNearestWrong)

/-- 'laws.FnNearestAny': WHATEVER THE INPUT: true; the input reads as it did. -/
def fnNearestAnySpec : ChangeSpec := { name := "fnNearestAny", fn := fun _ => fun
  | [d1, d2] => { results := [.lit (.bool true)], args := [d1, d2] }
  | _ => none }
def fnNearestAnyRow : OpenClaim := { program := "ytkkifikdnjajjaa", sum := "b8483a51dd9e0ab8687090a6a4b75855ba68e218b990eae9f1673fdce5c9b55f", func := "loop.example/replayverifier/laws.FnNearestAny", spec := "fnNearestAny", apart := false }
def FnNearestAnySaid : Prop := fnNearestAnyRow.holds Try.pinned (OpenSpec.ofChange fnNearestAnySpec)

/-- ITS FALSE NEIGHBOUR: 'it returns false'. Refute it at one input. -/
def fnNearestAnyWrong : ChangeSpec := { name := "fnNearestAny", fn := fun _ => fun
  | [d1, d2] => { results := [.lit (.bool false)], args := [d1, d2] }
  | _ => none }
def FnNearestAnyWrongFalsely : Prop := fnNearestAnyRow.holds Try.pinned (OpenSpec.ofChange fnNearestAnyWrong)

/-- 'laws.FnTouches': WHATEVER THE INPUT: true; the input reads as it did. -/
def fnTouchesSpec : ChangeSpec := { name := "fnTouches", fn := fun _ => fun
  | [d] => { results := [.lit (.bool true)], args := [d] }
  | _ => none }
def fnTouchesRow : OpenClaim := { program := "ytkkifikdnjajjaa", sum := "b8483a51dd9e0ab8687090a6a4b75855ba68e218b990eae9f1673fdce5c9b55f", func := "loop.example/replayverifier/laws.FnTouches", spec := "fnTouches", apart := false }
def FnTouchesSaid : Prop := fnTouchesRow.holds Try.pinned (OpenSpec.ofChange fnTouchesSpec)

/-- ITS FALSE NEIGHBOUR: 'it returns false'. Refute it at one input. -/
def fnTouchesWrong : ChangeSpec := { name := "fnTouches", fn := fun _ => fun
  | [d] => { results := [.lit (.bool false)], args := [d] }
  | _ => none }
def FnTouchesWrongFalsely : Prop := fnTouchesRow.holds Try.pinned (OpenSpec.ofChange fnTouchesWrong)

/- THE SECOND FORM. 'bulk': how many values and letters a reading holds, each counted each time it is reached (what is shared counts as often as it is met; a slice's spare places count too). A statement '..UptoSaid' is the law's where the arguments, and the package variables that the reading takes, are together of bulk at most 1048576: NARROWER than '..Said'. Prove '..Said' where nothing that the law and all that it calls make is longer than what came in: it says more and counts as full. Else prove '..UptoSaid'. A law counts once. -/
mutual
def uptoBulk {H : Type} : DataW H → Nat
  | .lit (.string bytes) => bytes.length + 1
  | .lit _ => 1
  | .nil => 1
  | .ptr d => uptoBulk d + 1
  | .slice elems spare => uptoBulkAll elems + uptoBulkAll spare + 1
  | .agg parts => uptoBulkAll parts + 1
  | .iface _ d => uptoBulk d + 1
  | .map entries => uptoBulkEntries entries + 1
  | .held _ => 1
def uptoBulkAll {H : Type} : List (DataW H) → Nat
  | [] => 0
  | d :: r => uptoBulk d + uptoBulkAll r
def uptoBulkEntries {H : Type} : List (Lit × DataW H) → Nat
  | [] => 0
  | x :: r => uptoBulkEntry x + uptoBulkEntries r
def uptoBulkEntry {H : Type} : Lit × DataW H → Nat
  | (.string bytes, d) => bytes.length + uptoBulk d + 1
  | (_, d) => uptoBulk d + 1
 end
def uptoSmall : (H : Type) → List (DataW H) → Bool := fun _ ds => decide (uptoBulkAll ds ≤ 1048576)
def OpenSpec.upto (s : _root_.Go.ChangeSpec) : _root_.Go.OpenSpec := { _root_.Go.OpenSpec.ofChange s with cond := some uptoSmall }

/-- 'laws.FnBoxHas', WHERE WHAT IT READS IS OF BULK AT MOST 1048576: true; the input reads as it did. -/
def fnBoxHasUptoRow : OpenClaim := { program := "ytkkifikdnjajjaa", sum := "b8483a51dd9e0ab8687090a6a4b75855ba68e218b990eae9f1673fdce5c9b55f", func := "loop.example/replayverifier/laws.FnBoxHas", spec := "fnBoxHas", apart := false, narrowed := true }
def FnBoxHasUptoSaid : Prop := fnBoxHasUptoRow.holds Try.pinned (OpenSpec.upto fnBoxHasSpec)

/-- 'laws.FnBoxHasSides', WHERE WHAT IT READS IS OF BULK AT MOST 1048576: true; the input reads as it did. -/
def fnBoxHasSidesUptoRow : OpenClaim := { program := "ytkkifikdnjajjaa", sum := "b8483a51dd9e0ab8687090a6a4b75855ba68e218b990eae9f1673fdce5c9b55f", func := "loop.example/replayverifier/laws.FnBoxHasSides", spec := "fnBoxHasSides", apart := false, narrowed := true }
def FnBoxHasSidesUptoSaid : Prop := fnBoxHasSidesUptoRow.holds Try.pinned (OpenSpec.upto fnBoxHasSidesSpec)

/-- 'laws.FnMeet', WHERE WHAT IT READS IS OF BULK AT MOST 1048576: true; the input reads as it did. -/
def fnMeetUptoRow : OpenClaim := { program := "ytkkifikdnjajjaa", sum := "b8483a51dd9e0ab8687090a6a4b75855ba68e218b990eae9f1673fdce5c9b55f", func := "loop.example/replayverifier/laws.FnMeet", spec := "fnMeet", apart := false, narrowed := true }
def FnMeetUptoSaid : Prop := fnMeetUptoRow.holds Try.pinned (OpenSpec.upto fnMeetSpec)

/-- 'laws.FnMeetPoint', WHERE WHAT IT READS IS OF BULK AT MOST 1048576: true; the input reads as it did. -/
def fnMeetPointUptoRow : OpenClaim := { program := "ytkkifikdnjajjaa", sum := "b8483a51dd9e0ab8687090a6a4b75855ba68e218b990eae9f1673fdce5c9b55f", func := "loop.example/replayverifier/laws.FnMeetPoint", spec := "fnMeetPoint", apart := false, narrowed := true }
def FnMeetPointUptoSaid : Prop := fnMeetPointUptoRow.holds Try.pinned (OpenSpec.upto fnMeetPointSpec)

/-- 'laws.FnMeetNone', WHERE WHAT IT READS IS OF BULK AT MOST 1048576: true; the input reads as it did. -/
def fnMeetNoneUptoRow : OpenClaim := { program := "ytkkifikdnjajjaa", sum := "b8483a51dd9e0ab8687090a6a4b75855ba68e218b990eae9f1673fdce5c9b55f", func := "loop.example/replayverifier/laws.FnMeetNone", spec := "fnMeetNone", apart := false, narrowed := true }
def FnMeetNoneUptoSaid : Prop := fnMeetNoneUptoRow.holds Try.pinned (OpenSpec.upto fnMeetNoneSpec)

/-- 'laws.FnMeetSelf', WHERE WHAT IT READS IS OF BULK AT MOST 1048576: true; the input reads as it did. -/
def fnMeetSelfUptoRow : OpenClaim := { program := "ytkkifikdnjajjaa", sum := "b8483a51dd9e0ab8687090a6a4b75855ba68e218b990eae9f1673fdce5c9b55f", func := "loop.example/replayverifier/laws.FnMeetSelf", spec := "fnMeetSelf", apart := false, narrowed := true }
def FnMeetSelfUptoSaid : Prop := fnMeetSelfUptoRow.holds Try.pinned (OpenSpec.upto fnMeetSelfSpec)

/-- 'laws.FnNearest', WHERE WHAT IT READS IS OF BULK AT MOST 1048576: true; the input reads as it did. -/
def fnNearestUptoRow : OpenClaim := { program := "ytkkifikdnjajjaa", sum := "b8483a51dd9e0ab8687090a6a4b75855ba68e218b990eae9f1673fdce5c9b55f", func := "loop.example/replayverifier/laws.FnNearest", spec := "fnNearest", apart := false, narrowed := true }
def FnNearestUptoSaid : Prop := fnNearestUptoRow.holds Try.pinned (OpenSpec.upto fnNearestSpec)

/-- 'laws.FnNearestAny', WHERE WHAT IT READS IS OF BULK AT MOST 1048576: true; the input reads as it did. -/
def fnNearestAnyUptoRow : OpenClaim := { program := "ytkkifikdnjajjaa", sum := "b8483a51dd9e0ab8687090a6a4b75855ba68e218b990eae9f1673fdce5c9b55f", func := "loop.example/replayverifier/laws.FnNearestAny", spec := "fnNearestAny", apart := false, narrowed := true }
def FnNearestAnyUptoSaid : Prop := fnNearestAnyUptoRow.holds Try.pinned (OpenSpec.upto fnNearestAnySpec)

/-- 'laws.FnTouches', WHERE WHAT IT READS IS OF BULK AT MOST 1048576: true; the input reads as it did. -/
def fnTouchesUptoRow : OpenClaim := { program := "ytkkifikdnjajjaa", sum := "b8483a51dd9e0ab8687090a6a4b75855ba68e218b990eae9f1673fdce5c9b55f", func := "loop.example/replayverifier/laws.FnTouches", spec := "fnTouches", apart := false, narrowed := true }
def FnTouchesUptoSaid : Prop := fnTouchesUptoRow.holds Try.pinned (OpenSpec.upto fnTouchesSpec)

end Rows
end Go.Proofs.Ytkkifikdnjajjaa
