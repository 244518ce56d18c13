/-
  No cell of these rows narrows 'for every input' (looked for: loops, veiled, ifaces, maps, wideKeys, modest, calm, conditions, laid).
  DERIVED. THE GIVEN ROWS OF THIS SEAT. 6 by the template 'for every input the law returns true; each argument reads behind the call as it read before'; 0 by the template 'total and deterministic' (their statements: YtagbeneapmpooabTotals.lean).
  GIVEN WITH THE SEED: the statements are not yours to turn. If you find one false, say at which input.
  Laid BY PROGRAM, IN A SANDBOX (cutbox-rows.mjs): the forced cells as the released guide's own fill.sh prints them over the translation 6decece909a2bc4b… (all of the seat's roots in one cut). By AI agents, Wed Nov 11 2026. No macro, syntax, notation, axiom, sorry.
-/
import Derived.Test.YtagbeneapmpooabChecked
import GoSem.Claim
import GoSem.ClaimJoined
import GoSem.ClaimMapViews
import Derived.JoinedTies
import Derived.KernelRfl
namespace Go.Proofs.Ytagbeneapmpooab
/- THE CELL 'sum', in the pinned program and in every row, IS THE sha256 OF THE DUMP (.gsa) THAT YtagbeneapmpooabProg.lean LOADS. Nothing in Lean hashes anything: it is a label: what it is worth is what the hold of that sum in a sandbox is worth. -/
noncomputable def Try.pinned : Pinned := { name := "ytagbeneapmpooab", sum := "6decece909a2bc4b5767fdcf3e80ceb19dcda5b0d2dfc4ba5e47c1d5b2021a16", checked := Try.checked }
namespace Rows
def none {H : Type} : Left H := { results := [], args := [] }

/-- 'laws.FnLegalPrefix': WHATEVER THE INPUT: true; the input reads as it did. -/
def fnLegalPrefixSpec : ChangeSpec := { name := "fnLegalPrefix", fn := fun _ => fun
  | [d] => { results := [.lit (.bool true)], args := [d] }
  | _ => none }
def fnLegalPrefixRow : OpenClaim := { program := "ytagbeneapmpooab", sum := "6decece909a2bc4b5767fdcf3e80ceb19dcda5b0d2dfc4ba5e47c1d5b2021a16", func := "loop.example/replayverifier/laws.FnLegalPrefix", spec := "fnLegalPrefix", unfollowed := true, recurses := true, apart := false }
def FnLegalPrefixSaid : Prop := fnLegalPrefixRow.holds Try.pinned (OpenSpec.ofChange fnLegalPrefixSpec)

/-- ITS FALSE NEIGHBOUR: 'it returns false'. Refute it at one input. -/
def fnLegalPrefixWrong : ChangeSpec := { name := "fnLegalPrefix", fn := fun _ => fun
  | [d] => { results := [.lit (.bool false)], args := [d] }
  | _ => none }
def FnLegalPrefixWrongFalsely : Prop := fnLegalPrefixRow.holds Try.pinned (OpenSpec.ofChange fnLegalPrefixWrong)

/-- 'laws.FnLegalPairs': WHATEVER THE INPUT: true; the input reads as it did. -/
def fnLegalPairsSpec : ChangeSpec := { name := "fnLegalPairs", fn := fun _ => fun
  | [d] => { results := [.lit (.bool true)], args := [d] }
  | _ => none }
def fnLegalPairsRow : OpenClaim := { program := "ytagbeneapmpooab", sum := "6decece909a2bc4b5767fdcf3e80ceb19dcda5b0d2dfc4ba5e47c1d5b2021a16", func := "loop.example/replayverifier/laws.FnLegalPairs", spec := "fnLegalPairs", unfollowed := true, recurses := true, apart := false }
def FnLegalPairsSaid : Prop := fnLegalPairsRow.holds Try.pinned (OpenSpec.ofChange fnLegalPairsSpec)

/-- ITS FALSE NEIGHBOUR: 'it returns false'. Refute it at one input. -/
def fnLegalPairsWrong : ChangeSpec := { name := "fnLegalPairs", fn := fun _ => fun
  | [d] => { results := [.lit (.bool false)], args := [d] }
  | _ => none }
def FnLegalPairsWrongFalsely : Prop := fnLegalPairsRow.holds Try.pinned (OpenSpec.ofChange fnLegalPairsWrong)

/-- 'laws.FnLegalLong': WHATEVER THE INPUT: true; the input reads as it did. -/
def fnLegalLongSpec : ChangeSpec := { name := "fnLegalLong", fn := fun _ => fun
  | [d1, d2] => { results := [.lit (.bool true)], args := [d1, d2] }
  | _ => none }
def fnLegalLongRow : OpenClaim := { program := "ytagbeneapmpooab", sum := "6decece909a2bc4b5767fdcf3e80ceb19dcda5b0d2dfc4ba5e47c1d5b2021a16", func := "loop.example/replayverifier/laws.FnLegalLong", spec := "fnLegalLong", unfollowed := true, recurses := true, apart := false }
def FnLegalLongSaid : Prop := fnLegalLongRow.holds Try.pinned (OpenSpec.ofChange fnLegalLongSpec)

/-- ITS FALSE NEIGHBOUR: 'it returns false'. Refute it at one input. -/
def fnLegalLongWrong : ChangeSpec := { name := "fnLegalLong", fn := fun _ => fun
  | [d1, d2] => { results := [.lit (.bool false)], args := [d1, d2] }
  | _ => none }
def FnLegalLongWrongFalsely : Prop := fnLegalLongRow.holds Try.pinned (OpenSpec.ofChange fnLegalLongWrong)

/-- 'laws.FnLegalPauses': WHATEVER THE INPUT: true; the input reads as it did. -/
def fnLegalPausesSpec : ChangeSpec := { name := "fnLegalPauses", fn := fun _ => fun
  | [d] => { results := [.lit (.bool true)], args := [d] }
  | _ => none }
def fnLegalPausesRow : OpenClaim := { program := "ytagbeneapmpooab", sum := "6decece909a2bc4b5767fdcf3e80ceb19dcda5b0d2dfc4ba5e47c1d5b2021a16", func := "loop.example/replayverifier/laws.FnLegalPauses", spec := "fnLegalPauses", unfollowed := true, recurses := true, apart := false }
def FnLegalPausesSaid : Prop := fnLegalPausesRow.holds Try.pinned (OpenSpec.ofChange fnLegalPausesSpec)

/-- ITS FALSE NEIGHBOUR: 'it returns false'. Refute it at one input. -/
def fnLegalPausesWrong : ChangeSpec := { name := "fnLegalPauses", fn := fun _ => fun
  | [d] => { results := [.lit (.bool false)], args := [d] }
  | _ => none }
def FnLegalPausesWrongFalsely : Prop := fnLegalPausesRow.holds Try.pinned (OpenSpec.ofChange fnLegalPausesWrong)

/-- 'laws.FnLegalNone': WHATEVER THE INPUT: true; the input reads as it did. -/
def fnLegalNoneSpec : ChangeSpec := { name := "fnLegalNone", fn := fun _ => fun
  | [d] => { results := [.lit (.bool true)], args := [d] }
  | _ => none }
def fnLegalNoneRow : OpenClaim := { program := "ytagbeneapmpooab", sum := "6decece909a2bc4b5767fdcf3e80ceb19dcda5b0d2dfc4ba5e47c1d5b2021a16", func := "loop.example/replayverifier/laws.FnLegalNone", spec := "fnLegalNone", unfollowed := true, recurses := true, apart := false }
def FnLegalNoneSaid : Prop := fnLegalNoneRow.holds Try.pinned (OpenSpec.ofChange fnLegalNoneSpec)

/-- ITS FALSE NEIGHBOUR: 'it returns false'. Refute it at one input. -/
def fnLegalNoneWrong : ChangeSpec := { name := "fnLegalNone", fn := fun _ => fun
  | [d] => { results := [.lit (.bool false)], args := [d] }
  | _ => none }
def FnLegalNoneWrongFalsely : Prop := fnLegalNoneRow.holds Try.pinned (OpenSpec.ofChange fnLegalNoneWrong)

/-- 'laws.FnLegalSteer': WHATEVER THE INPUT: true; the input reads as it did. -/
def fnLegalSteerSpec : ChangeSpec := { name := "fnLegalSteer", fn := fun _ => fun
  | [d] => { results := [.lit (.bool true)], args := [d] }
  | _ => none }
def fnLegalSteerRow : OpenClaim := { program := "ytagbeneapmpooab", sum := "6decece909a2bc4b5767fdcf3e80ceb19dcda5b0d2dfc4ba5e47c1d5b2021a16", func := "loop.example/replayverifier/laws.FnLegalSteer", spec := "fnLegalSteer", unfollowed := true, recurses := true, apart := false }
def FnLegalSteerSaid : Prop := fnLegalSteerRow.holds Try.pinned (OpenSpec.ofChange fnLegalSteerSpec)

/-- ITS FALSE NEIGHBOUR: 'it returns false'. Refute it at one input. -/
def fnLegalSteerWrong : ChangeSpec := { name := "fnLegalSteer", fn := fun _ => fun
  | [d] => { results := [.lit (.bool false)], args := [d] }
  | _ => none }
def FnLegalSteerWrongFalsely : Prop := fnLegalSteerRow.holds Try.pinned (OpenSpec.ofChange fnLegalSteerWrong)

/- THE SECOND FORM. 'bulk': how many values and letters a reading holds, each counted each time it is reached (what is shared counts as often as it is met; a slice's spare places count too). A statement '..UptoSaid' is the law's where the arguments, and the package variables that the reading takes, are together of bulk at most 1048576: NARROWER than '..Said'. Prove '..Said' where nothing that the law and all that it calls make is longer than what came in: it says more and counts as full. Else prove '..UptoSaid'. A law counts once. -/
mutual
def uptoBulk {H : Type} : DataW H → Nat
  | .lit (.string bytes) => bytes.length + 1
  | .lit _ => 1
  | .nil => 1
  | .ptr d => uptoBulk d + 1
  | .slice elems spare => uptoBulkAll elems + uptoBulkAll spare + 1
  | .agg parts => uptoBulkAll parts + 1
  | .iface _ d => uptoBulk d + 1
  | .map entries => uptoBulkEntries entries + 1
  | .held _ => 1
def uptoBulkAll {H : Type} : List (DataW H) → Nat
  | [] => 0
  | d :: r => uptoBulk d + uptoBulkAll r
def uptoBulkEntries {H : Type} : List (Lit × DataW H) → Nat
  | [] => 0
  | x :: r => uptoBulkEntry x + uptoBulkEntries r
def uptoBulkEntry {H : Type} : Lit × DataW H → Nat
  | (.string bytes, d) => bytes.length + uptoBulk d + 1
  | (_, d) => uptoBulk d + 1
 end
def uptoSmall : (H : Type) → List (DataW H) → Bool := fun _ ds => decide (uptoBulkAll ds ≤ 1048576)
def OpenSpec.upto (s : _root_.Go.ChangeSpec) : _root_.Go.OpenSpec := { _root_.Go.OpenSpec.ofChange s with cond := some uptoSmall }

/-- 'laws.FnLegalPrefix', WHERE WHAT IT READS IS OF BULK AT MOST 1048576: true; the input reads as it did. -/
def fnLegalPrefixUptoRow : OpenClaim := { program := "ytagbeneapmpooab", sum := "6decece909a2bc4b5767fdcf3e80ceb19dcda5b0d2dfc4ba5e47c1d5b2021a16", func := "loop.example/replayverifier/laws.FnLegalPrefix", spec := "fnLegalPrefix", unfollowed := true, recurses := true, apart := false, narrowed := true }
def FnLegalPrefixUptoSaid : Prop := fnLegalPrefixUptoRow.holds Try.pinned (OpenSpec.upto fnLegalPrefixSpec)

/-- 'laws.FnLegalPairs', WHERE WHAT IT READS IS OF BULK AT MOST 1048576: true; the input reads as it did. -/
def fnLegalPairsUptoRow : OpenClaim := { program := "ytagbeneapmpooab", sum := "6decece909a2bc4b5767fdcf3e80ceb19dcda5b0d2dfc4ba5e47c1d5b2021a16", func := "loop.example/replayverifier/laws.FnLegalPairs", spec := "fnLegalPairs", unfollowed := true, recurses := true, apart := false, narrowed := true }
def FnLegalPairsUptoSaid : Prop := fnLegalPairsUptoRow.holds Try.pinned (OpenSpec.upto fnLegalPairsSpec)

/-- 'laws.FnLegalLong', WHERE WHAT IT READS IS OF BULK AT MOST 1048576: true; the input reads as it did. -/
def fnLegalLongUptoRow : OpenClaim := { program := "ytagbeneapmpooab", sum := "6decece909a2bc4b5767fdcf3e80ceb19dcda5b0d2dfc4ba5e47c1d5b2021a16", func := "loop.example/replayverifier/laws.FnLegalLong", spec := "fnLegalLong", unfollowed := true, recurses := true, apart := false, narrowed := true }
def FnLegalLongUptoSaid : Prop := fnLegalLongUptoRow.holds Try.pinned (OpenSpec.upto fnLegalLongSpec)

/-- 'laws.FnLegalPauses', WHERE WHAT IT READS IS OF BULK AT MOST 1048576: true; the input reads as it did. -/
def fnLegalPausesUptoRow : OpenClaim := { program := "ytagbeneapmpooab", sum := "6decece909a2bc4b5767fdcf3e80ceb19dcda5b0d2dfc4ba5e47c1d5b2021a16", func := "loop.example/replayverifier/laws.FnLegalPauses", spec := "fnLegalPauses", unfollowed := true, recurses := true, apart := false, narrowed := true }
def FnLegalPausesUptoSaid : Prop := fnLegalPausesUptoRow.holds Try.pinned (OpenSpec.upto fnLegalPausesSpec)

/-- 'laws.FnLegalNone', WHERE WHAT IT READS IS OF BULK AT MOST 1048576: true; the input reads as it did. -/
def fnLegalNoneUptoRow : OpenClaim := { program := "ytagbeneapmpooab", sum := "6decece909a2bc4b5767fdcf3e80ceb19dcda5b0d2dfc4ba5e47c1d5b2021a16", func := "loop.example/replayverifier/laws.FnLegalNone", spec := "fnLegalNone", unfollowed := true, recurses := true, apart := false, narrowed := true }
def FnLegalNoneUptoSaid : Prop := fnLegalNoneUptoRow.holds Try.pinned (OpenSpec.upto fnLegalNoneSpec)

/-- 'laws.FnLegalSteer', WHERE WHAT IT READS IS OF BULK AT MOST 1048576: true; the input reads as it did. -/
def fnLegalSteerUptoRow : OpenClaim := { program := "ytagbeneapmpooab", sum := "6decece909a2bc4b5767fdcf3e80ceb19dcda5b0d2dfc4ba5e47c1d5b2021a16", func := "loop.example/replayverifier/laws.FnLegalSteer", spec := "fnLegalSteer", unfollowed := true, recurses := true, apart := false, narrowed := true }
def FnLegalSteerUptoSaid : Prop := fnLegalSteerUptoRow.holds Try.pinned (OpenSpec.upto fnLegalSteerSpec)

end Rows
end Go.Proofs.Ytagbeneapmpooab
