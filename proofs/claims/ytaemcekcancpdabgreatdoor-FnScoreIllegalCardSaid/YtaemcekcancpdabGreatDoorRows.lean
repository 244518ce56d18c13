/-
  NARROWER THAN 'FOR EVERY INPUT', by the rows' own cells (each row's printed sentence says how): FnScoreIllegal: laid · FnHashes: laid · FnHashesPrefix: laid · FnScorePause: laid · FnExactRunTo: laid · FnExactRunScore: laid.
  DERIVED. THE GIVEN ROWS OF THIS SEAT. 6 by the template 'for every input the law returns true; each argument reads behind the call as it read before'; 0 by the template 'total and deterministic' (their statements: YtaemcekcancpdabGreatDoorTotals.lean).
  GIVEN WITH THE SEED: the statements are not yours to turn. If you find one false, say at which input.
  Laid BY PROGRAM, IN A SANDBOX (cutbox-rows.mjs): the forced cells as the released guide's own fill.sh prints them over the translation 72aa5a1c49a3495b… (all of the seat's roots in one cut). By AI agents, Wed Nov 11 2026. No macro, syntax, notation, axiom, sorry.
-/
import Derived.Test.YtaemcekcancpdabGreatDoorChecked
import GoSem.Claim
import GoSem.ClaimJoined
import GoSem.ClaimMapViews
import Derived.JoinedTies
import Derived.KernelRfl
namespace Go.Proofs.YtaemcekcancpdabGreatDoor
/- THE CELL 'sum', in the pinned program and in every row, IS THE sha256 OF THE DUMP (.gsa) THAT YtaemcekcancpdabGreatDoorProg.lean LOADS. Nothing in Lean hashes anything: it is a label: what it is worth is what the hold of that sum in a sandbox is worth. -/
noncomputable def Tryz.pinned : Pinned := { name := "ytaemcekcancpdabgreatdoor", sum := "72aa5a1c49a3495b9e6e4eb65679259d99f05cb7bcb20a4c3262820c1763d8d3", checked := Tryz.checked }
namespace Rows
def none {H : Type} : Left H := { results := [], args := [] }

/- WHAT THE LISTED PACKAGE-LEVEL VARIABLES READ AS WHEN THE CALL BEGINS. Each datum BY PROGRAM (the guide's laid-datum.mjs) off the statement by which the dump's own 'gosem.cut.vars' lays the variable. In a bare row this is a premise. The card (YtaemcekcancpdabGreatDoorCards.lean) ties it to the program's text. -/
def laid_loop_example_replayverifier_impl_firstQuarter {H : Type} : DataW H := .agg [.agg [.lit (.int .i64 1000), .lit (.int .i64 0)], .agg [.lit (.int .i64 924), .lit (.int .i64 383)], .agg [.lit (.int .i64 707), .lit (.int .i64 707)], .agg [.lit (.int .i64 383), .lit (.int .i64 924)]]

/-- 'laws.FnScoreIllegal': WHATEVER THE INPUT: true; the input reads as it did. -/
def fnScoreIllegalSpec : ChangeSpec := { name := "fnScoreIllegal", vars := ["loop.example/replayverifier/impl.firstQuarter"], fn := fun _ => fun
  | [d, g1] => { results := [.lit (.bool true)], args := [d], vars := [g1] }
  | _ => none }
def fnScoreIllegalRow : OpenClaim := { program := "ytaemcekcancpdabgreatdoor", sum := "72aa5a1c49a3495b9e6e4eb65679259d99f05cb7bcb20a4c3262820c1763d8d3", func := "loop.example/replayverifier/laws.FnScoreIllegal", spec := "fnScoreIllegal", unfollowed := true, recurses := true, named := ["loop.example/replayverifier/impl.firstQuarter"], leaving := true, apart := false, laid := [("loop.example/replayverifier/impl.firstQuarter", laid_loop_example_replayverifier_impl_firstQuarter)] }
def FnScoreIllegalSaid : Prop := fnScoreIllegalRow.holds Tryz.pinned (OpenSpec.ofChange fnScoreIllegalSpec)

/-- ITS FALSE NEIGHBOUR: 'it returns false'. Refute it at one input. -/
def fnScoreIllegalWrong : ChangeSpec := { name := "fnScoreIllegal", vars := ["loop.example/replayverifier/impl.firstQuarter"], fn := fun _ => fun
  | [d, g1] => { results := [.lit (.bool false)], args := [d], vars := [g1] }
  | _ => none }
def FnScoreIllegalWrongFalsely : Prop := fnScoreIllegalRow.holds Tryz.pinned (OpenSpec.ofChange fnScoreIllegalWrong)

/-- 'laws.FnHashes': WHATEVER THE INPUT: true; the input reads as it did. -/
def fnHashesSpec : ChangeSpec := { name := "fnHashes", vars := ["loop.example/replayverifier/impl.firstQuarter"], fn := fun _ => fun
  | [d, g1] => { results := [.lit (.bool true)], args := [d], vars := [g1] }
  | _ => none }
def fnHashesRow : OpenClaim := { program := "ytaemcekcancpdabgreatdoor", sum := "72aa5a1c49a3495b9e6e4eb65679259d99f05cb7bcb20a4c3262820c1763d8d3", func := "loop.example/replayverifier/laws.FnHashes", spec := "fnHashes", unfollowed := true, recurses := true, named := ["loop.example/replayverifier/impl.firstQuarter"], leaving := true, apart := false, laid := [("loop.example/replayverifier/impl.firstQuarter", laid_loop_example_replayverifier_impl_firstQuarter)] }
def FnHashesSaid : Prop := fnHashesRow.holds Tryz.pinned (OpenSpec.ofChange fnHashesSpec)

/-- ITS FALSE NEIGHBOUR: 'it returns false'. Refute it at one input. -/
def fnHashesWrong : ChangeSpec := { name := "fnHashes", vars := ["loop.example/replayverifier/impl.firstQuarter"], fn := fun _ => fun
  | [d, g1] => { results := [.lit (.bool false)], args := [d], vars := [g1] }
  | _ => none }
def FnHashesWrongFalsely : Prop := fnHashesRow.holds Tryz.pinned (OpenSpec.ofChange fnHashesWrong)

/-- 'laws.FnHashesPrefix': WHATEVER THE INPUT: true; the input reads as it did. -/
def fnHashesPrefixSpec : ChangeSpec := { name := "fnHashesPrefix", vars := ["loop.example/replayverifier/impl.firstQuarter"], fn := fun _ => fun
  | [d1, d2, g1] => { results := [.lit (.bool true)], args := [d1, d2], vars := [g1] }
  | _ => none }
def fnHashesPrefixRow : OpenClaim := { program := "ytaemcekcancpdabgreatdoor", sum := "72aa5a1c49a3495b9e6e4eb65679259d99f05cb7bcb20a4c3262820c1763d8d3", func := "loop.example/replayverifier/laws.FnHashesPrefix", spec := "fnHashesPrefix", unfollowed := true, recurses := true, named := ["loop.example/replayverifier/impl.firstQuarter"], leaving := true, apart := false, laid := [("loop.example/replayverifier/impl.firstQuarter", laid_loop_example_replayverifier_impl_firstQuarter)] }
def FnHashesPrefixSaid : Prop := fnHashesPrefixRow.holds Tryz.pinned (OpenSpec.ofChange fnHashesPrefixSpec)

/-- ITS FALSE NEIGHBOUR: 'it returns false'. Refute it at one input. -/
def fnHashesPrefixWrong : ChangeSpec := { name := "fnHashesPrefix", vars := ["loop.example/replayverifier/impl.firstQuarter"], fn := fun _ => fun
  | [d1, d2, g1] => { results := [.lit (.bool false)], args := [d1, d2], vars := [g1] }
  | _ => none }
def FnHashesPrefixWrongFalsely : Prop := fnHashesPrefixRow.holds Tryz.pinned (OpenSpec.ofChange fnHashesPrefixWrong)

/-- 'laws.FnScorePause': WHATEVER THE INPUT: true; the input reads as it did. -/
def fnScorePauseSpec : ChangeSpec := { name := "fnScorePause", vars := ["loop.example/replayverifier/impl.firstQuarter"], fn := fun _ => fun
  | [d, g1] => { results := [.lit (.bool true)], args := [d], vars := [g1] }
  | _ => none }
def fnScorePauseRow : OpenClaim := { program := "ytaemcekcancpdabgreatdoor", sum := "72aa5a1c49a3495b9e6e4eb65679259d99f05cb7bcb20a4c3262820c1763d8d3", func := "loop.example/replayverifier/laws.FnScorePause", spec := "fnScorePause", unfollowed := true, recurses := true, named := ["loop.example/replayverifier/impl.firstQuarter"], leaving := true, apart := false, laid := [("loop.example/replayverifier/impl.firstQuarter", laid_loop_example_replayverifier_impl_firstQuarter)] }
def FnScorePauseSaid : Prop := fnScorePauseRow.holds Tryz.pinned (OpenSpec.ofChange fnScorePauseSpec)

/-- ITS FALSE NEIGHBOUR: 'it returns false'. Refute it at one input. -/
def fnScorePauseWrong : ChangeSpec := { name := "fnScorePause", vars := ["loop.example/replayverifier/impl.firstQuarter"], fn := fun _ => fun
  | [d, g1] => { results := [.lit (.bool false)], args := [d], vars := [g1] }
  | _ => none }
def FnScorePauseWrongFalsely : Prop := fnScorePauseRow.holds Tryz.pinned (OpenSpec.ofChange fnScorePauseWrong)

/-- 'laws.FnExactRunTo': WHATEVER THE INPUT: true; the input reads as it did. -/
def fnExactRunToSpec : ChangeSpec := { name := "fnExactRunTo", vars := ["loop.example/replayverifier/impl.firstQuarter"], fn := fun _ => fun
  | [d1, d2, d3, g1] => { results := [.lit (.bool true)], args := [d1, d2, d3], vars := [g1] }
  | _ => none }
def fnExactRunToRow : OpenClaim := { program := "ytaemcekcancpdabgreatdoor", sum := "72aa5a1c49a3495b9e6e4eb65679259d99f05cb7bcb20a4c3262820c1763d8d3", func := "loop.example/replayverifier/laws.FnExactRunTo", spec := "fnExactRunTo", unfollowed := true, recurses := true, named := ["loop.example/replayverifier/impl.firstQuarter"], leaving := true, apart := false, laid := [("loop.example/replayverifier/impl.firstQuarter", laid_loop_example_replayverifier_impl_firstQuarter)] }
def FnExactRunToSaid : Prop := fnExactRunToRow.holds Tryz.pinned (OpenSpec.ofChange fnExactRunToSpec)

/-- ITS FALSE NEIGHBOUR: 'it returns false'. Refute it at one input. -/
def fnExactRunToWrong : ChangeSpec := { name := "fnExactRunTo", vars := ["loop.example/replayverifier/impl.firstQuarter"], fn := fun _ => fun
  | [d1, d2, d3, g1] => { results := [.lit (.bool false)], args := [d1, d2, d3], vars := [g1] }
  | _ => none }
def FnExactRunToWrongFalsely : Prop := fnExactRunToRow.holds Tryz.pinned (OpenSpec.ofChange fnExactRunToWrong)

/-- 'laws.FnExactRunScore': WHATEVER THE INPUT: true; the input reads as it did. -/
def fnExactRunScoreSpec : ChangeSpec := { name := "fnExactRunScore", vars := ["loop.example/replayverifier/impl.firstQuarter"], fn := fun _ => fun
  | [d1, d2, g1] => { results := [.lit (.bool true)], args := [d1, d2], vars := [g1] }
  | _ => none }
def fnExactRunScoreRow : OpenClaim := { program := "ytaemcekcancpdabgreatdoor", sum := "72aa5a1c49a3495b9e6e4eb65679259d99f05cb7bcb20a4c3262820c1763d8d3", func := "loop.example/replayverifier/laws.FnExactRunScore", spec := "fnExactRunScore", unfollowed := true, recurses := true, named := ["loop.example/replayverifier/impl.firstQuarter"], leaving := true, apart := false, laid := [("loop.example/replayverifier/impl.firstQuarter", laid_loop_example_replayverifier_impl_firstQuarter)] }
def FnExactRunScoreSaid : Prop := fnExactRunScoreRow.holds Tryz.pinned (OpenSpec.ofChange fnExactRunScoreSpec)

/-- ITS FALSE NEIGHBOUR: 'it returns false'. Refute it at one input. -/
def fnExactRunScoreWrong : ChangeSpec := { name := "fnExactRunScore", vars := ["loop.example/replayverifier/impl.firstQuarter"], fn := fun _ => fun
  | [d1, d2, g1] => { results := [.lit (.bool false)], args := [d1, d2], vars := [g1] }
  | _ => none }
def FnExactRunScoreWrongFalsely : Prop := fnExactRunScoreRow.holds Tryz.pinned (OpenSpec.ofChange fnExactRunScoreWrong)

/- THE SECOND FORM. 'bulk': how many values and letters a reading holds, each counted each time it is reached (what is shared counts as often as it is met; a slice's spare places count too). A statement '..UptoSaid' is the law's where the arguments, and the package variables that the reading takes, are together of bulk at most 1048576: NARROWER than '..Said'. Prove '..Said' where nothing that the law and all that it calls make is longer than what came in: it says more and counts as full. Else prove '..UptoSaid'. A law counts once. -/
mutual
def uptoBulk {H : Type} : DataW H → Nat
  | .lit (.string bytes) => bytes.length + 1
  | .lit _ => 1
  | .nil => 1
  | .ptr d => uptoBulk d + 1
  | .slice elems spare => uptoBulkAll elems + uptoBulkAll spare + 1
  | .agg parts => uptoBulkAll parts + 1
  | .iface _ d => uptoBulk d + 1
  | .map entries => uptoBulkEntries entries + 1
  | .held _ => 1
def uptoBulkAll {H : Type} : List (DataW H) → Nat
  | [] => 0
  | d :: r => uptoBulk d + uptoBulkAll r
def uptoBulkEntries {H : Type} : List (Lit × DataW H) → Nat
  | [] => 0
  | x :: r => uptoBulkEntry x + uptoBulkEntries r
def uptoBulkEntry {H : Type} : Lit × DataW H → Nat
  | (.string bytes, d) => bytes.length + uptoBulk d + 1
  | (_, d) => uptoBulk d + 1
 end
def uptoSmall : (H : Type) → List (DataW H) → Bool := fun _ ds => decide (uptoBulkAll ds ≤ 1048576)
def OpenSpec.upto (s : _root_.Go.ChangeSpec) : _root_.Go.OpenSpec := { _root_.Go.OpenSpec.ofChange s with cond := some uptoSmall }

/-- 'laws.FnScoreIllegal', WHERE WHAT IT READS IS OF BULK AT MOST 1048576: true; the input reads as it did. -/
def fnScoreIllegalUptoRow : OpenClaim := { program := "ytaemcekcancpdabgreatdoor", sum := "72aa5a1c49a3495b9e6e4eb65679259d99f05cb7bcb20a4c3262820c1763d8d3", func := "loop.example/replayverifier/laws.FnScoreIllegal", spec := "fnScoreIllegal", unfollowed := true, recurses := true, named := ["loop.example/replayverifier/impl.firstQuarter"], leaving := true, apart := false, laid := [("loop.example/replayverifier/impl.firstQuarter", laid_loop_example_replayverifier_impl_firstQuarter)], narrowed := true }
def FnScoreIllegalUptoSaid : Prop := fnScoreIllegalUptoRow.holds Tryz.pinned (OpenSpec.upto fnScoreIllegalSpec)

/-- 'laws.FnHashes', WHERE WHAT IT READS IS OF BULK AT MOST 1048576: true; the input reads as it did. -/
def fnHashesUptoRow : OpenClaim := { program := "ytaemcekcancpdabgreatdoor", sum := "72aa5a1c49a3495b9e6e4eb65679259d99f05cb7bcb20a4c3262820c1763d8d3", func := "loop.example/replayverifier/laws.FnHashes", spec := "fnHashes", unfollowed := true, recurses := true, named := ["loop.example/replayverifier/impl.firstQuarter"], leaving := true, apart := false, laid := [("loop.example/replayverifier/impl.firstQuarter", laid_loop_example_replayverifier_impl_firstQuarter)], narrowed := true }
def FnHashesUptoSaid : Prop := fnHashesUptoRow.holds Tryz.pinned (OpenSpec.upto fnHashesSpec)

/-- 'laws.FnHashesPrefix', WHERE WHAT IT READS IS OF BULK AT MOST 1048576: true; the input reads as it did. -/
def fnHashesPrefixUptoRow : OpenClaim := { program := "ytaemcekcancpdabgreatdoor", sum := "72aa5a1c49a3495b9e6e4eb65679259d99f05cb7bcb20a4c3262820c1763d8d3", func := "loop.example/replayverifier/laws.FnHashesPrefix", spec := "fnHashesPrefix", unfollowed := true, recurses := true, named := ["loop.example/replayverifier/impl.firstQuarter"], leaving := true, apart := false, laid := [("loop.example/replayverifier/impl.firstQuarter", laid_loop_example_replayverifier_impl_firstQuarter)], narrowed := true }
def FnHashesPrefixUptoSaid : Prop := fnHashesPrefixUptoRow.holds Tryz.pinned (OpenSpec.upto fnHashesPrefixSpec)

/-- 'laws.FnScorePause', WHERE WHAT IT READS IS OF BULK AT MOST 1048576: true; the input reads as it did. -/
def fnScorePauseUptoRow : OpenClaim := { program := "ytaemcekcancpdabgreatdoor", sum := "72aa5a1c49a3495b9e6e4eb65679259d99f05cb7bcb20a4c3262820c1763d8d3", func := "loop.example/replayverifier/laws.FnScorePause", spec := "fnScorePause", unfollowed := true, recurses := true, named := ["loop.example/replayverifier/impl.firstQuarter"], leaving := true, apart := false, laid := [("loop.example/replayverifier/impl.firstQuarter", laid_loop_example_replayverifier_impl_firstQuarter)], narrowed := true }
def FnScorePauseUptoSaid : Prop := fnScorePauseUptoRow.holds Tryz.pinned (OpenSpec.upto fnScorePauseSpec)

/-- 'laws.FnExactRunTo', WHERE WHAT IT READS IS OF BULK AT MOST 1048576: true; the input reads as it did. -/
def fnExactRunToUptoRow : OpenClaim := { program := "ytaemcekcancpdabgreatdoor", sum := "72aa5a1c49a3495b9e6e4eb65679259d99f05cb7bcb20a4c3262820c1763d8d3", func := "loop.example/replayverifier/laws.FnExactRunTo", spec := "fnExactRunTo", unfollowed := true, recurses := true, named := ["loop.example/replayverifier/impl.firstQuarter"], leaving := true, apart := false, laid := [("loop.example/replayverifier/impl.firstQuarter", laid_loop_example_replayverifier_impl_firstQuarter)], narrowed := true }
def FnExactRunToUptoSaid : Prop := fnExactRunToUptoRow.holds Tryz.pinned (OpenSpec.upto fnExactRunToSpec)

/-- 'laws.FnExactRunScore', WHERE WHAT IT READS IS OF BULK AT MOST 1048576: true; the input reads as it did. -/
def fnExactRunScoreUptoRow : OpenClaim := { program := "ytaemcekcancpdabgreatdoor", sum := "72aa5a1c49a3495b9e6e4eb65679259d99f05cb7bcb20a4c3262820c1763d8d3", func := "loop.example/replayverifier/laws.FnExactRunScore", spec := "fnExactRunScore", unfollowed := true, recurses := true, named := ["loop.example/replayverifier/impl.firstQuarter"], leaving := true, apart := false, laid := [("loop.example/replayverifier/impl.firstQuarter", laid_loop_example_replayverifier_impl_firstQuarter)], narrowed := true }
def FnExactRunScoreUptoSaid : Prop := fnExactRunScoreUptoRow.holds Tryz.pinned (OpenSpec.upto fnExactRunScoreSpec)

end Rows
end Go.Proofs.YtaemcekcancpdabGreatDoor
