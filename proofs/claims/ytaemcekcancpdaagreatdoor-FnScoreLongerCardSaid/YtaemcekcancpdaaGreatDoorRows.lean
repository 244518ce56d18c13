/-
  NARROWER THAN 'FOR EVERY INPUT', by the rows' own cells (each row's printed sentence says how): FnRunBegin: laid · FnRunWalls: laid · FnRunPath: laid · FnScore: laid · FnScoreLonger: laid · FnScoreGates: laid.
  DERIVED. THE GIVEN ROWS OF THIS SEAT. 6 by the template 'for every input the law returns true; each argument reads behind the call as it read before'; 0 by the template 'total and deterministic' (their statements: YtaemcekcancpdaaGreatDoorTotals.lean).
  GIVEN WITH THE SEED: the statements are not yours to turn. If you find one false, say at which input.
  Laid BY PROGRAM, IN A SANDBOX (cutbox-rows.mjs): the forced cells as the released guide's own fill.sh prints them over the translation fc741f96dcf43cf8… (all of the seat's roots in one cut). By AI agents, Wed Nov 11 2026. No macro, syntax, notation, axiom, sorry.
-/
import Derived.Test.YtaemcekcancpdaaGreatDoorChecked
import GoSem.Claim
import GoSem.ClaimJoined
import GoSem.ClaimMapViews
import Derived.JoinedTies
import Derived.KernelRfl
namespace Go.Proofs.YtaemcekcancpdaaGreatDoor
/- THE CELL 'sum', in the pinned program and in every row, IS THE sha256 OF THE DUMP (.gsa) THAT YtaemcekcancpdaaGreatDoorProg.lean LOADS. Nothing in Lean hashes anything: it is a label: what it is worth is what the hold of that sum in a sandbox is worth. -/
noncomputable def Tryz.pinned : Pinned := { name := "ytaemcekcancpdaagreatdoor", sum := "fc741f96dcf43cf8c7dd28df3bcabd0cbfc360f0bc76de5c092a5950c611149a", checked := Tryz.checked }
namespace Rows
def none {H : Type} : Left H := { results := [], args := [] }

/- WHAT THE LISTED PACKAGE-LEVEL VARIABLES READ AS WHEN THE CALL BEGINS. Each datum BY PROGRAM (the guide's laid-datum.mjs) off the statement by which the dump's own 'gosem.cut.vars' lays the variable. In a bare row this is a premise. The card (YtaemcekcancpdaaGreatDoorCards.lean) ties it to the program's text. -/
def laid_loop_example_replayverifier_impl_firstQuarter {H : Type} : DataW H := .agg [.agg [.lit (.int .i64 1000), .lit (.int .i64 0)], .agg [.lit (.int .i64 924), .lit (.int .i64 383)], .agg [.lit (.int .i64 707), .lit (.int .i64 707)], .agg [.lit (.int .i64 383), .lit (.int .i64 924)]]

/-- 'laws.FnRunBegin': WHATEVER THE INPUT: true; the input reads as it did. -/
def fnRunBeginSpec : ChangeSpec := { name := "fnRunBegin", vars := ["loop.example/replayverifier/impl.firstQuarter"], fn := fun _ => fun
  | [d, g1] => { results := [.lit (.bool true)], args := [d], vars := [g1] }
  | _ => none }
def fnRunBeginRow : OpenClaim := { program := "ytaemcekcancpdaagreatdoor", sum := "fc741f96dcf43cf8c7dd28df3bcabd0cbfc360f0bc76de5c092a5950c611149a", func := "loop.example/replayverifier/laws.FnRunBegin", spec := "fnRunBegin", unfollowed := true, recurses := true, named := ["loop.example/replayverifier/impl.firstQuarter"], leaving := true, apart := false, laid := [("loop.example/replayverifier/impl.firstQuarter", laid_loop_example_replayverifier_impl_firstQuarter)] }
def FnRunBeginSaid : Prop := fnRunBeginRow.holds Tryz.pinned (OpenSpec.ofChange fnRunBeginSpec)

/-- ITS FALSE NEIGHBOUR: 'it returns false'. Refute it at one input. -/
def fnRunBeginWrong : ChangeSpec := { name := "fnRunBegin", vars := ["loop.example/replayverifier/impl.firstQuarter"], fn := fun _ => fun
  | [d, g1] => { results := [.lit (.bool false)], args := [d], vars := [g1] }
  | _ => none }
def FnRunBeginWrongFalsely : Prop := fnRunBeginRow.holds Tryz.pinned (OpenSpec.ofChange fnRunBeginWrong)

/-- 'laws.FnRunWalls': WHATEVER THE INPUT: true; the input reads as it did. -/
def fnRunWallsSpec : ChangeSpec := { name := "fnRunWalls", vars := ["loop.example/replayverifier/impl.firstQuarter"], fn := fun _ => fun
  | [d, g1] => { results := [.lit (.bool true)], args := [d], vars := [g1] }
  | _ => none }
def fnRunWallsRow : OpenClaim := { program := "ytaemcekcancpdaagreatdoor", sum := "fc741f96dcf43cf8c7dd28df3bcabd0cbfc360f0bc76de5c092a5950c611149a", func := "loop.example/replayverifier/laws.FnRunWalls", spec := "fnRunWalls", unfollowed := true, recurses := true, named := ["loop.example/replayverifier/impl.firstQuarter"], leaving := true, apart := false, laid := [("loop.example/replayverifier/impl.firstQuarter", laid_loop_example_replayverifier_impl_firstQuarter)] }
def FnRunWallsSaid : Prop := fnRunWallsRow.holds Tryz.pinned (OpenSpec.ofChange fnRunWallsSpec)

/-- ITS FALSE NEIGHBOUR: 'it returns false'. Refute it at one input. -/
def fnRunWallsWrong : ChangeSpec := { name := "fnRunWalls", vars := ["loop.example/replayverifier/impl.firstQuarter"], fn := fun _ => fun
  | [d, g1] => { results := [.lit (.bool false)], args := [d], vars := [g1] }
  | _ => none }
def FnRunWallsWrongFalsely : Prop := fnRunWallsRow.holds Tryz.pinned (OpenSpec.ofChange fnRunWallsWrong)

/-- 'laws.FnRunPath': WHATEVER THE INPUT: true; the input reads as it did. -/
def fnRunPathSpec : ChangeSpec := { name := "fnRunPath", vars := ["loop.example/replayverifier/impl.firstQuarter"], fn := fun _ => fun
  | [d1, d2, g1] => { results := [.lit (.bool true)], args := [d1, d2], vars := [g1] }
  | _ => none }
def fnRunPathRow : OpenClaim := { program := "ytaemcekcancpdaagreatdoor", sum := "fc741f96dcf43cf8c7dd28df3bcabd0cbfc360f0bc76de5c092a5950c611149a", func := "loop.example/replayverifier/laws.FnRunPath", spec := "fnRunPath", unfollowed := true, recurses := true, named := ["loop.example/replayverifier/impl.firstQuarter"], leaving := true, apart := false, laid := [("loop.example/replayverifier/impl.firstQuarter", laid_loop_example_replayverifier_impl_firstQuarter)] }
def FnRunPathSaid : Prop := fnRunPathRow.holds Tryz.pinned (OpenSpec.ofChange fnRunPathSpec)

/-- ITS FALSE NEIGHBOUR: 'it returns false'. Refute it at one input. -/
def fnRunPathWrong : ChangeSpec := { name := "fnRunPath", vars := ["loop.example/replayverifier/impl.firstQuarter"], fn := fun _ => fun
  | [d1, d2, g1] => { results := [.lit (.bool false)], args := [d1, d2], vars := [g1] }
  | _ => none }
def FnRunPathWrongFalsely : Prop := fnRunPathRow.holds Tryz.pinned (OpenSpec.ofChange fnRunPathWrong)

/-- 'laws.FnScore': WHATEVER THE INPUT: true; the input reads as it did. -/
def fnScoreSpec : ChangeSpec := { name := "fnScore", vars := ["loop.example/replayverifier/impl.firstQuarter"], fn := fun _ => fun
  | [d, g1] => { results := [.lit (.bool true)], args := [d], vars := [g1] }
  | _ => none }
def fnScoreRow : OpenClaim := { program := "ytaemcekcancpdaagreatdoor", sum := "fc741f96dcf43cf8c7dd28df3bcabd0cbfc360f0bc76de5c092a5950c611149a", func := "loop.example/replayverifier/laws.FnScore", spec := "fnScore", unfollowed := true, recurses := true, named := ["loop.example/replayverifier/impl.firstQuarter"], leaving := true, apart := false, laid := [("loop.example/replayverifier/impl.firstQuarter", laid_loop_example_replayverifier_impl_firstQuarter)] }
def FnScoreSaid : Prop := fnScoreRow.holds Tryz.pinned (OpenSpec.ofChange fnScoreSpec)

/-- ITS FALSE NEIGHBOUR: 'it returns false'. Refute it at one input. -/
def fnScoreWrong : ChangeSpec := { name := "fnScore", vars := ["loop.example/replayverifier/impl.firstQuarter"], fn := fun _ => fun
  | [d, g1] => { results := [.lit (.bool false)], args := [d], vars := [g1] }
  | _ => none }
def FnScoreWrongFalsely : Prop := fnScoreRow.holds Tryz.pinned (OpenSpec.ofChange fnScoreWrong)

/-- 'laws.FnScoreLonger': WHATEVER THE INPUT: true; the input reads as it did. -/
def fnScoreLongerSpec : ChangeSpec := { name := "fnScoreLonger", vars := ["loop.example/replayverifier/impl.firstQuarter"], fn := fun _ => fun
  | [d, g1] => { results := [.lit (.bool true)], args := [d], vars := [g1] }
  | _ => none }
def fnScoreLongerRow : OpenClaim := { program := "ytaemcekcancpdaagreatdoor", sum := "fc741f96dcf43cf8c7dd28df3bcabd0cbfc360f0bc76de5c092a5950c611149a", func := "loop.example/replayverifier/laws.FnScoreLonger", spec := "fnScoreLonger", unfollowed := true, recurses := true, named := ["loop.example/replayverifier/impl.firstQuarter"], leaving := true, apart := false, laid := [("loop.example/replayverifier/impl.firstQuarter", laid_loop_example_replayverifier_impl_firstQuarter)] }
def FnScoreLongerSaid : Prop := fnScoreLongerRow.holds Tryz.pinned (OpenSpec.ofChange fnScoreLongerSpec)

/-- ITS FALSE NEIGHBOUR: 'it returns false'. Refute it at one input. -/
def fnScoreLongerWrong : ChangeSpec := { name := "fnScoreLonger", vars := ["loop.example/replayverifier/impl.firstQuarter"], fn := fun _ => fun
  | [d, g1] => { results := [.lit (.bool false)], args := [d], vars := [g1] }
  | _ => none }
def FnScoreLongerWrongFalsely : Prop := fnScoreLongerRow.holds Tryz.pinned (OpenSpec.ofChange fnScoreLongerWrong)

/-- 'laws.FnScoreGates': WHATEVER THE INPUT: true; the input reads as it did. -/
def fnScoreGatesSpec : ChangeSpec := { name := "fnScoreGates", vars := ["loop.example/replayverifier/impl.firstQuarter"], fn := fun _ => fun
  | [d, g1] => { results := [.lit (.bool true)], args := [d], vars := [g1] }
  | _ => none }
def fnScoreGatesRow : OpenClaim := { program := "ytaemcekcancpdaagreatdoor", sum := "fc741f96dcf43cf8c7dd28df3bcabd0cbfc360f0bc76de5c092a5950c611149a", func := "loop.example/replayverifier/laws.FnScoreGates", spec := "fnScoreGates", unfollowed := true, recurses := true, named := ["loop.example/replayverifier/impl.firstQuarter"], leaving := true, apart := false, laid := [("loop.example/replayverifier/impl.firstQuarter", laid_loop_example_replayverifier_impl_firstQuarter)] }
def FnScoreGatesSaid : Prop := fnScoreGatesRow.holds Tryz.pinned (OpenSpec.ofChange fnScoreGatesSpec)

/-- ITS FALSE NEIGHBOUR: 'it returns false'. Refute it at one input. -/
def fnScoreGatesWrong : ChangeSpec := { name := "fnScoreGates", vars := ["loop.example/replayverifier/impl.firstQuarter"], fn := fun _ => fun
  | [d, g1] => { results := [.lit (.bool false)], args := [d], vars := [g1] }
  | _ => none }
def FnScoreGatesWrongFalsely : Prop := fnScoreGatesRow.holds Tryz.pinned (OpenSpec.ofChange fnScoreGatesWrong)

/- THE SECOND FORM. 'bulk': how many values and letters a reading holds, each counted each time it is reached (what is shared counts as often as it is met; a slice's spare places count too). A statement '..UptoSaid' is the law's where the arguments, and the package variables that the reading takes, are together of bulk at most 1048576: NARROWER than '..Said'. Prove '..Said' where nothing that the law and all that it calls make is longer than what came in: it says more and counts as full. Else prove '..UptoSaid'. A law counts once. -/
mutual
def uptoBulk {H : Type} : DataW H → Nat
  | .lit (.string bytes) => bytes.length + 1
  | .lit _ => 1
  | .nil => 1
  | .ptr d => uptoBulk d + 1
  | .slice elems spare => uptoBulkAll elems + uptoBulkAll spare + 1
  | .agg parts => uptoBulkAll parts + 1
  | .iface _ d => uptoBulk d + 1
  | .map entries => uptoBulkEntries entries + 1
  | .held _ => 1
def uptoBulkAll {H : Type} : List (DataW H) → Nat
  | [] => 0
  | d :: r => uptoBulk d + uptoBulkAll r
def uptoBulkEntries {H : Type} : List (Lit × DataW H) → Nat
  | [] => 0
  | x :: r => uptoBulkEntry x + uptoBulkEntries r
def uptoBulkEntry {H : Type} : Lit × DataW H → Nat
  | (.string bytes, d) => bytes.length + uptoBulk d + 1
  | (_, d) => uptoBulk d + 1
 end
def uptoSmall : (H : Type) → List (DataW H) → Bool := fun _ ds => decide (uptoBulkAll ds ≤ 1048576)
def OpenSpec.upto (s : _root_.Go.ChangeSpec) : _root_.Go.OpenSpec := { _root_.Go.OpenSpec.ofChange s with cond := some uptoSmall }

/-- 'laws.FnRunBegin', WHERE WHAT IT READS IS OF BULK AT MOST 1048576: true; the input reads as it did. -/
def fnRunBeginUptoRow : OpenClaim := { program := "ytaemcekcancpdaagreatdoor", sum := "fc741f96dcf43cf8c7dd28df3bcabd0cbfc360f0bc76de5c092a5950c611149a", func := "loop.example/replayverifier/laws.FnRunBegin", spec := "fnRunBegin", unfollowed := true, recurses := true, named := ["loop.example/replayverifier/impl.firstQuarter"], leaving := true, apart := false, laid := [("loop.example/replayverifier/impl.firstQuarter", laid_loop_example_replayverifier_impl_firstQuarter)], narrowed := true }
def FnRunBeginUptoSaid : Prop := fnRunBeginUptoRow.holds Tryz.pinned (OpenSpec.upto fnRunBeginSpec)

/-- 'laws.FnRunWalls', WHERE WHAT IT READS IS OF BULK AT MOST 1048576: true; the input reads as it did. -/
def fnRunWallsUptoRow : OpenClaim := { program := "ytaemcekcancpdaagreatdoor", sum := "fc741f96dcf43cf8c7dd28df3bcabd0cbfc360f0bc76de5c092a5950c611149a", func := "loop.example/replayverifier/laws.FnRunWalls", spec := "fnRunWalls", unfollowed := true, recurses := true, named := ["loop.example/replayverifier/impl.firstQuarter"], leaving := true, apart := false, laid := [("loop.example/replayverifier/impl.firstQuarter", laid_loop_example_replayverifier_impl_firstQuarter)], narrowed := true }
def FnRunWallsUptoSaid : Prop := fnRunWallsUptoRow.holds Tryz.pinned (OpenSpec.upto fnRunWallsSpec)

/-- 'laws.FnRunPath', WHERE WHAT IT READS IS OF BULK AT MOST 1048576: true; the input reads as it did. -/
def fnRunPathUptoRow : OpenClaim := { program := "ytaemcekcancpdaagreatdoor", sum := "fc741f96dcf43cf8c7dd28df3bcabd0cbfc360f0bc76de5c092a5950c611149a", func := "loop.example/replayverifier/laws.FnRunPath", spec := "fnRunPath", unfollowed := true, recurses := true, named := ["loop.example/replayverifier/impl.firstQuarter"], leaving := true, apart := false, laid := [("loop.example/replayverifier/impl.firstQuarter", laid_loop_example_replayverifier_impl_firstQuarter)], narrowed := true }
def FnRunPathUptoSaid : Prop := fnRunPathUptoRow.holds Tryz.pinned (OpenSpec.upto fnRunPathSpec)

/-- 'laws.FnScore', WHERE WHAT IT READS IS OF BULK AT MOST 1048576: true; the input reads as it did. -/
def fnScoreUptoRow : OpenClaim := { program := "ytaemcekcancpdaagreatdoor", sum := "fc741f96dcf43cf8c7dd28df3bcabd0cbfc360f0bc76de5c092a5950c611149a", func := "loop.example/replayverifier/laws.FnScore", spec := "fnScore", unfollowed := true, recurses := true, named := ["loop.example/replayverifier/impl.firstQuarter"], leaving := true, apart := false, laid := [("loop.example/replayverifier/impl.firstQuarter", laid_loop_example_replayverifier_impl_firstQuarter)], narrowed := true }
def FnScoreUptoSaid : Prop := fnScoreUptoRow.holds Tryz.pinned (OpenSpec.upto fnScoreSpec)

/-- 'laws.FnScoreLonger', WHERE WHAT IT READS IS OF BULK AT MOST 1048576: true; the input reads as it did. -/
def fnScoreLongerUptoRow : OpenClaim := { program := "ytaemcekcancpdaagreatdoor", sum := "fc741f96dcf43cf8c7dd28df3bcabd0cbfc360f0bc76de5c092a5950c611149a", func := "loop.example/replayverifier/laws.FnScoreLonger", spec := "fnScoreLonger", unfollowed := true, recurses := true, named := ["loop.example/replayverifier/impl.firstQuarter"], leaving := true, apart := false, laid := [("loop.example/replayverifier/impl.firstQuarter", laid_loop_example_replayverifier_impl_firstQuarter)], narrowed := true }
def FnScoreLongerUptoSaid : Prop := fnScoreLongerUptoRow.holds Tryz.pinned (OpenSpec.upto fnScoreLongerSpec)

/-- 'laws.FnScoreGates', WHERE WHAT IT READS IS OF BULK AT MOST 1048576: true; the input reads as it did. -/
def fnScoreGatesUptoRow : OpenClaim := { program := "ytaemcekcancpdaagreatdoor", sum := "fc741f96dcf43cf8c7dd28df3bcabd0cbfc360f0bc76de5c092a5950c611149a", func := "loop.example/replayverifier/laws.FnScoreGates", spec := "fnScoreGates", unfollowed := true, recurses := true, named := ["loop.example/replayverifier/impl.firstQuarter"], leaving := true, apart := false, laid := [("loop.example/replayverifier/impl.firstQuarter", laid_loop_example_replayverifier_impl_firstQuarter)], narrowed := true }
def FnScoreGatesUptoSaid : Prop := fnScoreGatesUptoRow.holds Tryz.pinned (OpenSpec.upto fnScoreGatesSpec)

end Rows
end Go.Proofs.YtaemcekcancpdaaGreatDoor
