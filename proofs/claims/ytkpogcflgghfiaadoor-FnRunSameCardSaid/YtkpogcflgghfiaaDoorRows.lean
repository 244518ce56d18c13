/-
  NARROWER THAN 'FOR EVERY INPUT', by the rows' own cells (each row's printed sentence says how): FnRunNext: laid · FnRunValid: laid · FnRunSame: laid · FnRunFail: laid.
  DERIVED. THE GIVEN ROWS OF THIS SEAT. 4 by the template 'for every input the law returns true; each argument reads behind the call as it read before'; 0 by the template 'total and deterministic' (their statements: YtkpogcflgghfiaaDoorTotals.lean).
  GIVEN WITH THE SEED: the statements are not yours to turn. If you find one false, say at which input.
  Laid BY PROGRAM, IN A SANDBOX (cutbox-rows.mjs): the forced cells as the released guide's own fill.sh prints them over the translation d1368af824d59016… (all of the seat's roots in one cut). By AI agents, Wed Nov 11 2026. No macro, syntax, notation, axiom, sorry.
-/
import Derived.Test.YtkpogcflgghfiaaDoorChecked
import GoSem.Claim
import GoSem.ClaimJoined
import GoSem.ClaimMapViews
import Derived.JoinedTies
import Derived.KernelRfl
namespace Go.Proofs.YtkpogcflgghfiaaDoor
/- THE CELL 'sum', in the pinned program and in every row, IS THE sha256 OF THE DUMP (.gsa) THAT YtkpogcflgghfiaaDoorProg.lean LOADS. Nothing in Lean hashes anything: it is a label: what it is worth is what the hold of that sum in a sandbox is worth. -/
noncomputable def Tryd.pinned : Pinned := { name := "ytkpogcflgghfiaadoor", sum := "d1368af824d5901621d226c504ff44661b3b2751d9af32815942b5ab8af7677f", checked := Tryd.checked }
namespace Rows
def none {H : Type} : Left H := { results := [], args := [] }

/- WHAT THE LISTED PACKAGE-LEVEL VARIABLES READ AS WHEN THE CALL BEGINS. Each datum BY PROGRAM (the guide's laid-datum.mjs) off the statement by which the dump's own 'gosem.cut.vars' lays the variable. In a bare row this is a premise. The card (YtkpogcflgghfiaaDoorCards.lean) ties it to the program's text. -/
def laid_loop_example_replayverifier_impl_firstQuarter {H : Type} : DataW H := .agg [.agg [.lit (.int .i64 1000), .lit (.int .i64 0)], .agg [.lit (.int .i64 924), .lit (.int .i64 383)], .agg [.lit (.int .i64 707), .lit (.int .i64 707)], .agg [.lit (.int .i64 383), .lit (.int .i64 924)]]

/-- 'laws.FnRunNext': WHATEVER THE INPUT: true; the input reads as it did. -/
def fnRunNextSpec : ChangeSpec := { name := "fnRunNext", vars := ["loop.example/replayverifier/impl.firstQuarter"], fn := fun _ => fun
  | [d, g1] => { results := [.lit (.bool true)], args := [d], vars := [g1] }
  | _ => none }
def fnRunNextRow : OpenClaim := { program := "ytkpogcflgghfiaadoor", sum := "d1368af824d5901621d226c504ff44661b3b2751d9af32815942b5ab8af7677f", func := "loop.example/replayverifier/laws.FnRunNext", spec := "fnRunNext", unfollowed := true, recurses := true, named := ["loop.example/replayverifier/impl.firstQuarter"], leaving := true, apart := false, laid := [("loop.example/replayverifier/impl.firstQuarter", laid_loop_example_replayverifier_impl_firstQuarter)] }
def FnRunNextSaid : Prop := fnRunNextRow.holds Tryd.pinned (OpenSpec.ofChange fnRunNextSpec)

/-- ITS FALSE NEIGHBOUR: 'it returns false'. Refute it at one input. -/
def fnRunNextWrong : ChangeSpec := { name := "fnRunNext", vars := ["loop.example/replayverifier/impl.firstQuarter"], fn := fun _ => fun
  | [d, g1] => { results := [.lit (.bool false)], args := [d], vars := [g1] }
  | _ => none }
def FnRunNextWrongFalsely : Prop := fnRunNextRow.holds Tryd.pinned (OpenSpec.ofChange fnRunNextWrong)

/-- 'laws.FnRunValid': WHATEVER THE INPUT: true; the input reads as it did. -/
def fnRunValidSpec : ChangeSpec := { name := "fnRunValid", vars := ["loop.example/replayverifier/impl.firstQuarter"], fn := fun _ => fun
  | [d, g1] => { results := [.lit (.bool true)], args := [d], vars := [g1] }
  | _ => none }
def fnRunValidRow : OpenClaim := { program := "ytkpogcflgghfiaadoor", sum := "d1368af824d5901621d226c504ff44661b3b2751d9af32815942b5ab8af7677f", func := "loop.example/replayverifier/laws.FnRunValid", spec := "fnRunValid", unfollowed := true, recurses := true, named := ["loop.example/replayverifier/impl.firstQuarter"], leaving := true, apart := false, laid := [("loop.example/replayverifier/impl.firstQuarter", laid_loop_example_replayverifier_impl_firstQuarter)] }
def FnRunValidSaid : Prop := fnRunValidRow.holds Tryd.pinned (OpenSpec.ofChange fnRunValidSpec)

/-- ITS FALSE NEIGHBOUR: 'it returns false'. Refute it at one input. -/
def fnRunValidWrong : ChangeSpec := { name := "fnRunValid", vars := ["loop.example/replayverifier/impl.firstQuarter"], fn := fun _ => fun
  | [d, g1] => { results := [.lit (.bool false)], args := [d], vars := [g1] }
  | _ => none }
def FnRunValidWrongFalsely : Prop := fnRunValidRow.holds Tryd.pinned (OpenSpec.ofChange fnRunValidWrong)

/-- 'laws.FnRunSame': WHATEVER THE INPUT: true; the input reads as it did. -/
def fnRunSameSpec : ChangeSpec := { name := "fnRunSame", vars := ["loop.example/replayverifier/impl.firstQuarter"], fn := fun _ => fun
  | [d1, d2, g1] => { results := [.lit (.bool true)], args := [d1, d2], vars := [g1] }
  | _ => none }
def fnRunSameRow : OpenClaim := { program := "ytkpogcflgghfiaadoor", sum := "d1368af824d5901621d226c504ff44661b3b2751d9af32815942b5ab8af7677f", func := "loop.example/replayverifier/laws.FnRunSame", spec := "fnRunSame", unfollowed := true, recurses := true, named := ["loop.example/replayverifier/impl.firstQuarter"], leaving := true, apart := false, laid := [("loop.example/replayverifier/impl.firstQuarter", laid_loop_example_replayverifier_impl_firstQuarter)] }
def FnRunSameSaid : Prop := fnRunSameRow.holds Tryd.pinned (OpenSpec.ofChange fnRunSameSpec)

/-- ITS FALSE NEIGHBOUR: 'it returns false'. Refute it at one input. -/
def fnRunSameWrong : ChangeSpec := { name := "fnRunSame", vars := ["loop.example/replayverifier/impl.firstQuarter"], fn := fun _ => fun
  | [d1, d2, g1] => { results := [.lit (.bool false)], args := [d1, d2], vars := [g1] }
  | _ => none }
def FnRunSameWrongFalsely : Prop := fnRunSameRow.holds Tryd.pinned (OpenSpec.ofChange fnRunSameWrong)

/-- 'laws.FnRunFail': WHATEVER THE INPUT: true; the input reads as it did. -/
def fnRunFailSpec : ChangeSpec := { name := "fnRunFail", vars := ["loop.example/replayverifier/impl.firstQuarter"], fn := fun _ => fun
  | [d, g1] => { results := [.lit (.bool true)], args := [d], vars := [g1] }
  | _ => none }
def fnRunFailRow : OpenClaim := { program := "ytkpogcflgghfiaadoor", sum := "d1368af824d5901621d226c504ff44661b3b2751d9af32815942b5ab8af7677f", func := "loop.example/replayverifier/laws.FnRunFail", spec := "fnRunFail", unfollowed := true, recurses := true, named := ["loop.example/replayverifier/impl.firstQuarter"], leaving := true, apart := false, laid := [("loop.example/replayverifier/impl.firstQuarter", laid_loop_example_replayverifier_impl_firstQuarter)] }
def FnRunFailSaid : Prop := fnRunFailRow.holds Tryd.pinned (OpenSpec.ofChange fnRunFailSpec)

/-- ITS FALSE NEIGHBOUR: 'it returns false'. Refute it at one input. -/
def fnRunFailWrong : ChangeSpec := { name := "fnRunFail", vars := ["loop.example/replayverifier/impl.firstQuarter"], fn := fun _ => fun
  | [d, g1] => { results := [.lit (.bool false)], args := [d], vars := [g1] }
  | _ => none }
def FnRunFailWrongFalsely : Prop := fnRunFailRow.holds Tryd.pinned (OpenSpec.ofChange fnRunFailWrong)

/- THE SECOND FORM. 'bulk': how many values and letters a reading holds, each counted each time it is reached (what is shared counts as often as it is met; a slice's spare places count too). A statement '..UptoSaid' is the law's where the arguments, and the package variables that the reading takes, are together of bulk at most 1048576: NARROWER than '..Said'. Prove '..Said' where nothing that the law and all that it calls make is longer than what came in: it says more and counts as full. Else prove '..UptoSaid'. A law counts once. -/
mutual
def uptoBulk {H : Type} : DataW H → Nat
  | .lit (.string bytes) => bytes.length + 1
  | .lit _ => 1
  | .nil => 1
  | .ptr d => uptoBulk d + 1
  | .slice elems spare => uptoBulkAll elems + uptoBulkAll spare + 1
  | .agg parts => uptoBulkAll parts + 1
  | .iface _ d => uptoBulk d + 1
  | .map entries => uptoBulkEntries entries + 1
  | .held _ => 1
def uptoBulkAll {H : Type} : List (DataW H) → Nat
  | [] => 0
  | d :: r => uptoBulk d + uptoBulkAll r
def uptoBulkEntries {H : Type} : List (Lit × DataW H) → Nat
  | [] => 0
  | x :: r => uptoBulkEntry x + uptoBulkEntries r
def uptoBulkEntry {H : Type} : Lit × DataW H → Nat
  | (.string bytes, d) => bytes.length + uptoBulk d + 1
  | (_, d) => uptoBulk d + 1
 end
def uptoSmall : (H : Type) → List (DataW H) → Bool := fun _ ds => decide (uptoBulkAll ds ≤ 1048576)
def OpenSpec.upto (s : _root_.Go.ChangeSpec) : _root_.Go.OpenSpec := { _root_.Go.OpenSpec.ofChange s with cond := some uptoSmall }

/-- 'laws.FnRunNext', WHERE WHAT IT READS IS OF BULK AT MOST 1048576: true; the input reads as it did. -/
def fnRunNextUptoRow : OpenClaim := { program := "ytkpogcflgghfiaadoor", sum := "d1368af824d5901621d226c504ff44661b3b2751d9af32815942b5ab8af7677f", func := "loop.example/replayverifier/laws.FnRunNext", spec := "fnRunNext", unfollowed := true, recurses := true, named := ["loop.example/replayverifier/impl.firstQuarter"], leaving := true, apart := false, laid := [("loop.example/replayverifier/impl.firstQuarter", laid_loop_example_replayverifier_impl_firstQuarter)], narrowed := true }
def FnRunNextUptoSaid : Prop := fnRunNextUptoRow.holds Tryd.pinned (OpenSpec.upto fnRunNextSpec)

/-- 'laws.FnRunValid', WHERE WHAT IT READS IS OF BULK AT MOST 1048576: true; the input reads as it did. -/
def fnRunValidUptoRow : OpenClaim := { program := "ytkpogcflgghfiaadoor", sum := "d1368af824d5901621d226c504ff44661b3b2751d9af32815942b5ab8af7677f", func := "loop.example/replayverifier/laws.FnRunValid", spec := "fnRunValid", unfollowed := true, recurses := true, named := ["loop.example/replayverifier/impl.firstQuarter"], leaving := true, apart := false, laid := [("loop.example/replayverifier/impl.firstQuarter", laid_loop_example_replayverifier_impl_firstQuarter)], narrowed := true }
def FnRunValidUptoSaid : Prop := fnRunValidUptoRow.holds Tryd.pinned (OpenSpec.upto fnRunValidSpec)

/-- 'laws.FnRunSame', WHERE WHAT IT READS IS OF BULK AT MOST 1048576: true; the input reads as it did. -/
def fnRunSameUptoRow : OpenClaim := { program := "ytkpogcflgghfiaadoor", sum := "d1368af824d5901621d226c504ff44661b3b2751d9af32815942b5ab8af7677f", func := "loop.example/replayverifier/laws.FnRunSame", spec := "fnRunSame", unfollowed := true, recurses := true, named := ["loop.example/replayverifier/impl.firstQuarter"], leaving := true, apart := false, laid := [("loop.example/replayverifier/impl.firstQuarter", laid_loop_example_replayverifier_impl_firstQuarter)], narrowed := true }
def FnRunSameUptoSaid : Prop := fnRunSameUptoRow.holds Tryd.pinned (OpenSpec.upto fnRunSameSpec)

/-- 'laws.FnRunFail', WHERE WHAT IT READS IS OF BULK AT MOST 1048576: true; the input reads as it did. -/
def fnRunFailUptoRow : OpenClaim := { program := "ytkpogcflgghfiaadoor", sum := "d1368af824d5901621d226c504ff44661b3b2751d9af32815942b5ab8af7677f", func := "loop.example/replayverifier/laws.FnRunFail", spec := "fnRunFail", unfollowed := true, recurses := true, named := ["loop.example/replayverifier/impl.firstQuarter"], leaving := true, apart := false, laid := [("loop.example/replayverifier/impl.firstQuarter", laid_loop_example_replayverifier_impl_firstQuarter)], narrowed := true }
def FnRunFailUptoSaid : Prop := fnRunFailUptoRow.holds Tryd.pinned (OpenSpec.upto fnRunFailSpec)

end Rows
end Go.Proofs.YtkpogcflgghfiaaDoor
