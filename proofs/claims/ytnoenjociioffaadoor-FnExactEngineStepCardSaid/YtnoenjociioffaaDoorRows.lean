/-
  NARROWER THAN 'FOR EVERY INPUT', by the rows' own cells (each row's printed sentence says how): FnStep: laid · FnStepTick: laid · FnStepWall: laid · FnStepSpeed: laid · FnStepPause: laid · FnStepTurn: laid · FnStepGate: laid · FnStepDone: laid · FnStepOver: laid · FnStepRoll: laid · FnStepMove: laid · FnStepPush: laid · FnStepBrake: laid · FnStepFull: laid · FnStepEnd: laid · FnExactEngineStep: laid.
  DERIVED. THE GIVEN ROWS OF THIS SEAT. 16 by the template 'for every input the law returns true; each argument reads behind the call as it read before'; 0 by the template 'total and deterministic' (their statements: YtnoenjociioffaaDoorTotals.lean).
  GIVEN WITH THE SEED: the statements are not yours to turn. If you find one false, say at which input.
  Laid BY PROGRAM, IN A SANDBOX (cutbox-rows.mjs): the forced cells as the released guide's own fill.sh prints them over the translation 266b6bd7faa91baa… (all of the seat's roots in one cut). By AI agents, Wed Nov 11 2026. No macro, syntax, notation, axiom, sorry.
-/
import Derived.Test.YtnoenjociioffaaDoorChecked
import GoSem.Claim
import GoSem.ClaimJoined
import GoSem.ClaimMapViews
import Derived.JoinedTies
import Derived.KernelRfl
namespace Go.Proofs.YtnoenjociioffaaDoor
/- THE CELL 'sum', in the pinned program and in every row, IS THE sha256 OF THE DUMP (.gsa) THAT YtnoenjociioffaaDoorProg.lean LOADS. Nothing in Lean hashes anything: it is a label: what it is worth is what the hold of that sum in a sandbox is worth. -/
noncomputable def Tryd.pinned : Pinned := { name := "ytnoenjociioffaadoor", sum := "266b6bd7faa91baaad9e8de5392ca55d0000709b9df517562f032818dfd32eac", checked := Tryd.checked }
namespace Rows
def none {H : Type} : Left H := { results := [], args := [] }

/- WHAT THE LISTED PACKAGE-LEVEL VARIABLES READ AS WHEN THE CALL BEGINS. Each datum BY PROGRAM (the guide's laid-datum.mjs) off the statement by which the dump's own 'gosem.cut.vars' lays the variable. In a bare row this is a premise. The card (YtnoenjociioffaaDoorCards.lean) ties it to the program's text. -/
def laid_loop_example_replayverifier_impl_firstQuarter {H : Type} : DataW H := .agg [.agg [.lit (.int .i64 1000), .lit (.int .i64 0)], .agg [.lit (.int .i64 924), .lit (.int .i64 383)], .agg [.lit (.int .i64 707), .lit (.int .i64 707)], .agg [.lit (.int .i64 383), .lit (.int .i64 924)]]

/-- 'laws.FnStep': WHATEVER THE INPUT: true; the input reads as it did. -/
def fnStepSpec : ChangeSpec := { name := "fnStep", vars := ["loop.example/replayverifier/impl.firstQuarter"], fn := fun _ => fun
  | [d, g1] => { results := [.lit (.bool true)], args := [d], vars := [g1] }
  | _ => none }
def fnStepRow : OpenClaim := { program := "ytnoenjociioffaadoor", sum := "266b6bd7faa91baaad9e8de5392ca55d0000709b9df517562f032818dfd32eac", func := "loop.example/replayverifier/laws.FnStep", spec := "fnStep", unfollowed := true, recurses := true, named := ["loop.example/replayverifier/impl.firstQuarter"], apart := false, laid := [("loop.example/replayverifier/impl.firstQuarter", laid_loop_example_replayverifier_impl_firstQuarter)] }
def FnStepSaid : Prop := fnStepRow.holds Tryd.pinned (OpenSpec.ofChange fnStepSpec)

/-- ITS FALSE NEIGHBOUR: 'it returns false'. Refute it at one input. -/
def fnStepWrong : ChangeSpec := { name := "fnStep", vars := ["loop.example/replayverifier/impl.firstQuarter"], fn := fun _ => fun
  | [d, g1] => { results := [.lit (.bool false)], args := [d], vars := [g1] }
  | _ => none }
def FnStepWrongFalsely : Prop := fnStepRow.holds Tryd.pinned (OpenSpec.ofChange fnStepWrong)

/-- 'laws.FnStepTick': WHATEVER THE INPUT: true; the input reads as it did. -/
def fnStepTickSpec : ChangeSpec := { name := "fnStepTick", vars := ["loop.example/replayverifier/impl.firstQuarter"], fn := fun _ => fun
  | [d, g1] => { results := [.lit (.bool true)], args := [d], vars := [g1] }
  | _ => none }
def fnStepTickRow : OpenClaim := { program := "ytnoenjociioffaadoor", sum := "266b6bd7faa91baaad9e8de5392ca55d0000709b9df517562f032818dfd32eac", func := "loop.example/replayverifier/laws.FnStepTick", spec := "fnStepTick", unfollowed := true, recurses := true, named := ["loop.example/replayverifier/impl.firstQuarter"], apart := false, laid := [("loop.example/replayverifier/impl.firstQuarter", laid_loop_example_replayverifier_impl_firstQuarter)] }
def FnStepTickSaid : Prop := fnStepTickRow.holds Tryd.pinned (OpenSpec.ofChange fnStepTickSpec)

/-- ITS FALSE NEIGHBOUR: 'it returns false'. Refute it at one input. -/
def fnStepTickWrong : ChangeSpec := { name := "fnStepTick", vars := ["loop.example/replayverifier/impl.firstQuarter"], fn := fun _ => fun
  | [d, g1] => { results := [.lit (.bool false)], args := [d], vars := [g1] }
  | _ => none }
def FnStepTickWrongFalsely : Prop := fnStepTickRow.holds Tryd.pinned (OpenSpec.ofChange fnStepTickWrong)

/-- 'laws.FnStepWall': WHATEVER THE INPUT: true; the input reads as it did. -/
def fnStepWallSpec : ChangeSpec := { name := "fnStepWall", vars := ["loop.example/replayverifier/impl.firstQuarter"], fn := fun _ => fun
  | [d, g1] => { results := [.lit (.bool true)], args := [d], vars := [g1] }
  | _ => none }
def fnStepWallRow : OpenClaim := { program := "ytnoenjociioffaadoor", sum := "266b6bd7faa91baaad9e8de5392ca55d0000709b9df517562f032818dfd32eac", func := "loop.example/replayverifier/laws.FnStepWall", spec := "fnStepWall", unfollowed := true, recurses := true, named := ["loop.example/replayverifier/impl.firstQuarter"], apart := false, laid := [("loop.example/replayverifier/impl.firstQuarter", laid_loop_example_replayverifier_impl_firstQuarter)] }
def FnStepWallSaid : Prop := fnStepWallRow.holds Tryd.pinned (OpenSpec.ofChange fnStepWallSpec)

/-- ITS FALSE NEIGHBOUR: 'it returns false'. Refute it at one input. -/
def fnStepWallWrong : ChangeSpec := { name := "fnStepWall", vars := ["loop.example/replayverifier/impl.firstQuarter"], fn := fun _ => fun
  | [d, g1] => { results := [.lit (.bool false)], args := [d], vars := [g1] }
  | _ => none }
def FnStepWallWrongFalsely : Prop := fnStepWallRow.holds Tryd.pinned (OpenSpec.ofChange fnStepWallWrong)

/-- 'laws.FnStepSpeed': WHATEVER THE INPUT: true; the input reads as it did. -/
def fnStepSpeedSpec : ChangeSpec := { name := "fnStepSpeed", vars := ["loop.example/replayverifier/impl.firstQuarter"], fn := fun _ => fun
  | [d, g1] => { results := [.lit (.bool true)], args := [d], vars := [g1] }
  | _ => none }
def fnStepSpeedRow : OpenClaim := { program := "ytnoenjociioffaadoor", sum := "266b6bd7faa91baaad9e8de5392ca55d0000709b9df517562f032818dfd32eac", func := "loop.example/replayverifier/laws.FnStepSpeed", spec := "fnStepSpeed", unfollowed := true, recurses := true, named := ["loop.example/replayverifier/impl.firstQuarter"], apart := false, laid := [("loop.example/replayverifier/impl.firstQuarter", laid_loop_example_replayverifier_impl_firstQuarter)] }
def FnStepSpeedSaid : Prop := fnStepSpeedRow.holds Tryd.pinned (OpenSpec.ofChange fnStepSpeedSpec)

/-- ITS FALSE NEIGHBOUR: 'it returns false'. Refute it at one input. -/
def fnStepSpeedWrong : ChangeSpec := { name := "fnStepSpeed", vars := ["loop.example/replayverifier/impl.firstQuarter"], fn := fun _ => fun
  | [d, g1] => { results := [.lit (.bool false)], args := [d], vars := [g1] }
  | _ => none }
def FnStepSpeedWrongFalsely : Prop := fnStepSpeedRow.holds Tryd.pinned (OpenSpec.ofChange fnStepSpeedWrong)

/-- 'laws.FnStepPause': WHATEVER THE INPUT: true; the input reads as it did. -/
def fnStepPauseSpec : ChangeSpec := { name := "fnStepPause", vars := ["loop.example/replayverifier/impl.firstQuarter"], fn := fun _ => fun
  | [d, g1] => { results := [.lit (.bool true)], args := [d], vars := [g1] }
  | _ => none }
def fnStepPauseRow : OpenClaim := { program := "ytnoenjociioffaadoor", sum := "266b6bd7faa91baaad9e8de5392ca55d0000709b9df517562f032818dfd32eac", func := "loop.example/replayverifier/laws.FnStepPause", spec := "fnStepPause", unfollowed := true, recurses := true, named := ["loop.example/replayverifier/impl.firstQuarter"], apart := false, laid := [("loop.example/replayverifier/impl.firstQuarter", laid_loop_example_replayverifier_impl_firstQuarter)] }
def FnStepPauseSaid : Prop := fnStepPauseRow.holds Tryd.pinned (OpenSpec.ofChange fnStepPauseSpec)

/-- ITS FALSE NEIGHBOUR: 'it returns false'. Refute it at one input. -/
def fnStepPauseWrong : ChangeSpec := { name := "fnStepPause", vars := ["loop.example/replayverifier/impl.firstQuarter"], fn := fun _ => fun
  | [d, g1] => { results := [.lit (.bool false)], args := [d], vars := [g1] }
  | _ => none }
def FnStepPauseWrongFalsely : Prop := fnStepPauseRow.holds Tryd.pinned (OpenSpec.ofChange fnStepPauseWrong)

/-- 'laws.FnStepTurn': WHATEVER THE INPUT: true; the input reads as it did. -/
def fnStepTurnSpec : ChangeSpec := { name := "fnStepTurn", vars := ["loop.example/replayverifier/impl.firstQuarter"], fn := fun _ => fun
  | [d, g1] => { results := [.lit (.bool true)], args := [d], vars := [g1] }
  | _ => none }
def fnStepTurnRow : OpenClaim := { program := "ytnoenjociioffaadoor", sum := "266b6bd7faa91baaad9e8de5392ca55d0000709b9df517562f032818dfd32eac", func := "loop.example/replayverifier/laws.FnStepTurn", spec := "fnStepTurn", unfollowed := true, recurses := true, named := ["loop.example/replayverifier/impl.firstQuarter"], apart := false, laid := [("loop.example/replayverifier/impl.firstQuarter", laid_loop_example_replayverifier_impl_firstQuarter)] }
def FnStepTurnSaid : Prop := fnStepTurnRow.holds Tryd.pinned (OpenSpec.ofChange fnStepTurnSpec)

/-- ITS FALSE NEIGHBOUR: 'it returns false'. Refute it at one input. -/
def fnStepTurnWrong : ChangeSpec := { name := "fnStepTurn", vars := ["loop.example/replayverifier/impl.firstQuarter"], fn := fun _ => fun
  | [d, g1] => { results := [.lit (.bool false)], args := [d], vars := [g1] }
  | _ => none }
def FnStepTurnWrongFalsely : Prop := fnStepTurnRow.holds Tryd.pinned (OpenSpec.ofChange fnStepTurnWrong)

/-- 'laws.FnStepGate': WHATEVER THE INPUT: true; the input reads as it did. -/
def fnStepGateSpec : ChangeSpec := { name := "fnStepGate", vars := ["loop.example/replayverifier/impl.firstQuarter"], fn := fun _ => fun
  | [d, g1] => { results := [.lit (.bool true)], args := [d], vars := [g1] }
  | _ => none }
def fnStepGateRow : OpenClaim := { program := "ytnoenjociioffaadoor", sum := "266b6bd7faa91baaad9e8de5392ca55d0000709b9df517562f032818dfd32eac", func := "loop.example/replayverifier/laws.FnStepGate", spec := "fnStepGate", unfollowed := true, recurses := true, named := ["loop.example/replayverifier/impl.firstQuarter"], apart := false, laid := [("loop.example/replayverifier/impl.firstQuarter", laid_loop_example_replayverifier_impl_firstQuarter)] }
def FnStepGateSaid : Prop := fnStepGateRow.holds Tryd.pinned (OpenSpec.ofChange fnStepGateSpec)

/-- ITS FALSE NEIGHBOUR: 'it returns false'. Refute it at one input. -/
def fnStepGateWrong : ChangeSpec := { name := "fnStepGate", vars := ["loop.example/replayverifier/impl.firstQuarter"], fn := fun _ => fun
  | [d, g1] => { results := [.lit (.bool false)], args := [d], vars := [g1] }
  | _ => none }
def FnStepGateWrongFalsely : Prop := fnStepGateRow.holds Tryd.pinned (OpenSpec.ofChange fnStepGateWrong)

/-- 'laws.FnStepDone': WHATEVER THE INPUT: true; the input reads as it did. -/
def fnStepDoneSpec : ChangeSpec := { name := "fnStepDone", vars := ["loop.example/replayverifier/impl.firstQuarter"], fn := fun _ => fun
  | [d, g1] => { results := [.lit (.bool true)], args := [d], vars := [g1] }
  | _ => none }
def fnStepDoneRow : OpenClaim := { program := "ytnoenjociioffaadoor", sum := "266b6bd7faa91baaad9e8de5392ca55d0000709b9df517562f032818dfd32eac", func := "loop.example/replayverifier/laws.FnStepDone", spec := "fnStepDone", unfollowed := true, recurses := true, named := ["loop.example/replayverifier/impl.firstQuarter"], apart := false, laid := [("loop.example/replayverifier/impl.firstQuarter", laid_loop_example_replayverifier_impl_firstQuarter)] }
def FnStepDoneSaid : Prop := fnStepDoneRow.holds Tryd.pinned (OpenSpec.ofChange fnStepDoneSpec)

/-- ITS FALSE NEIGHBOUR: 'it returns false'. Refute it at one input. -/
def fnStepDoneWrong : ChangeSpec := { name := "fnStepDone", vars := ["loop.example/replayverifier/impl.firstQuarter"], fn := fun _ => fun
  | [d, g1] => { results := [.lit (.bool false)], args := [d], vars := [g1] }
  | _ => none }
def FnStepDoneWrongFalsely : Prop := fnStepDoneRow.holds Tryd.pinned (OpenSpec.ofChange fnStepDoneWrong)

/-- 'laws.FnStepOver': WHATEVER THE INPUT: true; the input reads as it did. -/
def fnStepOverSpec : ChangeSpec := { name := "fnStepOver", vars := ["loop.example/replayverifier/impl.firstQuarter"], fn := fun _ => fun
  | [d, g1] => { results := [.lit (.bool true)], args := [d], vars := [g1] }
  | _ => none }
def fnStepOverRow : OpenClaim := { program := "ytnoenjociioffaadoor", sum := "266b6bd7faa91baaad9e8de5392ca55d0000709b9df517562f032818dfd32eac", func := "loop.example/replayverifier/laws.FnStepOver", spec := "fnStepOver", unfollowed := true, recurses := true, named := ["loop.example/replayverifier/impl.firstQuarter"], apart := false, laid := [("loop.example/replayverifier/impl.firstQuarter", laid_loop_example_replayverifier_impl_firstQuarter)] }
def FnStepOverSaid : Prop := fnStepOverRow.holds Tryd.pinned (OpenSpec.ofChange fnStepOverSpec)

/-- ITS FALSE NEIGHBOUR: 'it returns false'. Refute it at one input. -/
def fnStepOverWrong : ChangeSpec := { name := "fnStepOver", vars := ["loop.example/replayverifier/impl.firstQuarter"], fn := fun _ => fun
  | [d, g1] => { results := [.lit (.bool false)], args := [d], vars := [g1] }
  | _ => none }
def FnStepOverWrongFalsely : Prop := fnStepOverRow.holds Tryd.pinned (OpenSpec.ofChange fnStepOverWrong)

/-- 'laws.FnStepRoll': WHATEVER THE INPUT: true; the input reads as it did. -/
def fnStepRollSpec : ChangeSpec := { name := "fnStepRoll", vars := ["loop.example/replayverifier/impl.firstQuarter"], fn := fun _ => fun
  | [d, g1] => { results := [.lit (.bool true)], args := [d], vars := [g1] }
  | _ => none }
def fnStepRollRow : OpenClaim := { program := "ytnoenjociioffaadoor", sum := "266b6bd7faa91baaad9e8de5392ca55d0000709b9df517562f032818dfd32eac", func := "loop.example/replayverifier/laws.FnStepRoll", spec := "fnStepRoll", unfollowed := true, recurses := true, named := ["loop.example/replayverifier/impl.firstQuarter"], apart := false, laid := [("loop.example/replayverifier/impl.firstQuarter", laid_loop_example_replayverifier_impl_firstQuarter)] }
def FnStepRollSaid : Prop := fnStepRollRow.holds Tryd.pinned (OpenSpec.ofChange fnStepRollSpec)

/-- ITS FALSE NEIGHBOUR: 'it returns false'. Refute it at one input. -/
def fnStepRollWrong : ChangeSpec := { name := "fnStepRoll", vars := ["loop.example/replayverifier/impl.firstQuarter"], fn := fun _ => fun
  | [d, g1] => { results := [.lit (.bool false)], args := [d], vars := [g1] }
  | _ => none }
def FnStepRollWrongFalsely : Prop := fnStepRollRow.holds Tryd.pinned (OpenSpec.ofChange fnStepRollWrong)

/-- 'laws.FnStepMove': WHATEVER THE INPUT: true; the input reads as it did. -/
def fnStepMoveSpec : ChangeSpec := { name := "fnStepMove", vars := ["loop.example/replayverifier/impl.firstQuarter"], fn := fun _ => fun
  | [d, g1] => { results := [.lit (.bool true)], args := [d], vars := [g1] }
  | _ => none }
def fnStepMoveRow : OpenClaim := { program := "ytnoenjociioffaadoor", sum := "266b6bd7faa91baaad9e8de5392ca55d0000709b9df517562f032818dfd32eac", func := "loop.example/replayverifier/laws.FnStepMove", spec := "fnStepMove", unfollowed := true, recurses := true, named := ["loop.example/replayverifier/impl.firstQuarter"], apart := false, laid := [("loop.example/replayverifier/impl.firstQuarter", laid_loop_example_replayverifier_impl_firstQuarter)] }
def FnStepMoveSaid : Prop := fnStepMoveRow.holds Tryd.pinned (OpenSpec.ofChange fnStepMoveSpec)

/-- ITS FALSE NEIGHBOUR: 'it returns false'. Refute it at one input. -/
def fnStepMoveWrong : ChangeSpec := { name := "fnStepMove", vars := ["loop.example/replayverifier/impl.firstQuarter"], fn := fun _ => fun
  | [d, g1] => { results := [.lit (.bool false)], args := [d], vars := [g1] }
  | _ => none }
def FnStepMoveWrongFalsely : Prop := fnStepMoveRow.holds Tryd.pinned (OpenSpec.ofChange fnStepMoveWrong)

/-- 'laws.FnStepPush': WHATEVER THE INPUT: true; the input reads as it did. -/
def fnStepPushSpec : ChangeSpec := { name := "fnStepPush", vars := ["loop.example/replayverifier/impl.firstQuarter"], fn := fun _ => fun
  | [d, g1] => { results := [.lit (.bool true)], args := [d], vars := [g1] }
  | _ => none }
def fnStepPushRow : OpenClaim := { program := "ytnoenjociioffaadoor", sum := "266b6bd7faa91baaad9e8de5392ca55d0000709b9df517562f032818dfd32eac", func := "loop.example/replayverifier/laws.FnStepPush", spec := "fnStepPush", unfollowed := true, recurses := true, named := ["loop.example/replayverifier/impl.firstQuarter"], apart := false, laid := [("loop.example/replayverifier/impl.firstQuarter", laid_loop_example_replayverifier_impl_firstQuarter)] }
def FnStepPushSaid : Prop := fnStepPushRow.holds Tryd.pinned (OpenSpec.ofChange fnStepPushSpec)

/-- ITS FALSE NEIGHBOUR: 'it returns false'. Refute it at one input. -/
def fnStepPushWrong : ChangeSpec := { name := "fnStepPush", vars := ["loop.example/replayverifier/impl.firstQuarter"], fn := fun _ => fun
  | [d, g1] => { results := [.lit (.bool false)], args := [d], vars := [g1] }
  | _ => none }
def FnStepPushWrongFalsely : Prop := fnStepPushRow.holds Tryd.pinned (OpenSpec.ofChange fnStepPushWrong)

/-- 'laws.FnStepBrake': WHATEVER THE INPUT: true; the input reads as it did. -/
def fnStepBrakeSpec : ChangeSpec := { name := "fnStepBrake", vars := ["loop.example/replayverifier/impl.firstQuarter"], fn := fun _ => fun
  | [d, g1] => { results := [.lit (.bool true)], args := [d], vars := [g1] }
  | _ => none }
def fnStepBrakeRow : OpenClaim := { program := "ytnoenjociioffaadoor", sum := "266b6bd7faa91baaad9e8de5392ca55d0000709b9df517562f032818dfd32eac", func := "loop.example/replayverifier/laws.FnStepBrake", spec := "fnStepBrake", unfollowed := true, recurses := true, named := ["loop.example/replayverifier/impl.firstQuarter"], apart := false, laid := [("loop.example/replayverifier/impl.firstQuarter", laid_loop_example_replayverifier_impl_firstQuarter)] }
def FnStepBrakeSaid : Prop := fnStepBrakeRow.holds Tryd.pinned (OpenSpec.ofChange fnStepBrakeSpec)

/-- ITS FALSE NEIGHBOUR: 'it returns false'. Refute it at one input. -/
def fnStepBrakeWrong : ChangeSpec := { name := "fnStepBrake", vars := ["loop.example/replayverifier/impl.firstQuarter"], fn := fun _ => fun
  | [d, g1] => { results := [.lit (.bool false)], args := [d], vars := [g1] }
  | _ => none }
def FnStepBrakeWrongFalsely : Prop := fnStepBrakeRow.holds Tryd.pinned (OpenSpec.ofChange fnStepBrakeWrong)

/-- 'laws.FnStepFull': WHATEVER THE INPUT: true; the input reads as it did. -/
def fnStepFullSpec : ChangeSpec := { name := "fnStepFull", vars := ["loop.example/replayverifier/impl.firstQuarter"], fn := fun _ => fun
  | [d, g1] => { results := [.lit (.bool true)], args := [d], vars := [g1] }
  | _ => none }
def fnStepFullRow : OpenClaim := { program := "ytnoenjociioffaadoor", sum := "266b6bd7faa91baaad9e8de5392ca55d0000709b9df517562f032818dfd32eac", func := "loop.example/replayverifier/laws.FnStepFull", spec := "fnStepFull", unfollowed := true, recurses := true, named := ["loop.example/replayverifier/impl.firstQuarter"], apart := false, laid := [("loop.example/replayverifier/impl.firstQuarter", laid_loop_example_replayverifier_impl_firstQuarter)] }
def FnStepFullSaid : Prop := fnStepFullRow.holds Tryd.pinned (OpenSpec.ofChange fnStepFullSpec)

/-- ITS FALSE NEIGHBOUR: 'it returns false'. Refute it at one input. -/
def fnStepFullWrong : ChangeSpec := { name := "fnStepFull", vars := ["loop.example/replayverifier/impl.firstQuarter"], fn := fun _ => fun
  | [d, g1] => { results := [.lit (.bool false)], args := [d], vars := [g1] }
  | _ => none }
def FnStepFullWrongFalsely : Prop := fnStepFullRow.holds Tryd.pinned (OpenSpec.ofChange fnStepFullWrong)

/-- 'laws.FnStepEnd': WHATEVER THE INPUT: true; the input reads as it did. -/
def fnStepEndSpec : ChangeSpec := { name := "fnStepEnd", vars := ["loop.example/replayverifier/impl.firstQuarter"], fn := fun _ => fun
  | [d, g1] => { results := [.lit (.bool true)], args := [d], vars := [g1] }
  | _ => none }
def fnStepEndRow : OpenClaim := { program := "ytnoenjociioffaadoor", sum := "266b6bd7faa91baaad9e8de5392ca55d0000709b9df517562f032818dfd32eac", func := "loop.example/replayverifier/laws.FnStepEnd", spec := "fnStepEnd", unfollowed := true, recurses := true, named := ["loop.example/replayverifier/impl.firstQuarter"], apart := false, laid := [("loop.example/replayverifier/impl.firstQuarter", laid_loop_example_replayverifier_impl_firstQuarter)] }
def FnStepEndSaid : Prop := fnStepEndRow.holds Tryd.pinned (OpenSpec.ofChange fnStepEndSpec)

/-- ITS FALSE NEIGHBOUR: 'it returns false'. Refute it at one input. -/
def fnStepEndWrong : ChangeSpec := { name := "fnStepEnd", vars := ["loop.example/replayverifier/impl.firstQuarter"], fn := fun _ => fun
  | [d, g1] => { results := [.lit (.bool false)], args := [d], vars := [g1] }
  | _ => none }
def FnStepEndWrongFalsely : Prop := fnStepEndRow.holds Tryd.pinned (OpenSpec.ofChange fnStepEndWrong)

/-- 'laws.FnExactEngineStep': WHATEVER THE INPUT: true; the input reads as it did. -/
def fnExactEngineStepSpec : ChangeSpec := { name := "fnExactEngineStep", vars := ["loop.example/replayverifier/impl.firstQuarter"], fn := fun _ => fun
  | [d1, d2, d3, g1] => { results := [.lit (.bool true)], args := [d1, d2, d3], vars := [g1] }
  | _ => none }
def fnExactEngineStepRow : OpenClaim := { program := "ytnoenjociioffaadoor", sum := "266b6bd7faa91baaad9e8de5392ca55d0000709b9df517562f032818dfd32eac", func := "loop.example/replayverifier/laws.FnExactEngineStep", spec := "fnExactEngineStep", unfollowed := true, recurses := true, named := ["loop.example/replayverifier/impl.firstQuarter"], apart := false, laid := [("loop.example/replayverifier/impl.firstQuarter", laid_loop_example_replayverifier_impl_firstQuarter)] }
def FnExactEngineStepSaid : Prop := fnExactEngineStepRow.holds Tryd.pinned (OpenSpec.ofChange fnExactEngineStepSpec)

/-- ITS FALSE NEIGHBOUR: 'it returns false'. Refute it at one input. -/
def fnExactEngineStepWrong : ChangeSpec := { name := "fnExactEngineStep", vars := ["loop.example/replayverifier/impl.firstQuarter"], fn := fun _ => fun
  | [d1, d2, d3, g1] => { results := [.lit (.bool false)], args := [d1, d2, d3], vars := [g1] }
  | _ => none }
def FnExactEngineStepWrongFalsely : Prop := fnExactEngineStepRow.holds Tryd.pinned (OpenSpec.ofChange fnExactEngineStepWrong)

/- THE SECOND FORM. 'bulk': how many values and letters a reading holds, each counted each time it is reached (what is shared counts as often as it is met; a slice's spare places count too). A statement '..UptoSaid' is the law's where the arguments, and the package variables that the reading takes, are together of bulk at most 1048576: NARROWER than '..Said'. Prove '..Said' where nothing that the law and all that it calls make is longer than what came in: it says more and counts as full. Else prove '..UptoSaid'. A law counts once. -/
mutual
def uptoBulk {H : Type} : DataW H → Nat
  | .lit (.string bytes) => bytes.length + 1
  | .lit _ => 1
  | .nil => 1
  | .ptr d => uptoBulk d + 1
  | .slice elems spare => uptoBulkAll elems + uptoBulkAll spare + 1
  | .agg parts => uptoBulkAll parts + 1
  | .iface _ d => uptoBulk d + 1
  | .map entries => uptoBulkEntries entries + 1
  | .held _ => 1
def uptoBulkAll {H : Type} : List (DataW H) → Nat
  | [] => 0
  | d :: r => uptoBulk d + uptoBulkAll r
def uptoBulkEntries {H : Type} : List (Lit × DataW H) → Nat
  | [] => 0
  | x :: r => uptoBulkEntry x + uptoBulkEntries r
def uptoBulkEntry {H : Type} : Lit × DataW H → Nat
  | (.string bytes, d) => bytes.length + uptoBulk d + 1
  | (_, d) => uptoBulk d + 1
 end
def uptoSmall : (H : Type) → List (DataW H) → Bool := fun _ ds => decide (uptoBulkAll ds ≤ 1048576)
def OpenSpec.upto (s : _root_.Go.ChangeSpec) : _root_.Go.OpenSpec := { _root_.Go.OpenSpec.ofChange s with cond := some uptoSmall }

/-- 'laws.FnStep', WHERE WHAT IT READS IS OF BULK AT MOST 1048576: true; the input reads as it did. -/
def fnStepUptoRow : OpenClaim := { program := "ytnoenjociioffaadoor", sum := "266b6bd7faa91baaad9e8de5392ca55d0000709b9df517562f032818dfd32eac", func := "loop.example/replayverifier/laws.FnStep", spec := "fnStep", unfollowed := true, recurses := true, named := ["loop.example/replayverifier/impl.firstQuarter"], apart := false, laid := [("loop.example/replayverifier/impl.firstQuarter", laid_loop_example_replayverifier_impl_firstQuarter)], narrowed := true }
def FnStepUptoSaid : Prop := fnStepUptoRow.holds Tryd.pinned (OpenSpec.upto fnStepSpec)

/-- 'laws.FnStepTick', WHERE WHAT IT READS IS OF BULK AT MOST 1048576: true; the input reads as it did. -/
def fnStepTickUptoRow : OpenClaim := { program := "ytnoenjociioffaadoor", sum := "266b6bd7faa91baaad9e8de5392ca55d0000709b9df517562f032818dfd32eac", func := "loop.example/replayverifier/laws.FnStepTick", spec := "fnStepTick", unfollowed := true, recurses := true, named := ["loop.example/replayverifier/impl.firstQuarter"], apart := false, laid := [("loop.example/replayverifier/impl.firstQuarter", laid_loop_example_replayverifier_impl_firstQuarter)], narrowed := true }
def FnStepTickUptoSaid : Prop := fnStepTickUptoRow.holds Tryd.pinned (OpenSpec.upto fnStepTickSpec)

/-- 'laws.FnStepWall', WHERE WHAT IT READS IS OF BULK AT MOST 1048576: true; the input reads as it did. -/
def fnStepWallUptoRow : OpenClaim := { program := "ytnoenjociioffaadoor", sum := "266b6bd7faa91baaad9e8de5392ca55d0000709b9df517562f032818dfd32eac", func := "loop.example/replayverifier/laws.FnStepWall", spec := "fnStepWall", unfollowed := true, recurses := true, named := ["loop.example/replayverifier/impl.firstQuarter"], apart := false, laid := [("loop.example/replayverifier/impl.firstQuarter", laid_loop_example_replayverifier_impl_firstQuarter)], narrowed := true }
def FnStepWallUptoSaid : Prop := fnStepWallUptoRow.holds Tryd.pinned (OpenSpec.upto fnStepWallSpec)

/-- 'laws.FnStepSpeed', WHERE WHAT IT READS IS OF BULK AT MOST 1048576: true; the input reads as it did. -/
def fnStepSpeedUptoRow : OpenClaim := { program := "ytnoenjociioffaadoor", sum := "266b6bd7faa91baaad9e8de5392ca55d0000709b9df517562f032818dfd32eac", func := "loop.example/replayverifier/laws.FnStepSpeed", spec := "fnStepSpeed", unfollowed := true, recurses := true, named := ["loop.example/replayverifier/impl.firstQuarter"], apart := false, laid := [("loop.example/replayverifier/impl.firstQuarter", laid_loop_example_replayverifier_impl_firstQuarter)], narrowed := true }
def FnStepSpeedUptoSaid : Prop := fnStepSpeedUptoRow.holds Tryd.pinned (OpenSpec.upto fnStepSpeedSpec)

/-- 'laws.FnStepPause', WHERE WHAT IT READS IS OF BULK AT MOST 1048576: true; the input reads as it did. -/
def fnStepPauseUptoRow : OpenClaim := { program := "ytnoenjociioffaadoor", sum := "266b6bd7faa91baaad9e8de5392ca55d0000709b9df517562f032818dfd32eac", func := "loop.example/replayverifier/laws.FnStepPause", spec := "fnStepPause", unfollowed := true, recurses := true, named := ["loop.example/replayverifier/impl.firstQuarter"], apart := false, laid := [("loop.example/replayverifier/impl.firstQuarter", laid_loop_example_replayverifier_impl_firstQuarter)], narrowed := true }
def FnStepPauseUptoSaid : Prop := fnStepPauseUptoRow.holds Tryd.pinned (OpenSpec.upto fnStepPauseSpec)

/-- 'laws.FnStepTurn', WHERE WHAT IT READS IS OF BULK AT MOST 1048576: true; the input reads as it did. -/
def fnStepTurnUptoRow : OpenClaim := { program := "ytnoenjociioffaadoor", sum := "266b6bd7faa91baaad9e8de5392ca55d0000709b9df517562f032818dfd32eac", func := "loop.example/replayverifier/laws.FnStepTurn", spec := "fnStepTurn", unfollowed := true, recurses := true, named := ["loop.example/replayverifier/impl.firstQuarter"], apart := false, laid := [("loop.example/replayverifier/impl.firstQuarter", laid_loop_example_replayverifier_impl_firstQuarter)], narrowed := true }
def FnStepTurnUptoSaid : Prop := fnStepTurnUptoRow.holds Tryd.pinned (OpenSpec.upto fnStepTurnSpec)

/-- 'laws.FnStepGate', WHERE WHAT IT READS IS OF BULK AT MOST 1048576: true; the input reads as it did. -/
def fnStepGateUptoRow : OpenClaim := { program := "ytnoenjociioffaadoor", sum := "266b6bd7faa91baaad9e8de5392ca55d0000709b9df517562f032818dfd32eac", func := "loop.example/replayverifier/laws.FnStepGate", spec := "fnStepGate", unfollowed := true, recurses := true, named := ["loop.example/replayverifier/impl.firstQuarter"], apart := false, laid := [("loop.example/replayverifier/impl.firstQuarter", laid_loop_example_replayverifier_impl_firstQuarter)], narrowed := true }
def FnStepGateUptoSaid : Prop := fnStepGateUptoRow.holds Tryd.pinned (OpenSpec.upto fnStepGateSpec)

/-- 'laws.FnStepDone', WHERE WHAT IT READS IS OF BULK AT MOST 1048576: true; the input reads as it did. -/
def fnStepDoneUptoRow : OpenClaim := { program := "ytnoenjociioffaadoor", sum := "266b6bd7faa91baaad9e8de5392ca55d0000709b9df517562f032818dfd32eac", func := "loop.example/replayverifier/laws.FnStepDone", spec := "fnStepDone", unfollowed := true, recurses := true, named := ["loop.example/replayverifier/impl.firstQuarter"], apart := false, laid := [("loop.example/replayverifier/impl.firstQuarter", laid_loop_example_replayverifier_impl_firstQuarter)], narrowed := true }
def FnStepDoneUptoSaid : Prop := fnStepDoneUptoRow.holds Tryd.pinned (OpenSpec.upto fnStepDoneSpec)

/-- 'laws.FnStepOver', WHERE WHAT IT READS IS OF BULK AT MOST 1048576: true; the input reads as it did. -/
def fnStepOverUptoRow : OpenClaim := { program := "ytnoenjociioffaadoor", sum := "266b6bd7faa91baaad9e8de5392ca55d0000709b9df517562f032818dfd32eac", func := "loop.example/replayverifier/laws.FnStepOver", spec := "fnStepOver", unfollowed := true, recurses := true, named := ["loop.example/replayverifier/impl.firstQuarter"], apart := false, laid := [("loop.example/replayverifier/impl.firstQuarter", laid_loop_example_replayverifier_impl_firstQuarter)], narrowed := true }
def FnStepOverUptoSaid : Prop := fnStepOverUptoRow.holds Tryd.pinned (OpenSpec.upto fnStepOverSpec)

/-- 'laws.FnStepRoll', WHERE WHAT IT READS IS OF BULK AT MOST 1048576: true; the input reads as it did. -/
def fnStepRollUptoRow : OpenClaim := { program := "ytnoenjociioffaadoor", sum := "266b6bd7faa91baaad9e8de5392ca55d0000709b9df517562f032818dfd32eac", func := "loop.example/replayverifier/laws.FnStepRoll", spec := "fnStepRoll", unfollowed := true, recurses := true, named := ["loop.example/replayverifier/impl.firstQuarter"], apart := false, laid := [("loop.example/replayverifier/impl.firstQuarter", laid_loop_example_replayverifier_impl_firstQuarter)], narrowed := true }
def FnStepRollUptoSaid : Prop := fnStepRollUptoRow.holds Tryd.pinned (OpenSpec.upto fnStepRollSpec)

/-- 'laws.FnStepMove', WHERE WHAT IT READS IS OF BULK AT MOST 1048576: true; the input reads as it did. -/
def fnStepMoveUptoRow : OpenClaim := { program := "ytnoenjociioffaadoor", sum := "266b6bd7faa91baaad9e8de5392ca55d0000709b9df517562f032818dfd32eac", func := "loop.example/replayverifier/laws.FnStepMove", spec := "fnStepMove", unfollowed := true, recurses := true, named := ["loop.example/replayverifier/impl.firstQuarter"], apart := false, laid := [("loop.example/replayverifier/impl.firstQuarter", laid_loop_example_replayverifier_impl_firstQuarter)], narrowed := true }
def FnStepMoveUptoSaid : Prop := fnStepMoveUptoRow.holds Tryd.pinned (OpenSpec.upto fnStepMoveSpec)

/-- 'laws.FnStepPush', WHERE WHAT IT READS IS OF BULK AT MOST 1048576: true; the input reads as it did. -/
def fnStepPushUptoRow : OpenClaim := { program := "ytnoenjociioffaadoor", sum := "266b6bd7faa91baaad9e8de5392ca55d0000709b9df517562f032818dfd32eac", func := "loop.example/replayverifier/laws.FnStepPush", spec := "fnStepPush", unfollowed := true, recurses := true, named := ["loop.example/replayverifier/impl.firstQuarter"], apart := false, laid := [("loop.example/replayverifier/impl.firstQuarter", laid_loop_example_replayverifier_impl_firstQuarter)], narrowed := true }
def FnStepPushUptoSaid : Prop := fnStepPushUptoRow.holds Tryd.pinned (OpenSpec.upto fnStepPushSpec)

/-- 'laws.FnStepBrake', WHERE WHAT IT READS IS OF BULK AT MOST 1048576: true; the input reads as it did. -/
def fnStepBrakeUptoRow : OpenClaim := { program := "ytnoenjociioffaadoor", sum := "266b6bd7faa91baaad9e8de5392ca55d0000709b9df517562f032818dfd32eac", func := "loop.example/replayverifier/laws.FnStepBrake", spec := "fnStepBrake", unfollowed := true, recurses := true, named := ["loop.example/replayverifier/impl.firstQuarter"], apart := false, laid := [("loop.example/replayverifier/impl.firstQuarter", laid_loop_example_replayverifier_impl_firstQuarter)], narrowed := true }
def FnStepBrakeUptoSaid : Prop := fnStepBrakeUptoRow.holds Tryd.pinned (OpenSpec.upto fnStepBrakeSpec)

/-- 'laws.FnStepFull', WHERE WHAT IT READS IS OF BULK AT MOST 1048576: true; the input reads as it did. -/
def fnStepFullUptoRow : OpenClaim := { program := "ytnoenjociioffaadoor", sum := "266b6bd7faa91baaad9e8de5392ca55d0000709b9df517562f032818dfd32eac", func := "loop.example/replayverifier/laws.FnStepFull", spec := "fnStepFull", unfollowed := true, recurses := true, named := ["loop.example/replayverifier/impl.firstQuarter"], apart := false, laid := [("loop.example/replayverifier/impl.firstQuarter", laid_loop_example_replayverifier_impl_firstQuarter)], narrowed := true }
def FnStepFullUptoSaid : Prop := fnStepFullUptoRow.holds Tryd.pinned (OpenSpec.upto fnStepFullSpec)

/-- 'laws.FnStepEnd', WHERE WHAT IT READS IS OF BULK AT MOST 1048576: true; the input reads as it did. -/
def fnStepEndUptoRow : OpenClaim := { program := "ytnoenjociioffaadoor", sum := "266b6bd7faa91baaad9e8de5392ca55d0000709b9df517562f032818dfd32eac", func := "loop.example/replayverifier/laws.FnStepEnd", spec := "fnStepEnd", unfollowed := true, recurses := true, named := ["loop.example/replayverifier/impl.firstQuarter"], apart := false, laid := [("loop.example/replayverifier/impl.firstQuarter", laid_loop_example_replayverifier_impl_firstQuarter)], narrowed := true }
def FnStepEndUptoSaid : Prop := fnStepEndUptoRow.holds Tryd.pinned (OpenSpec.upto fnStepEndSpec)

/-- 'laws.FnExactEngineStep', WHERE WHAT IT READS IS OF BULK AT MOST 1048576: true; the input reads as it did. -/
def fnExactEngineStepUptoRow : OpenClaim := { program := "ytnoenjociioffaadoor", sum := "266b6bd7faa91baaad9e8de5392ca55d0000709b9df517562f032818dfd32eac", func := "loop.example/replayverifier/laws.FnExactEngineStep", spec := "fnExactEngineStep", unfollowed := true, recurses := true, named := ["loop.example/replayverifier/impl.firstQuarter"], apart := false, laid := [("loop.example/replayverifier/impl.firstQuarter", laid_loop_example_replayverifier_impl_firstQuarter)], narrowed := true }
def FnExactEngineStepUptoSaid : Prop := fnExactEngineStepUptoRow.holds Tryd.pinned (OpenSpec.upto fnExactEngineStepSpec)

end Rows
end Go.Proofs.YtnoenjociioffaaDoor
