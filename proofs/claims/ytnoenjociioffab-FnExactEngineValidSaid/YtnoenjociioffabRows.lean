/-
  No cell of these rows narrows 'for every input' (looked for: loops, veiled, ifaces, maps, wideKeys, modest, calm, conditions, laid).
  DERIVED. THE GIVEN ROWS OF THIS SEAT. 8 by the template 'for every input the law returns true; each argument reads behind the call as it read before'; 0 by the template 'total and deterministic' (their statements: YtnoenjociioffabTotals.lean).
  GIVEN WITH THE SEED: the statements are not yours to turn. If you find one false, say at which input.
  Laid BY PROGRAM, IN A SANDBOX (cutbox-rows.mjs): the forced cells as the released guide's own fill.sh prints them over the translation a390813ed4011e9d… (all of the seat's roots in one cut). By AI agents, Wed Nov 11 2026. No macro, syntax, notation, axiom, sorry.
-/
import Derived.Test.YtnoenjociioffabChecked
import GoSem.Claim
import GoSem.ClaimJoined
import GoSem.ClaimMapViews
import Derived.JoinedTies
import Derived.KernelRfl
namespace Go.Proofs.Ytnoenjociioffab
/- THE CELL 'sum', in the pinned program and in every row, IS THE sha256 OF THE DUMP (.gsa) THAT YtnoenjociioffabProg.lean LOADS. Nothing in Lean hashes anything: it is a label: what it is worth is what the hold of that sum in a sandbox is worth. -/
noncomputable def Try.pinned : Pinned := { name := "ytnoenjociioffab", sum := "a390813ed4011e9de22e1b59cfbaff24b33e54e4ab54dee802cbcbef25ae0863", checked := Try.checked }
namespace Rows
def none {H : Type} : Left H := { results := [], args := [] }

/-- 'laws.FnStart': WHATEVER THE INPUT: true; the input reads as it did. -/
def fnStartSpec : ChangeSpec := { name := "fnStart", fn := fun _ => fun
  | [d] => { results := [.lit (.bool true)], args := [d] }
  | _ => none }
def fnStartRow : OpenClaim := { program := "ytnoenjociioffab", sum := "a390813ed4011e9de22e1b59cfbaff24b33e54e4ab54dee802cbcbef25ae0863", func := "loop.example/replayverifier/laws.FnStart", spec := "fnStart", unfollowed := true, recurses := true, apart := false }
def FnStartSaid : Prop := fnStartRow.holds Try.pinned (OpenSpec.ofChange fnStartSpec)

/-- ITS FALSE NEIGHBOUR: 'it returns false'. Refute it at one input. -/
def fnStartWrong : ChangeSpec := { name := "fnStart", fn := fun _ => fun
  | [d] => { results := [.lit (.bool false)], args := [d] }
  | _ => none }
def FnStartWrongFalsely : Prop := fnStartRow.holds Try.pinned (OpenSpec.ofChange fnStartWrong)

/-- 'laws.FnEngineHash': WHATEVER THE INPUT: true; the input reads as it did. -/
def fnEngineHashSpec : ChangeSpec := { name := "fnEngineHash", fn := fun _ => fun
  | [d1, d2] => { results := [.lit (.bool true)], args := [d1, d2] }
  | _ => none }
def fnEngineHashRow : OpenClaim := { program := "ytnoenjociioffab", sum := "a390813ed4011e9de22e1b59cfbaff24b33e54e4ab54dee802cbcbef25ae0863", func := "loop.example/replayverifier/laws.FnEngineHash", spec := "fnEngineHash", unfollowed := true, recurses := true, apart := false }
def FnEngineHashSaid : Prop := fnEngineHashRow.holds Try.pinned (OpenSpec.ofChange fnEngineHashSpec)

/-- ITS FALSE NEIGHBOUR: 'it returns false'. Refute it at one input. -/
def fnEngineHashWrong : ChangeSpec := { name := "fnEngineHash", fn := fun _ => fun
  | [d1, d2] => { results := [.lit (.bool false)], args := [d1, d2] }
  | _ => none }
def FnEngineHashWrongFalsely : Prop := fnEngineHashRow.holds Try.pinned (OpenSpec.ofChange fnEngineHashWrong)

/-- 'laws.FnEngineHashAt': WHATEVER THE INPUT: true; the input reads as it did. -/
def fnEngineHashAtSpec : ChangeSpec := { name := "fnEngineHashAt", fn := fun _ => fun
  | [d1, d2] => { results := [.lit (.bool true)], args := [d1, d2] }
  | _ => none }
def fnEngineHashAtRow : OpenClaim := { program := "ytnoenjociioffab", sum := "a390813ed4011e9de22e1b59cfbaff24b33e54e4ab54dee802cbcbef25ae0863", func := "loop.example/replayverifier/laws.FnEngineHashAt", spec := "fnEngineHashAt", unfollowed := true, recurses := true, apart := false }
def FnEngineHashAtSaid : Prop := fnEngineHashAtRow.holds Try.pinned (OpenSpec.ofChange fnEngineHashAtSpec)

/-- ITS FALSE NEIGHBOUR: 'it returns false'. Refute it at one input. -/
def fnEngineHashAtWrong : ChangeSpec := { name := "fnEngineHashAt", fn := fun _ => fun
  | [d1, d2] => { results := [.lit (.bool false)], args := [d1, d2] }
  | _ => none }
def FnEngineHashAtWrongFalsely : Prop := fnEngineHashAtRow.holds Try.pinned (OpenSpec.ofChange fnEngineHashAtWrong)

/-- 'laws.FnSpeed': WHATEVER THE INPUT: true; the input reads as it did. -/
def fnSpeedSpec : ChangeSpec := { name := "fnSpeed", fn := fun _ => fun
  | [d] => { results := [.lit (.bool true)], args := [d] }
  | _ => none }
def fnSpeedRow : OpenClaim := { program := "ytnoenjociioffab", sum := "a390813ed4011e9de22e1b59cfbaff24b33e54e4ab54dee802cbcbef25ae0863", func := "loop.example/replayverifier/laws.FnSpeed", spec := "fnSpeed", apart := false }
def FnSpeedSaid : Prop := fnSpeedRow.holds Try.pinned (OpenSpec.ofChange fnSpeedSpec)

/-- ITS FALSE NEIGHBOUR: 'it returns false'. Refute it at one input. -/
def fnSpeedWrong : ChangeSpec := { name := "fnSpeed", fn := fun _ => fun
  | [d] => { results := [.lit (.bool false)], args := [d] }
  | _ => none }
def FnSpeedWrongFalsely : Prop := fnSpeedRow.holds Try.pinned (OpenSpec.ofChange fnSpeedWrong)

/-- 'laws.FnExactEngineStart': WHATEVER THE INPUT: true; the input reads as it did. -/
def fnExactEngineStartSpec : ChangeSpec := { name := "fnExactEngineStart", fn := fun _ => fun
  | [d] => { results := [.lit (.bool true)], args := [d] }
  | _ => none }
def fnExactEngineStartRow : OpenClaim := { program := "ytnoenjociioffab", sum := "a390813ed4011e9de22e1b59cfbaff24b33e54e4ab54dee802cbcbef25ae0863", func := "loop.example/replayverifier/laws.FnExactEngineStart", spec := "fnExactEngineStart", unfollowed := true, recurses := true, apart := false }
def FnExactEngineStartSaid : Prop := fnExactEngineStartRow.holds Try.pinned (OpenSpec.ofChange fnExactEngineStartSpec)

/-- ITS FALSE NEIGHBOUR: 'it returns false'. Refute it at one input. -/
def fnExactEngineStartWrong : ChangeSpec := { name := "fnExactEngineStart", fn := fun _ => fun
  | [d] => { results := [.lit (.bool false)], args := [d] }
  | _ => none }
def FnExactEngineStartWrongFalsely : Prop := fnExactEngineStartRow.holds Try.pinned (OpenSpec.ofChange fnExactEngineStartWrong)

/-- 'laws.FnExactEngineValid': WHATEVER THE INPUT: true; the input reads as it did. -/
def fnExactEngineValidSpec : ChangeSpec := { name := "fnExactEngineValid", fn := fun _ => fun
  | [d1, d2] => { results := [.lit (.bool true)], args := [d1, d2] }
  | _ => none }
def fnExactEngineValidRow : OpenClaim := { program := "ytnoenjociioffab", sum := "a390813ed4011e9de22e1b59cfbaff24b33e54e4ab54dee802cbcbef25ae0863", func := "loop.example/replayverifier/laws.FnExactEngineValid", spec := "fnExactEngineValid", unfollowed := true, recurses := true, apart := false }
def FnExactEngineValidSaid : Prop := fnExactEngineValidRow.holds Try.pinned (OpenSpec.ofChange fnExactEngineValidSpec)

/-- ITS FALSE NEIGHBOUR: 'it returns false'. Refute it at one input. -/
def fnExactEngineValidWrong : ChangeSpec := { name := "fnExactEngineValid", fn := fun _ => fun
  | [d1, d2] => { results := [.lit (.bool false)], args := [d1, d2] }
  | _ => none }
def FnExactEngineValidWrongFalsely : Prop := fnExactEngineValidRow.holds Try.pinned (OpenSpec.ofChange fnExactEngineValidWrong)

/-- 'laws.FnExactEngineHash': WHATEVER THE INPUT: true; the input reads as it did. -/
def fnExactEngineHashSpec : ChangeSpec := { name := "fnExactEngineHash", fn := fun _ => fun
  | [d] => { results := [.lit (.bool true)], args := [d] }
  | _ => none }
def fnExactEngineHashRow : OpenClaim := { program := "ytnoenjociioffab", sum := "a390813ed4011e9de22e1b59cfbaff24b33e54e4ab54dee802cbcbef25ae0863", func := "loop.example/replayverifier/laws.FnExactEngineHash", spec := "fnExactEngineHash", unfollowed := true, recurses := true, apart := false }
def FnExactEngineHashSaid : Prop := fnExactEngineHashRow.holds Try.pinned (OpenSpec.ofChange fnExactEngineHashSpec)

/-- ITS FALSE NEIGHBOUR: 'it returns false'. Refute it at one input. -/
def fnExactEngineHashWrong : ChangeSpec := { name := "fnExactEngineHash", fn := fun _ => fun
  | [d] => { results := [.lit (.bool false)], args := [d] }
  | _ => none }
def FnExactEngineHashWrongFalsely : Prop := fnExactEngineHashRow.holds Try.pinned (OpenSpec.ofChange fnExactEngineHashWrong)

/-- 'laws.FnExactEngineSpeed': WHATEVER THE INPUT: true; the input reads as it did. -/
def fnExactEngineSpeedSpec : ChangeSpec := { name := "fnExactEngineSpeed", fn := fun _ => fun
  | [d] => { results := [.lit (.bool true)], args := [d] }
  | _ => none }
def fnExactEngineSpeedRow : OpenClaim := { program := "ytnoenjociioffab", sum := "a390813ed4011e9de22e1b59cfbaff24b33e54e4ab54dee802cbcbef25ae0863", func := "loop.example/replayverifier/laws.FnExactEngineSpeed", spec := "fnExactEngineSpeed", apart := false }
def FnExactEngineSpeedSaid : Prop := fnExactEngineSpeedRow.holds Try.pinned (OpenSpec.ofChange fnExactEngineSpeedSpec)

/-- ITS FALSE NEIGHBOUR: 'it returns false'. Refute it at one input. -/
def fnExactEngineSpeedWrong : ChangeSpec := { name := "fnExactEngineSpeed", fn := fun _ => fun
  | [d] => { results := [.lit (.bool false)], args := [d] }
  | _ => none }
def FnExactEngineSpeedWrongFalsely : Prop := fnExactEngineSpeedRow.holds Try.pinned (OpenSpec.ofChange fnExactEngineSpeedWrong)

/- THE SECOND FORM. 'bulk': how many values and letters a reading holds, each counted each time it is reached (what is shared counts as often as it is met; a slice's spare places count too). A statement '..UptoSaid' is the law's where the arguments, and the package variables that the reading takes, are together of bulk at most 1048576: NARROWER than '..Said'. Prove '..Said' where nothing that the law and all that it calls make is longer than what came in: it says more and counts as full. Else prove '..UptoSaid'. A law counts once. -/
mutual
def uptoBulk {H : Type} : DataW H → Nat
  | .lit (.string bytes) => bytes.length + 1
  | .lit _ => 1
  | .nil => 1
  | .ptr d => uptoBulk d + 1
  | .slice elems spare => uptoBulkAll elems + uptoBulkAll spare + 1
  | .agg parts => uptoBulkAll parts + 1
  | .iface _ d => uptoBulk d + 1
  | .map entries => uptoBulkEntries entries + 1
  | .held _ => 1
def uptoBulkAll {H : Type} : List (DataW H) → Nat
  | [] => 0
  | d :: r => uptoBulk d + uptoBulkAll r
def uptoBulkEntries {H : Type} : List (Lit × DataW H) → Nat
  | [] => 0
  | x :: r => uptoBulkEntry x + uptoBulkEntries r
def uptoBulkEntry {H : Type} : Lit × DataW H → Nat
  | (.string bytes, d) => bytes.length + uptoBulk d + 1
  | (_, d) => uptoBulk d + 1
 end
def uptoSmall : (H : Type) → List (DataW H) → Bool := fun _ ds => decide (uptoBulkAll ds ≤ 1048576)
def OpenSpec.upto (s : _root_.Go.ChangeSpec) : _root_.Go.OpenSpec := { _root_.Go.OpenSpec.ofChange s with cond := some uptoSmall }

/-- 'laws.FnStart', WHERE WHAT IT READS IS OF BULK AT MOST 1048576: true; the input reads as it did. -/
def fnStartUptoRow : OpenClaim := { program := "ytnoenjociioffab", sum := "a390813ed4011e9de22e1b59cfbaff24b33e54e4ab54dee802cbcbef25ae0863", func := "loop.example/replayverifier/laws.FnStart", spec := "fnStart", unfollowed := true, recurses := true, apart := false, narrowed := true }
def FnStartUptoSaid : Prop := fnStartUptoRow.holds Try.pinned (OpenSpec.upto fnStartSpec)

/-- 'laws.FnEngineHash', WHERE WHAT IT READS IS OF BULK AT MOST 1048576: true; the input reads as it did. -/
def fnEngineHashUptoRow : OpenClaim := { program := "ytnoenjociioffab", sum := "a390813ed4011e9de22e1b59cfbaff24b33e54e4ab54dee802cbcbef25ae0863", func := "loop.example/replayverifier/laws.FnEngineHash", spec := "fnEngineHash", unfollowed := true, recurses := true, apart := false, narrowed := true }
def FnEngineHashUptoSaid : Prop := fnEngineHashUptoRow.holds Try.pinned (OpenSpec.upto fnEngineHashSpec)

/-- 'laws.FnEngineHashAt', WHERE WHAT IT READS IS OF BULK AT MOST 1048576: true; the input reads as it did. -/
def fnEngineHashAtUptoRow : OpenClaim := { program := "ytnoenjociioffab", sum := "a390813ed4011e9de22e1b59cfbaff24b33e54e4ab54dee802cbcbef25ae0863", func := "loop.example/replayverifier/laws.FnEngineHashAt", spec := "fnEngineHashAt", unfollowed := true, recurses := true, apart := false, narrowed := true }
def FnEngineHashAtUptoSaid : Prop := fnEngineHashAtUptoRow.holds Try.pinned (OpenSpec.upto fnEngineHashAtSpec)

/-- 'laws.FnSpeed', WHERE WHAT IT READS IS OF BULK AT MOST 1048576: true; the input reads as it did. -/
def fnSpeedUptoRow : OpenClaim := { program := "ytnoenjociioffab", sum := "a390813ed4011e9de22e1b59cfbaff24b33e54e4ab54dee802cbcbef25ae0863", func := "loop.example/replayverifier/laws.FnSpeed", spec := "fnSpeed", apart := false, narrowed := true }
def FnSpeedUptoSaid : Prop := fnSpeedUptoRow.holds Try.pinned (OpenSpec.upto fnSpeedSpec)

/-- 'laws.FnExactEngineStart', WHERE WHAT IT READS IS OF BULK AT MOST 1048576: true; the input reads as it did. -/
def fnExactEngineStartUptoRow : OpenClaim := { program := "ytnoenjociioffab", sum := "a390813ed4011e9de22e1b59cfbaff24b33e54e4ab54dee802cbcbef25ae0863", func := "loop.example/replayverifier/laws.FnExactEngineStart", spec := "fnExactEngineStart", unfollowed := true, recurses := true, apart := false, narrowed := true }
def FnExactEngineStartUptoSaid : Prop := fnExactEngineStartUptoRow.holds Try.pinned (OpenSpec.upto fnExactEngineStartSpec)

/-- 'laws.FnExactEngineValid', WHERE WHAT IT READS IS OF BULK AT MOST 1048576: true; the input reads as it did. -/
def fnExactEngineValidUptoRow : OpenClaim := { program := "ytnoenjociioffab", sum := "a390813ed4011e9de22e1b59cfbaff24b33e54e4ab54dee802cbcbef25ae0863", func := "loop.example/replayverifier/laws.FnExactEngineValid", spec := "fnExactEngineValid", unfollowed := true, recurses := true, apart := false, narrowed := true }
def FnExactEngineValidUptoSaid : Prop := fnExactEngineValidUptoRow.holds Try.pinned (OpenSpec.upto fnExactEngineValidSpec)

/-- 'laws.FnExactEngineHash', WHERE WHAT IT READS IS OF BULK AT MOST 1048576: true; the input reads as it did. -/
def fnExactEngineHashUptoRow : OpenClaim := { program := "ytnoenjociioffab", sum := "a390813ed4011e9de22e1b59cfbaff24b33e54e4ab54dee802cbcbef25ae0863", func := "loop.example/replayverifier/laws.FnExactEngineHash", spec := "fnExactEngineHash", unfollowed := true, recurses := true, apart := false, narrowed := true }
def FnExactEngineHashUptoSaid : Prop := fnExactEngineHashUptoRow.holds Try.pinned (OpenSpec.upto fnExactEngineHashSpec)

/-- 'laws.FnExactEngineSpeed', WHERE WHAT IT READS IS OF BULK AT MOST 1048576: true; the input reads as it did. -/
def fnExactEngineSpeedUptoRow : OpenClaim := { program := "ytnoenjociioffab", sum := "a390813ed4011e9de22e1b59cfbaff24b33e54e4ab54dee802cbcbef25ae0863", func := "loop.example/replayverifier/laws.FnExactEngineSpeed", spec := "fnExactEngineSpeed", apart := false, narrowed := true }
def FnExactEngineSpeedUptoSaid : Prop := fnExactEngineSpeedUptoRow.holds Try.pinned (OpenSpec.upto fnExactEngineSpeedSpec)

end Rows
end Go.Proofs.Ytnoenjociioffab
