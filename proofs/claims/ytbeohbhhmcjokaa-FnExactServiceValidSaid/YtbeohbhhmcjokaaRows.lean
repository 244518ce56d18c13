/-
  No cell of these rows narrows 'for every input' (looked for: loops, veiled, ifaces, maps, wideKeys, modest, calm, conditions, laid).
  DERIVED. THE GIVEN ROWS OF THIS SEAT. 7 by the template 'for every input the law returns true; each argument reads behind the call as it read before'; 0 by the template 'total and deterministic' (their statements: YtbeohbhhmcjokaaTotals.lean).
  GIVEN WITH THE SEED: the statements are not yours to turn. If you find one false, say at which input.
  Laid BY PROGRAM, IN A SANDBOX (cutbox-rows.mjs): the forced cells as the released guide's own fill.sh prints them over the translation 5da2316f15cec064… (all of the seat's roots in one cut). By AI agents, Wed Nov 11 2026. No macro, syntax, notation, axiom, sorry.
-/
import Derived.Test.YtbeohbhhmcjokaaChecked
import GoSem.Claim
import GoSem.ClaimJoined
import GoSem.ClaimMapViews
import Derived.JoinedTies
import Derived.KernelRfl
namespace Go.Proofs.Ytbeohbhhmcjokaa
/- THE CELL 'sum', in the pinned program and in every row, IS THE sha256 OF THE DUMP (.gsa) THAT YtbeohbhhmcjokaaProg.lean LOADS. Nothing in Lean hashes anything: it is a label: what it is worth is what the hold of that sum in a sandbox is worth. -/
noncomputable def Try.pinned : Pinned := { name := "ytbeohbhhmcjokaa", sum := "5da2316f15cec064960b63a6fba5970180c125607b6e8743e44164b1f1e9cfb3", checked := Try.checked }
namespace Rows
def none {H : Type} : Left H := { results := [], args := [] }

/-- 'laws.FnServiceNew': WHATEVER THE INPUT: true; the input reads as it did. -/
def fnServiceNewSpec : ChangeSpec := { name := "fnServiceNew", fn := fun _ => fun
  | [d] => { results := [.lit (.bool true)], args := [d] }
  | _ => none }
def fnServiceNewRow : OpenClaim := { program := "ytbeohbhhmcjokaa", sum := "5da2316f15cec064960b63a6fba5970180c125607b6e8743e44164b1f1e9cfb3", func := "loop.example/replayverifier/laws.FnServiceNew", spec := "fnServiceNew", unfollowed := true, recurses := true, apart := false }
def FnServiceNewSaid : Prop := fnServiceNewRow.holds Try.pinned (OpenSpec.ofChange fnServiceNewSpec)

/-- ITS FALSE NEIGHBOUR: 'it returns false'. Refute it at one input. -/
def fnServiceNewWrong : ChangeSpec := { name := "fnServiceNew", fn := fun _ => fun
  | [d] => { results := [.lit (.bool false)], args := [d] }
  | _ => none }
def FnServiceNewWrongFalsely : Prop := fnServiceNewRow.holds Try.pinned (OpenSpec.ofChange fnServiceNewWrong)

/-- 'laws.FnExactServiceNew': WHATEVER THE INPUT: true; the input reads as it did. -/
def fnExactServiceNewSpec : ChangeSpec := { name := "fnExactServiceNew", fn := fun _ => fun
  | [d] => { results := [.lit (.bool true)], args := [d] }
  | _ => none }
def fnExactServiceNewRow : OpenClaim := { program := "ytbeohbhhmcjokaa", sum := "5da2316f15cec064960b63a6fba5970180c125607b6e8743e44164b1f1e9cfb3", func := "loop.example/replayverifier/laws.FnExactServiceNew", spec := "fnExactServiceNew", apart := false }
def FnExactServiceNewSaid : Prop := fnExactServiceNewRow.holds Try.pinned (OpenSpec.ofChange fnExactServiceNewSpec)

/-- ITS FALSE NEIGHBOUR: 'it returns false'. Refute it at one input. -/
def fnExactServiceNewWrong : ChangeSpec := { name := "fnExactServiceNew", fn := fun _ => fun
  | [d] => { results := [.lit (.bool false)], args := [d] }
  | _ => none }
def FnExactServiceNewWrongFalsely : Prop := fnExactServiceNewRow.holds Try.pinned (OpenSpec.ofChange fnExactServiceNewWrong)

/-- 'laws.FnExactServiceValid': WHATEVER THE INPUT: true; the input reads as it did. -/
def fnExactServiceValidSpec : ChangeSpec := { name := "fnExactServiceValid", fn := fun _ => fun
  | [d] => { results := [.lit (.bool true)], args := [d] }
  | _ => none }
def fnExactServiceValidRow : OpenClaim := { program := "ytbeohbhhmcjokaa", sum := "5da2316f15cec064960b63a6fba5970180c125607b6e8743e44164b1f1e9cfb3", func := "loop.example/replayverifier/laws.FnExactServiceValid", spec := "fnExactServiceValid", unfollowed := true, recurses := true, apart := false }
def FnExactServiceValidSaid : Prop := fnExactServiceValidRow.holds Try.pinned (OpenSpec.ofChange fnExactServiceValidSpec)

/-- ITS FALSE NEIGHBOUR: 'it returns false'. Refute it at one input. -/
def fnExactServiceValidWrong : ChangeSpec := { name := "fnExactServiceValid", fn := fun _ => fun
  | [d] => { results := [.lit (.bool false)], args := [d] }
  | _ => none }
def FnExactServiceValidWrongFalsely : Prop := fnExactServiceValidRow.holds Try.pinned (OpenSpec.ofChange fnExactServiceValidWrong)

/-- 'laws.FnExactServiceLevel': WHATEVER THE INPUT: true; the input reads as it did. -/
def fnExactServiceLevelSpec : ChangeSpec := { name := "fnExactServiceLevel", fn := fun _ => fun
  | [d1, d2] => { results := [.lit (.bool true)], args := [d1, d2] }
  | _ => none }
def fnExactServiceLevelRow : OpenClaim := { program := "ytbeohbhhmcjokaa", sum := "5da2316f15cec064960b63a6fba5970180c125607b6e8743e44164b1f1e9cfb3", func := "loop.example/replayverifier/laws.FnExactServiceLevel", spec := "fnExactServiceLevel", inPlace := ["slices.overlaps[loop.example/replayverifier/impl.Track]"], unfollowed := true, recurses := true, apart := false }
def FnExactServiceLevelSaid : Prop := fnExactServiceLevelRow.holds Try.pinned (OpenSpec.ofChange fnExactServiceLevelSpec)

/-- ITS FALSE NEIGHBOUR: 'it returns false'. Refute it at one input. -/
def fnExactServiceLevelWrong : ChangeSpec := { name := "fnExactServiceLevel", fn := fun _ => fun
  | [d1, d2] => { results := [.lit (.bool false)], args := [d1, d2] }
  | _ => none }
def FnExactServiceLevelWrongFalsely : Prop := fnExactServiceLevelRow.holds Try.pinned (OpenSpec.ofChange fnExactServiceLevelWrong)

/-- 'laws.FnExactServiceKey': WHATEVER THE INPUT: true; the input reads as it did. -/
def fnExactServiceKeySpec : ChangeSpec := { name := "fnExactServiceKey", fn := fun _ => fun
  | [d1, d2, d3] => { results := [.lit (.bool true)], args := [d1, d2, d3] }
  | _ => none }
def fnExactServiceKeyRow : OpenClaim := { program := "ytbeohbhhmcjokaa", sum := "5da2316f15cec064960b63a6fba5970180c125607b6e8743e44164b1f1e9cfb3", func := "loop.example/replayverifier/laws.FnExactServiceKey", spec := "fnExactServiceKey", unfollowed := true, recurses := true, apart := false }
def FnExactServiceKeySaid : Prop := fnExactServiceKeyRow.holds Try.pinned (OpenSpec.ofChange fnExactServiceKeySpec)

/-- ITS FALSE NEIGHBOUR: 'it returns false'. Refute it at one input. -/
def fnExactServiceKeyWrong : ChangeSpec := { name := "fnExactServiceKey", fn := fun _ => fun
  | [d1, d2, d3] => { results := [.lit (.bool false)], args := [d1, d2, d3] }
  | _ => none }
def FnExactServiceKeyWrongFalsely : Prop := fnExactServiceKeyRow.holds Try.pinned (OpenSpec.ofChange fnExactServiceKeyWrong)

/-- 'laws.FnExactServiceRevoke': WHATEVER THE INPUT: true; the input reads as it did. -/
def fnExactServiceRevokeSpec : ChangeSpec := { name := "fnExactServiceRevoke", fn := fun _ => fun
  | [d1, d2] => { results := [.lit (.bool true)], args := [d1, d2] }
  | _ => none }
def fnExactServiceRevokeRow : OpenClaim := { program := "ytbeohbhhmcjokaa", sum := "5da2316f15cec064960b63a6fba5970180c125607b6e8743e44164b1f1e9cfb3", func := "loop.example/replayverifier/laws.FnExactServiceRevoke", spec := "fnExactServiceRevoke", unfollowed := true, recurses := true, apart := false }
def FnExactServiceRevokeSaid : Prop := fnExactServiceRevokeRow.holds Try.pinned (OpenSpec.ofChange fnExactServiceRevokeSpec)

/-- ITS FALSE NEIGHBOUR: 'it returns false'. Refute it at one input. -/
def fnExactServiceRevokeWrong : ChangeSpec := { name := "fnExactServiceRevoke", fn := fun _ => fun
  | [d1, d2] => { results := [.lit (.bool false)], args := [d1, d2] }
  | _ => none }
def FnExactServiceRevokeWrongFalsely : Prop := fnExactServiceRevokeRow.holds Try.pinned (OpenSpec.ofChange fnExactServiceRevokeWrong)

/-- 'laws.FnExactServiceTop': WHATEVER THE INPUT: true; the input reads as it did. -/
def fnExactServiceTopSpec : ChangeSpec := { name := "fnExactServiceTop", fn := fun _ => fun
  | [d1, d2] => { results := [.lit (.bool true)], args := [d1, d2] }
  | _ => none }
def fnExactServiceTopRow : OpenClaim := { program := "ytbeohbhhmcjokaa", sum := "5da2316f15cec064960b63a6fba5970180c125607b6e8743e44164b1f1e9cfb3", func := "loop.example/replayverifier/laws.FnExactServiceTop", spec := "fnExactServiceTop", unfollowed := true, recurses := true, apart := false }
def FnExactServiceTopSaid : Prop := fnExactServiceTopRow.holds Try.pinned (OpenSpec.ofChange fnExactServiceTopSpec)

/-- ITS FALSE NEIGHBOUR: 'it returns false'. Refute it at one input. -/
def fnExactServiceTopWrong : ChangeSpec := { name := "fnExactServiceTop", fn := fun _ => fun
  | [d1, d2] => { results := [.lit (.bool false)], args := [d1, d2] }
  | _ => none }
def FnExactServiceTopWrongFalsely : Prop := fnExactServiceTopRow.holds Try.pinned (OpenSpec.ofChange fnExactServiceTopWrong)

/- THE SECOND FORM. 'bulk': how many values and letters a reading holds, each counted each time it is reached (what is shared counts as often as it is met; a slice's spare places count too). A statement '..UptoSaid' is the law's where the arguments, and the package variables that the reading takes, are together of bulk at most 1048576: NARROWER than '..Said'. Prove '..Said' where nothing that the law and all that it calls make is longer than what came in: it says more and counts as full. Else prove '..UptoSaid'. A law counts once. -/
mutual
def uptoBulk {H : Type} : DataW H → Nat
  | .lit (.string bytes) => bytes.length + 1
  | .lit _ => 1
  | .nil => 1
  | .ptr d => uptoBulk d + 1
  | .slice elems spare => uptoBulkAll elems + uptoBulkAll spare + 1
  | .agg parts => uptoBulkAll parts + 1
  | .iface _ d => uptoBulk d + 1
  | .map entries => uptoBulkEntries entries + 1
  | .held _ => 1
def uptoBulkAll {H : Type} : List (DataW H) → Nat
  | [] => 0
  | d :: r => uptoBulk d + uptoBulkAll r
def uptoBulkEntries {H : Type} : List (Lit × DataW H) → Nat
  | [] => 0
  | x :: r => uptoBulkEntry x + uptoBulkEntries r
def uptoBulkEntry {H : Type} : Lit × DataW H → Nat
  | (.string bytes, d) => bytes.length + uptoBulk d + 1
  | (_, d) => uptoBulk d + 1
 end
def uptoSmall : (H : Type) → List (DataW H) → Bool := fun _ ds => decide (uptoBulkAll ds ≤ 1048576)
def OpenSpec.upto (s : _root_.Go.ChangeSpec) : _root_.Go.OpenSpec := { _root_.Go.OpenSpec.ofChange s with cond := some uptoSmall }

/-- 'laws.FnServiceNew', WHERE WHAT IT READS IS OF BULK AT MOST 1048576: true; the input reads as it did. -/
def fnServiceNewUptoRow : OpenClaim := { program := "ytbeohbhhmcjokaa", sum := "5da2316f15cec064960b63a6fba5970180c125607b6e8743e44164b1f1e9cfb3", func := "loop.example/replayverifier/laws.FnServiceNew", spec := "fnServiceNew", unfollowed := true, recurses := true, apart := false, narrowed := true }
def FnServiceNewUptoSaid : Prop := fnServiceNewUptoRow.holds Try.pinned (OpenSpec.upto fnServiceNewSpec)

/-- 'laws.FnExactServiceNew', WHERE WHAT IT READS IS OF BULK AT MOST 1048576: true; the input reads as it did. -/
def fnExactServiceNewUptoRow : OpenClaim := { program := "ytbeohbhhmcjokaa", sum := "5da2316f15cec064960b63a6fba5970180c125607b6e8743e44164b1f1e9cfb3", func := "loop.example/replayverifier/laws.FnExactServiceNew", spec := "fnExactServiceNew", apart := false, narrowed := true }
def FnExactServiceNewUptoSaid : Prop := fnExactServiceNewUptoRow.holds Try.pinned (OpenSpec.upto fnExactServiceNewSpec)

/-- 'laws.FnExactServiceValid', WHERE WHAT IT READS IS OF BULK AT MOST 1048576: true; the input reads as it did. -/
def fnExactServiceValidUptoRow : OpenClaim := { program := "ytbeohbhhmcjokaa", sum := "5da2316f15cec064960b63a6fba5970180c125607b6e8743e44164b1f1e9cfb3", func := "loop.example/replayverifier/laws.FnExactServiceValid", spec := "fnExactServiceValid", unfollowed := true, recurses := true, apart := false, narrowed := true }
def FnExactServiceValidUptoSaid : Prop := fnExactServiceValidUptoRow.holds Try.pinned (OpenSpec.upto fnExactServiceValidSpec)

/-- 'laws.FnExactServiceLevel', WHERE WHAT IT READS IS OF BULK AT MOST 1048576: true; the input reads as it did. -/
def fnExactServiceLevelUptoRow : OpenClaim := { program := "ytbeohbhhmcjokaa", sum := "5da2316f15cec064960b63a6fba5970180c125607b6e8743e44164b1f1e9cfb3", func := "loop.example/replayverifier/laws.FnExactServiceLevel", spec := "fnExactServiceLevel", inPlace := ["slices.overlaps[loop.example/replayverifier/impl.Track]"], unfollowed := true, recurses := true, apart := false, narrowed := true }
def FnExactServiceLevelUptoSaid : Prop := fnExactServiceLevelUptoRow.holds Try.pinned (OpenSpec.upto fnExactServiceLevelSpec)

/-- 'laws.FnExactServiceKey', WHERE WHAT IT READS IS OF BULK AT MOST 1048576: true; the input reads as it did. -/
def fnExactServiceKeyUptoRow : OpenClaim := { program := "ytbeohbhhmcjokaa", sum := "5da2316f15cec064960b63a6fba5970180c125607b6e8743e44164b1f1e9cfb3", func := "loop.example/replayverifier/laws.FnExactServiceKey", spec := "fnExactServiceKey", unfollowed := true, recurses := true, apart := false, narrowed := true }
def FnExactServiceKeyUptoSaid : Prop := fnExactServiceKeyUptoRow.holds Try.pinned (OpenSpec.upto fnExactServiceKeySpec)

/-- 'laws.FnExactServiceRevoke', WHERE WHAT IT READS IS OF BULK AT MOST 1048576: true; the input reads as it did. -/
def fnExactServiceRevokeUptoRow : OpenClaim := { program := "ytbeohbhhmcjokaa", sum := "5da2316f15cec064960b63a6fba5970180c125607b6e8743e44164b1f1e9cfb3", func := "loop.example/replayverifier/laws.FnExactServiceRevoke", spec := "fnExactServiceRevoke", unfollowed := true, recurses := true, apart := false, narrowed := true }
def FnExactServiceRevokeUptoSaid : Prop := fnExactServiceRevokeUptoRow.holds Try.pinned (OpenSpec.upto fnExactServiceRevokeSpec)

/-- 'laws.FnExactServiceTop', WHERE WHAT IT READS IS OF BULK AT MOST 1048576: true; the input reads as it did. -/
def fnExactServiceTopUptoRow : OpenClaim := { program := "ytbeohbhhmcjokaa", sum := "5da2316f15cec064960b63a6fba5970180c125607b6e8743e44164b1f1e9cfb3", func := "loop.example/replayverifier/laws.FnExactServiceTop", spec := "fnExactServiceTop", unfollowed := true, recurses := true, apart := false, narrowed := true }
def FnExactServiceTopUptoSaid : Prop := fnExactServiceTopUptoRow.holds Try.pinned (OpenSpec.upto fnExactServiceTopSpec)

end Rows
end Go.Proofs.Ytbeohbhhmcjokaa
