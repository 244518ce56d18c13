/-
  No cell of these rows narrows 'for every input' (looked for: loops, veiled, ifaces, maps, wideKeys, modest, calm, conditions, laid).
  DERIVED. THE GIVEN ROWS OF THIS SEAT. 6 by the template 'for every input the law returns true; each argument reads behind the call as it read before'; 0 by the template 'total and deterministic' (their statements: YtienbaikhliniaaTotals.lean).
  GIVEN WITH THE SEED: the statements are not yours to turn. If you find one false, say at which input.
  Laid BY PROGRAM, IN A SANDBOX (cutbox-rows.mjs): the forced cells as the released guide's own fill.sh prints them over the translation e31c37ff2e3735af… (all of the seat's roots in one cut). By AI agents, Wed Nov 11 2026. No macro, syntax, notation, axiom, sorry.
-/
import Derived.Test.YtienbaikhliniaaChecked
import GoSem.Claim
import GoSem.ClaimJoined
import GoSem.ClaimMapViews
import Derived.JoinedTies
import Derived.KernelRfl
namespace Go.Proofs.Ytienbaikhliniaa
/- THE CELL 'sum', in the pinned program and in every row, IS THE sha256 OF THE DUMP (.gsa) THAT YtienbaikhliniaaProg.lean LOADS. Nothing in Lean hashes anything: it is a label: what it is worth is what the hold of that sum in a sandbox is worth. -/
noncomputable def Try.pinned : Pinned := { name := "ytienbaikhliniaa", sum := "e31c37ff2e3735afa1d8418e517378abc40e82069d96b892a7b6c22205b6e76b", checked := Try.checked }
namespace Rows
def none {H : Type} : Left H := { results := [], args := [] }

/-- 'laws.FnTag': WHATEVER THE INPUT: true; the input reads as it did. -/
def fnTagSpec : ChangeSpec := { name := "fnTag", fn := fun _ => fun
  | [d1, d2] => { results := [.lit (.bool true)], args := [d1, d2] }
  | _ => none }
def fnTagRow : OpenClaim := { program := "ytienbaikhliniaa", sum := "e31c37ff2e3735afa1d8418e517378abc40e82069d96b892a7b6c22205b6e76b", func := "loop.example/replayverifier/laws.FnTag", spec := "fnTag", unfollowed := true, recurses := true, apart := false }
def FnTagSaid : Prop := fnTagRow.holds Try.pinned (OpenSpec.ofChange fnTagSpec)

/-- ITS FALSE NEIGHBOUR: 'it returns false'. Refute it at one input. -/
def fnTagWrong : ChangeSpec := { name := "fnTag", fn := fun _ => fun
  | [d1, d2] => { results := [.lit (.bool false)], args := [d1, d2] }
  | _ => none }
def FnTagWrongFalsely : Prop := fnTagRow.holds Try.pinned (OpenSpec.ofChange fnTagWrong)

/-- 'laws.FnTagChange': WHATEVER THE INPUT: true; the input reads as it did. -/
def fnTagChangeSpec : ChangeSpec := { name := "fnTagChange", fn := fun _ => fun
  | [d1, d2] => { results := [.lit (.bool true)], args := [d1, d2] }
  | _ => none }
def fnTagChangeRow : OpenClaim := { program := "ytienbaikhliniaa", sum := "e31c37ff2e3735afa1d8418e517378abc40e82069d96b892a7b6c22205b6e76b", func := "loop.example/replayverifier/laws.FnTagChange", spec := "fnTagChange", unfollowed := true, recurses := true, apart := false }
def FnTagChangeSaid : Prop := fnTagChangeRow.holds Try.pinned (OpenSpec.ofChange fnTagChangeSpec)

/-- ITS FALSE NEIGHBOUR: 'it returns false'. Refute it at one input. -/
def fnTagChangeWrong : ChangeSpec := { name := "fnTagChange", fn := fun _ => fun
  | [d1, d2] => { results := [.lit (.bool false)], args := [d1, d2] }
  | _ => none }
def FnTagChangeWrongFalsely : Prop := fnTagChangeRow.holds Try.pinned (OpenSpec.ofChange fnTagChangeWrong)

/-- 'laws.FnTagInvalid': WHATEVER THE INPUT: true; the input reads as it did. -/
def fnTagInvalidSpec : ChangeSpec := { name := "fnTagInvalid", fn := fun _ => fun
  | [d] => { results := [.lit (.bool true)], args := [d] }
  | _ => none }
def fnTagInvalidRow : OpenClaim := { program := "ytienbaikhliniaa", sum := "e31c37ff2e3735afa1d8418e517378abc40e82069d96b892a7b6c22205b6e76b", func := "loop.example/replayverifier/laws.FnTagInvalid", spec := "fnTagInvalid", unfollowed := true, recurses := true, apart := false }
def FnTagInvalidSaid : Prop := fnTagInvalidRow.holds Try.pinned (OpenSpec.ofChange fnTagInvalidSpec)

/-- ITS FALSE NEIGHBOUR: 'it returns false'. Refute it at one input. -/
def fnTagInvalidWrong : ChangeSpec := { name := "fnTagInvalid", fn := fun _ => fun
  | [d] => { results := [.lit (.bool false)], args := [d] }
  | _ => none }
def FnTagInvalidWrongFalsely : Prop := fnTagInvalidRow.holds Try.pinned (OpenSpec.ofChange fnTagInvalidWrong)

/-- 'laws.FnTagKey': WHATEVER THE INPUT: true; the input reads as it did. -/
def fnTagKeySpec : ChangeSpec := { name := "fnTagKey", fn := fun _ => fun
  | [d1, d2] => { results := [.lit (.bool true)], args := [d1, d2] }
  | _ => none }
def fnTagKeyRow : OpenClaim := { program := "ytienbaikhliniaa", sum := "e31c37ff2e3735afa1d8418e517378abc40e82069d96b892a7b6c22205b6e76b", func := "loop.example/replayverifier/laws.FnTagKey", spec := "fnTagKey", unfollowed := true, recurses := true, apart := false }
def FnTagKeySaid : Prop := fnTagKeyRow.holds Try.pinned (OpenSpec.ofChange fnTagKeySpec)

/-- ITS FALSE NEIGHBOUR: 'it returns false'. Refute it at one input. -/
def fnTagKeyWrong : ChangeSpec := { name := "fnTagKey", fn := fun _ => fun
  | [d1, d2] => { results := [.lit (.bool false)], args := [d1, d2] }
  | _ => none }
def FnTagKeyWrongFalsely : Prop := fnTagKeyRow.holds Try.pinned (OpenSpec.ofChange fnTagKeyWrong)

/-- 'laws.FnExactTagOf': WHATEVER THE INPUT: true; the input reads as it did. -/
def fnExactTagOfSpec : ChangeSpec := { name := "fnExactTagOf", fn := fun _ => fun
  | [d1, d2] => { results := [.lit (.bool true)], args := [d1, d2] }
  | _ => none }
def fnExactTagOfRow : OpenClaim := { program := "ytienbaikhliniaa", sum := "e31c37ff2e3735afa1d8418e517378abc40e82069d96b892a7b6c22205b6e76b", func := "loop.example/replayverifier/laws.FnExactTagOf", spec := "fnExactTagOf", unfollowed := true, recurses := true, apart := false }
def FnExactTagOfSaid : Prop := fnExactTagOfRow.holds Try.pinned (OpenSpec.ofChange fnExactTagOfSpec)

/-- ITS FALSE NEIGHBOUR: 'it returns false'. Refute it at one input. -/
def fnExactTagOfWrong : ChangeSpec := { name := "fnExactTagOf", fn := fun _ => fun
  | [d1, d2] => { results := [.lit (.bool false)], args := [d1, d2] }
  | _ => none }
def FnExactTagOfWrongFalsely : Prop := fnExactTagOfRow.holds Try.pinned (OpenSpec.ofChange fnExactTagOfWrong)

/-- 'laws.FnExactTagCheck': WHATEVER THE INPUT: true; the input reads as it did. -/
def fnExactTagCheckSpec : ChangeSpec := { name := "fnExactTagCheck", fn := fun _ => fun
  | [d1, d2, d3] => { results := [.lit (.bool true)], args := [d1, d2, d3] }
  | _ => none }
def fnExactTagCheckRow : OpenClaim := { program := "ytienbaikhliniaa", sum := "e31c37ff2e3735afa1d8418e517378abc40e82069d96b892a7b6c22205b6e76b", func := "loop.example/replayverifier/laws.FnExactTagCheck", spec := "fnExactTagCheck", unfollowed := true, recurses := true, apart := false }
def FnExactTagCheckSaid : Prop := fnExactTagCheckRow.holds Try.pinned (OpenSpec.ofChange fnExactTagCheckSpec)

/-- ITS FALSE NEIGHBOUR: 'it returns false'. Refute it at one input. -/
def fnExactTagCheckWrong : ChangeSpec := { name := "fnExactTagCheck", fn := fun _ => fun
  | [d1, d2, d3] => { results := [.lit (.bool false)], args := [d1, d2, d3] }
  | _ => none }
def FnExactTagCheckWrongFalsely : Prop := fnExactTagCheckRow.holds Try.pinned (OpenSpec.ofChange fnExactTagCheckWrong)

/- THE SECOND FORM. 'bulk': how many values and letters a reading holds, each counted each time it is reached (what is shared counts as often as it is met; a slice's spare places count too). A statement '..UptoSaid' is the law's where the arguments, and the package variables that the reading takes, are together of bulk at most 1048576: NARROWER than '..Said'. Prove '..Said' where nothing that the law and all that it calls make is longer than what came in: it says more and counts as full. Else prove '..UptoSaid'. A law counts once. -/
mutual
def uptoBulk {H : Type} : DataW H → Nat
  | .lit (.string bytes) => bytes.length + 1
  | .lit _ => 1
  | .nil => 1
  | .ptr d => uptoBulk d + 1
  | .slice elems spare => uptoBulkAll elems + uptoBulkAll spare + 1
  | .agg parts => uptoBulkAll parts + 1
  | .iface _ d => uptoBulk d + 1
  | .map entries => uptoBulkEntries entries + 1
  | .held _ => 1
def uptoBulkAll {H : Type} : List (DataW H) → Nat
  | [] => 0
  | d :: r => uptoBulk d + uptoBulkAll r
def uptoBulkEntries {H : Type} : List (Lit × DataW H) → Nat
  | [] => 0
  | x :: r => uptoBulkEntry x + uptoBulkEntries r
def uptoBulkEntry {H : Type} : Lit × DataW H → Nat
  | (.string bytes, d) => bytes.length + uptoBulk d + 1
  | (_, d) => uptoBulk d + 1
 end
def uptoSmall : (H : Type) → List (DataW H) → Bool := fun _ ds => decide (uptoBulkAll ds ≤ 1048576)
def OpenSpec.upto (s : _root_.Go.ChangeSpec) : _root_.Go.OpenSpec := { _root_.Go.OpenSpec.ofChange s with cond := some uptoSmall }

/-- 'laws.FnTag', WHERE WHAT IT READS IS OF BULK AT MOST 1048576: true; the input reads as it did. -/
def fnTagUptoRow : OpenClaim := { program := "ytienbaikhliniaa", sum := "e31c37ff2e3735afa1d8418e517378abc40e82069d96b892a7b6c22205b6e76b", func := "loop.example/replayverifier/laws.FnTag", spec := "fnTag", unfollowed := true, recurses := true, apart := false, narrowed := true }
def FnTagUptoSaid : Prop := fnTagUptoRow.holds Try.pinned (OpenSpec.upto fnTagSpec)

/-- 'laws.FnTagChange', WHERE WHAT IT READS IS OF BULK AT MOST 1048576: true; the input reads as it did. -/
def fnTagChangeUptoRow : OpenClaim := { program := "ytienbaikhliniaa", sum := "e31c37ff2e3735afa1d8418e517378abc40e82069d96b892a7b6c22205b6e76b", func := "loop.example/replayverifier/laws.FnTagChange", spec := "fnTagChange", unfollowed := true, recurses := true, apart := false, narrowed := true }
def FnTagChangeUptoSaid : Prop := fnTagChangeUptoRow.holds Try.pinned (OpenSpec.upto fnTagChangeSpec)

/-- 'laws.FnTagInvalid', WHERE WHAT IT READS IS OF BULK AT MOST 1048576: true; the input reads as it did. -/
def fnTagInvalidUptoRow : OpenClaim := { program := "ytienbaikhliniaa", sum := "e31c37ff2e3735afa1d8418e517378abc40e82069d96b892a7b6c22205b6e76b", func := "loop.example/replayverifier/laws.FnTagInvalid", spec := "fnTagInvalid", unfollowed := true, recurses := true, apart := false, narrowed := true }
def FnTagInvalidUptoSaid : Prop := fnTagInvalidUptoRow.holds Try.pinned (OpenSpec.upto fnTagInvalidSpec)

/-- 'laws.FnTagKey', WHERE WHAT IT READS IS OF BULK AT MOST 1048576: true; the input reads as it did. -/
def fnTagKeyUptoRow : OpenClaim := { program := "ytienbaikhliniaa", sum := "e31c37ff2e3735afa1d8418e517378abc40e82069d96b892a7b6c22205b6e76b", func := "loop.example/replayverifier/laws.FnTagKey", spec := "fnTagKey", unfollowed := true, recurses := true, apart := false, narrowed := true }
def FnTagKeyUptoSaid : Prop := fnTagKeyUptoRow.holds Try.pinned (OpenSpec.upto fnTagKeySpec)

/-- 'laws.FnExactTagOf', WHERE WHAT IT READS IS OF BULK AT MOST 1048576: true; the input reads as it did. -/
def fnExactTagOfUptoRow : OpenClaim := { program := "ytienbaikhliniaa", sum := "e31c37ff2e3735afa1d8418e517378abc40e82069d96b892a7b6c22205b6e76b", func := "loop.example/replayverifier/laws.FnExactTagOf", spec := "fnExactTagOf", unfollowed := true, recurses := true, apart := false, narrowed := true }
def FnExactTagOfUptoSaid : Prop := fnExactTagOfUptoRow.holds Try.pinned (OpenSpec.upto fnExactTagOfSpec)

/-- 'laws.FnExactTagCheck', WHERE WHAT IT READS IS OF BULK AT MOST 1048576: true; the input reads as it did. -/
def fnExactTagCheckUptoRow : OpenClaim := { program := "ytienbaikhliniaa", sum := "e31c37ff2e3735afa1d8418e517378abc40e82069d96b892a7b6c22205b6e76b", func := "loop.example/replayverifier/laws.FnExactTagCheck", spec := "fnExactTagCheck", unfollowed := true, recurses := true, apart := false, narrowed := true }
def FnExactTagCheckUptoSaid : Prop := fnExactTagCheckUptoRow.holds Try.pinned (OpenSpec.upto fnExactTagCheckSpec)

end Rows
end Go.Proofs.Ytienbaikhliniaa
