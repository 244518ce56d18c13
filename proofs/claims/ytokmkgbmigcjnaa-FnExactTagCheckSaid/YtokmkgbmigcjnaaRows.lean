/-
  No cell of these rows narrows 'for every input' (looked for: loops, veiled, ifaces, maps, wideKeys, modest, calm, conditions, laid).
  DERIVED. THE GIVEN ROWS OF THIS SEAT. 11 by the template 'for every input the law returns true; each argument reads behind the call as it read before'; 0 by the template 'total and deterministic' (their statements: YtokmkgbmigcjnaaTotals.lean).
  GIVEN WITH THE SEED: the statements are not yours to turn. If you find one false, say at which input.
  Laid BY PROGRAM, IN A SANDBOX (cutbox-rows.mjs): the forced cells as the released guide's own fill.sh prints them over the translation 1f2f1a9e7622aaa6… (all of the seat's roots in one cut). By AI agents, Wed Nov 11 2026. No macro, syntax, notation, axiom, sorry.
-/
import Derived.Test.YtokmkgbmigcjnaaChecked
import GoSem.Claim
import GoSem.ClaimJoined
import GoSem.ClaimMapViews
import Derived.JoinedTies
import Derived.KernelRfl
namespace Go.Proofs.Ytokmkgbmigcjnaa
/- THE CELL 'sum', in the pinned program and in every row, IS THE sha256 OF THE DUMP (.gsa) THAT YtokmkgbmigcjnaaProg.lean LOADS. Nothing in Lean hashes anything: it is a label: what it is worth is what the hold of that sum in a sandbox is worth. -/
noncomputable def Try.pinned : Pinned := { name := "ytokmkgbmigcjnaa", sum := "1f2f1a9e7622aaa63d73aa7ee9559c0db2988dfee3f889ae4bdae110c8413247", checked := Try.checked }
namespace Rows
def none {H : Type} : Left H := { results := [], args := [] }

/-- 'laws.FnHashChange': WHATEVER THE INPUT: true; the input reads as it did. -/
def fnHashChangeSpec : ChangeSpec := { name := "fnHashChange", fn := fun _ => fun
  | [d1, d2] => { results := [.lit (.bool true)], args := [d1, d2] }
  | _ => none }
def fnHashChangeRow : OpenClaim := { program := "ytokmkgbmigcjnaa", sum := "1f2f1a9e7622aaa63d73aa7ee9559c0db2988dfee3f889ae4bdae110c8413247", func := "loop.example/replayverifier/laws.FnHashChange", spec := "fnHashChange", unfollowed := true, recurses := true, apart := false }
def FnHashChangeSaid : Prop := fnHashChangeRow.holds Try.pinned (OpenSpec.ofChange fnHashChangeSpec)

/-- ITS FALSE NEIGHBOUR: 'it returns false'. Refute it at one input. -/
def fnHashChangeWrong : ChangeSpec := { name := "fnHashChange", fn := fun _ => fun
  | [d1, d2] => { results := [.lit (.bool false)], args := [d1, d2] }
  | _ => none }
def FnHashChangeWrongFalsely : Prop := fnHashChangeRow.holds Try.pinned (OpenSpec.ofChange fnHashChangeWrong)

/-- 'laws.FnHashNext': WHATEVER THE INPUT: true; the input reads as it did. -/
def fnHashNextSpec : ChangeSpec := { name := "fnHashNext", fn := fun _ => fun
  | [d1, d2] => { results := [.lit (.bool true)], args := [d1, d2] }
  | _ => none }
def fnHashNextRow : OpenClaim := { program := "ytokmkgbmigcjnaa", sum := "1f2f1a9e7622aaa63d73aa7ee9559c0db2988dfee3f889ae4bdae110c8413247", func := "loop.example/replayverifier/laws.FnHashNext", spec := "fnHashNext", unfollowed := true, recurses := true, apart := false }
def FnHashNextSaid : Prop := fnHashNextRow.holds Try.pinned (OpenSpec.ofChange fnHashNextSpec)

/-- ITS FALSE NEIGHBOUR: 'it returns false'. Refute it at one input. -/
def fnHashNextWrong : ChangeSpec := { name := "fnHashNext", fn := fun _ => fun
  | [d1, d2] => { results := [.lit (.bool false)], args := [d1, d2] }
  | _ => none }
def FnHashNextWrongFalsely : Prop := fnHashNextRow.holds Try.pinned (OpenSpec.ofChange fnHashNextWrong)

/-- 'laws.FnHashEmpty': WHATEVER THE INPUT: true; the input reads as it did. -/
def fnHashEmptySpec : ChangeSpec := { name := "fnHashEmpty", fn := fun _ => fun
  | [d] => { results := [.lit (.bool true)], args := [d] }
  | _ => none }
def fnHashEmptyRow : OpenClaim := { program := "ytokmkgbmigcjnaa", sum := "1f2f1a9e7622aaa63d73aa7ee9559c0db2988dfee3f889ae4bdae110c8413247", func := "loop.example/replayverifier/laws.FnHashEmpty", spec := "fnHashEmpty", unfollowed := true, recurses := true, apart := false }
def FnHashEmptySaid : Prop := fnHashEmptyRow.holds Try.pinned (OpenSpec.ofChange fnHashEmptySpec)

/-- ITS FALSE NEIGHBOUR: 'it returns false'. Refute it at one input. -/
def fnHashEmptyWrong : ChangeSpec := { name := "fnHashEmpty", fn := fun _ => fun
  | [d] => { results := [.lit (.bool false)], args := [d] }
  | _ => none }
def FnHashEmptyWrongFalsely : Prop := fnHashEmptyRow.holds Try.pinned (OpenSpec.ofChange fnHashEmptyWrong)

/-- 'laws.FnTag': WHATEVER THE INPUT: true; the input reads as it did. -/
def fnTagSpec : ChangeSpec := { name := "fnTag", fn := fun _ => fun
  | [d1, d2] => { results := [.lit (.bool true)], args := [d1, d2] }
  | _ => none }
def fnTagRow : OpenClaim := { program := "ytokmkgbmigcjnaa", sum := "1f2f1a9e7622aaa63d73aa7ee9559c0db2988dfee3f889ae4bdae110c8413247", func := "loop.example/replayverifier/laws.FnTag", spec := "fnTag", unfollowed := true, recurses := true, apart := false }
def FnTagSaid : Prop := fnTagRow.holds Try.pinned (OpenSpec.ofChange fnTagSpec)

/-- ITS FALSE NEIGHBOUR: 'it returns false'. Refute it at one input. -/
def fnTagWrong : ChangeSpec := { name := "fnTag", fn := fun _ => fun
  | [d1, d2] => { results := [.lit (.bool false)], args := [d1, d2] }
  | _ => none }
def FnTagWrongFalsely : Prop := fnTagRow.holds Try.pinned (OpenSpec.ofChange fnTagWrong)

/-- 'laws.FnTagChange': WHATEVER THE INPUT: true; the input reads as it did. -/
def fnTagChangeSpec : ChangeSpec := { name := "fnTagChange", fn := fun _ => fun
  | [d1, d2] => { results := [.lit (.bool true)], args := [d1, d2] }
  | _ => none }
def fnTagChangeRow : OpenClaim := { program := "ytokmkgbmigcjnaa", sum := "1f2f1a9e7622aaa63d73aa7ee9559c0db2988dfee3f889ae4bdae110c8413247", func := "loop.example/replayverifier/laws.FnTagChange", spec := "fnTagChange", unfollowed := true, recurses := true, apart := false }
def FnTagChangeSaid : Prop := fnTagChangeRow.holds Try.pinned (OpenSpec.ofChange fnTagChangeSpec)

/-- ITS FALSE NEIGHBOUR: 'it returns false'. Refute it at one input. -/
def fnTagChangeWrong : ChangeSpec := { name := "fnTagChange", fn := fun _ => fun
  | [d1, d2] => { results := [.lit (.bool false)], args := [d1, d2] }
  | _ => none }
def FnTagChangeWrongFalsely : Prop := fnTagChangeRow.holds Try.pinned (OpenSpec.ofChange fnTagChangeWrong)

/-- 'laws.FnTagInvalid': WHATEVER THE INPUT: true; the input reads as it did. -/
def fnTagInvalidSpec : ChangeSpec := { name := "fnTagInvalid", fn := fun _ => fun
  | [d] => { results := [.lit (.bool true)], args := [d] }
  | _ => none }
def fnTagInvalidRow : OpenClaim := { program := "ytokmkgbmigcjnaa", sum := "1f2f1a9e7622aaa63d73aa7ee9559c0db2988dfee3f889ae4bdae110c8413247", func := "loop.example/replayverifier/laws.FnTagInvalid", spec := "fnTagInvalid", unfollowed := true, recurses := true, apart := false }
def FnTagInvalidSaid : Prop := fnTagInvalidRow.holds Try.pinned (OpenSpec.ofChange fnTagInvalidSpec)

/-- ITS FALSE NEIGHBOUR: 'it returns false'. Refute it at one input. -/
def fnTagInvalidWrong : ChangeSpec := { name := "fnTagInvalid", fn := fun _ => fun
  | [d] => { results := [.lit (.bool false)], args := [d] }
  | _ => none }
def FnTagInvalidWrongFalsely : Prop := fnTagInvalidRow.holds Try.pinned (OpenSpec.ofChange fnTagInvalidWrong)

/-- 'laws.FnHashOrder': WHATEVER THE INPUT: true; the input reads as it did. -/
def fnHashOrderSpec : ChangeSpec := { name := "fnHashOrder", fn := fun _ => fun
  | [d1, d2] => { results := [.lit (.bool true)], args := [d1, d2] }
  | _ => none }
def fnHashOrderRow : OpenClaim := { program := "ytokmkgbmigcjnaa", sum := "1f2f1a9e7622aaa63d73aa7ee9559c0db2988dfee3f889ae4bdae110c8413247", func := "loop.example/replayverifier/laws.FnHashOrder", spec := "fnHashOrder", unfollowed := true, recurses := true, apart := false }
def FnHashOrderSaid : Prop := fnHashOrderRow.holds Try.pinned (OpenSpec.ofChange fnHashOrderSpec)

/-- ITS FALSE NEIGHBOUR: 'it returns false'. Refute it at one input. -/
def fnHashOrderWrong : ChangeSpec := { name := "fnHashOrder", fn := fun _ => fun
  | [d1, d2] => { results := [.lit (.bool false)], args := [d1, d2] }
  | _ => none }
def FnHashOrderWrongFalsely : Prop := fnHashOrderRow.holds Try.pinned (OpenSpec.ofChange fnHashOrderWrong)

/-- 'laws.FnTagKey': WHATEVER THE INPUT: true; the input reads as it did. -/
def fnTagKeySpec : ChangeSpec := { name := "fnTagKey", fn := fun _ => fun
  | [d1, d2] => { results := [.lit (.bool true)], args := [d1, d2] }
  | _ => none }
def fnTagKeyRow : OpenClaim := { program := "ytokmkgbmigcjnaa", sum := "1f2f1a9e7622aaa63d73aa7ee9559c0db2988dfee3f889ae4bdae110c8413247", func := "loop.example/replayverifier/laws.FnTagKey", spec := "fnTagKey", unfollowed := true, recurses := true, apart := false }
def FnTagKeySaid : Prop := fnTagKeyRow.holds Try.pinned (OpenSpec.ofChange fnTagKeySpec)

/-- ITS FALSE NEIGHBOUR: 'it returns false'. Refute it at one input. -/
def fnTagKeyWrong : ChangeSpec := { name := "fnTagKey", fn := fun _ => fun
  | [d1, d2] => { results := [.lit (.bool false)], args := [d1, d2] }
  | _ => none }
def FnTagKeyWrongFalsely : Prop := fnTagKeyRow.holds Try.pinned (OpenSpec.ofChange fnTagKeyWrong)

/-- 'laws.FnExactHashInts': WHATEVER THE INPUT: true; the input reads as it did. -/
def fnExactHashIntsSpec : ChangeSpec := { name := "fnExactHashInts", fn := fun _ => fun
  | [d] => { results := [.lit (.bool true)], args := [d] }
  | _ => none }
def fnExactHashIntsRow : OpenClaim := { program := "ytokmkgbmigcjnaa", sum := "1f2f1a9e7622aaa63d73aa7ee9559c0db2988dfee3f889ae4bdae110c8413247", func := "loop.example/replayverifier/laws.FnExactHashInts", spec := "fnExactHashInts", unfollowed := true, recurses := true, apart := false }
def FnExactHashIntsSaid : Prop := fnExactHashIntsRow.holds Try.pinned (OpenSpec.ofChange fnExactHashIntsSpec)

/-- ITS FALSE NEIGHBOUR: 'it returns false'. Refute it at one input. -/
def fnExactHashIntsWrong : ChangeSpec := { name := "fnExactHashInts", fn := fun _ => fun
  | [d] => { results := [.lit (.bool false)], args := [d] }
  | _ => none }
def FnExactHashIntsWrongFalsely : Prop := fnExactHashIntsRow.holds Try.pinned (OpenSpec.ofChange fnExactHashIntsWrong)

/-- 'laws.FnExactTagOf': WHATEVER THE INPUT: true; the input reads as it did. -/
def fnExactTagOfSpec : ChangeSpec := { name := "fnExactTagOf", fn := fun _ => fun
  | [d1, d2] => { results := [.lit (.bool true)], args := [d1, d2] }
  | _ => none }
def fnExactTagOfRow : OpenClaim := { program := "ytokmkgbmigcjnaa", sum := "1f2f1a9e7622aaa63d73aa7ee9559c0db2988dfee3f889ae4bdae110c8413247", func := "loop.example/replayverifier/laws.FnExactTagOf", spec := "fnExactTagOf", unfollowed := true, recurses := true, apart := false }
def FnExactTagOfSaid : Prop := fnExactTagOfRow.holds Try.pinned (OpenSpec.ofChange fnExactTagOfSpec)

/-- ITS FALSE NEIGHBOUR: 'it returns false'. Refute it at one input. -/
def fnExactTagOfWrong : ChangeSpec := { name := "fnExactTagOf", fn := fun _ => fun
  | [d1, d2] => { results := [.lit (.bool false)], args := [d1, d2] }
  | _ => none }
def FnExactTagOfWrongFalsely : Prop := fnExactTagOfRow.holds Try.pinned (OpenSpec.ofChange fnExactTagOfWrong)

/-- 'laws.FnExactTagCheck': WHATEVER THE INPUT: true; the input reads as it did. -/
def fnExactTagCheckSpec : ChangeSpec := { name := "fnExactTagCheck", fn := fun _ => fun
  | [d1, d2, d3] => { results := [.lit (.bool true)], args := [d1, d2, d3] }
  | _ => none }
def fnExactTagCheckRow : OpenClaim := { program := "ytokmkgbmigcjnaa", sum := "1f2f1a9e7622aaa63d73aa7ee9559c0db2988dfee3f889ae4bdae110c8413247", func := "loop.example/replayverifier/laws.FnExactTagCheck", spec := "fnExactTagCheck", unfollowed := true, recurses := true, apart := false }
def FnExactTagCheckSaid : Prop := fnExactTagCheckRow.holds Try.pinned (OpenSpec.ofChange fnExactTagCheckSpec)

/-- ITS FALSE NEIGHBOUR: 'it returns false'. Refute it at one input. -/
def fnExactTagCheckWrong : ChangeSpec := { name := "fnExactTagCheck", fn := fun _ => fun
  | [d1, d2, d3] => { results := [.lit (.bool false)], args := [d1, d2, d3] }
  | _ => none }
def FnExactTagCheckWrongFalsely : Prop := fnExactTagCheckRow.holds Try.pinned (OpenSpec.ofChange fnExactTagCheckWrong)

/- THE SECOND FORM. 'bulk': how many values and letters a reading holds, each counted each time it is reached (what is shared counts as often as it is met; a slice's spare places count too). A statement '..UptoSaid' is the law's where the arguments, and the package variables that the reading takes, are together of bulk at most 1048576: NARROWER than '..Said'. Prove '..Said' where nothing that the law and all that it calls make is longer than what came in: it says more and counts as full. Else prove '..UptoSaid'. A law counts once. -/
mutual
def uptoBulk {H : Type} : DataW H → Nat
  | .lit (.string bytes) => bytes.length + 1
  | .lit _ => 1
  | .nil => 1
  | .ptr d => uptoBulk d + 1
  | .slice elems spare => uptoBulkAll elems + uptoBulkAll spare + 1
  | .agg parts => uptoBulkAll parts + 1
  | .iface _ d => uptoBulk d + 1
  | .map entries => uptoBulkEntries entries + 1
  | .held _ => 1
def uptoBulkAll {H : Type} : List (DataW H) → Nat
  | [] => 0
  | d :: r => uptoBulk d + uptoBulkAll r
def uptoBulkEntries {H : Type} : List (Lit × DataW H) → Nat
  | [] => 0
  | x :: r => uptoBulkEntry x + uptoBulkEntries r
def uptoBulkEntry {H : Type} : Lit × DataW H → Nat
  | (.string bytes, d) => bytes.length + uptoBulk d + 1
  | (_, d) => uptoBulk d + 1
 end
def uptoSmall : (H : Type) → List (DataW H) → Bool := fun _ ds => decide (uptoBulkAll ds ≤ 1048576)
def OpenSpec.upto (s : _root_.Go.ChangeSpec) : _root_.Go.OpenSpec := { _root_.Go.OpenSpec.ofChange s with cond := some uptoSmall }

/-- 'laws.FnHashChange', WHERE WHAT IT READS IS OF BULK AT MOST 1048576: true; the input reads as it did. -/
def fnHashChangeUptoRow : OpenClaim := { program := "ytokmkgbmigcjnaa", sum := "1f2f1a9e7622aaa63d73aa7ee9559c0db2988dfee3f889ae4bdae110c8413247", func := "loop.example/replayverifier/laws.FnHashChange", spec := "fnHashChange", unfollowed := true, recurses := true, apart := false, narrowed := true }
def FnHashChangeUptoSaid : Prop := fnHashChangeUptoRow.holds Try.pinned (OpenSpec.upto fnHashChangeSpec)

/-- 'laws.FnHashNext', WHERE WHAT IT READS IS OF BULK AT MOST 1048576: true; the input reads as it did. -/
def fnHashNextUptoRow : OpenClaim := { program := "ytokmkgbmigcjnaa", sum := "1f2f1a9e7622aaa63d73aa7ee9559c0db2988dfee3f889ae4bdae110c8413247", func := "loop.example/replayverifier/laws.FnHashNext", spec := "fnHashNext", unfollowed := true, recurses := true, apart := false, narrowed := true }
def FnHashNextUptoSaid : Prop := fnHashNextUptoRow.holds Try.pinned (OpenSpec.upto fnHashNextSpec)

/-- 'laws.FnHashEmpty', WHERE WHAT IT READS IS OF BULK AT MOST 1048576: true; the input reads as it did. -/
def fnHashEmptyUptoRow : OpenClaim := { program := "ytokmkgbmigcjnaa", sum := "1f2f1a9e7622aaa63d73aa7ee9559c0db2988dfee3f889ae4bdae110c8413247", func := "loop.example/replayverifier/laws.FnHashEmpty", spec := "fnHashEmpty", unfollowed := true, recurses := true, apart := false, narrowed := true }
def FnHashEmptyUptoSaid : Prop := fnHashEmptyUptoRow.holds Try.pinned (OpenSpec.upto fnHashEmptySpec)

/-- 'laws.FnTag', WHERE WHAT IT READS IS OF BULK AT MOST 1048576: true; the input reads as it did. -/
def fnTagUptoRow : OpenClaim := { program := "ytokmkgbmigcjnaa", sum := "1f2f1a9e7622aaa63d73aa7ee9559c0db2988dfee3f889ae4bdae110c8413247", func := "loop.example/replayverifier/laws.FnTag", spec := "fnTag", unfollowed := true, recurses := true, apart := false, narrowed := true }
def FnTagUptoSaid : Prop := fnTagUptoRow.holds Try.pinned (OpenSpec.upto fnTagSpec)

/-- 'laws.FnTagChange', WHERE WHAT IT READS IS OF BULK AT MOST 1048576: true; the input reads as it did. -/
def fnTagChangeUptoRow : OpenClaim := { program := "ytokmkgbmigcjnaa", sum := "1f2f1a9e7622aaa63d73aa7ee9559c0db2988dfee3f889ae4bdae110c8413247", func := "loop.example/replayverifier/laws.FnTagChange", spec := "fnTagChange", unfollowed := true, recurses := true, apart := false, narrowed := true }
def FnTagChangeUptoSaid : Prop := fnTagChangeUptoRow.holds Try.pinned (OpenSpec.upto fnTagChangeSpec)

/-- 'laws.FnTagInvalid', WHERE WHAT IT READS IS OF BULK AT MOST 1048576: true; the input reads as it did. -/
def fnTagInvalidUptoRow : OpenClaim := { program := "ytokmkgbmigcjnaa", sum := "1f2f1a9e7622aaa63d73aa7ee9559c0db2988dfee3f889ae4bdae110c8413247", func := "loop.example/replayverifier/laws.FnTagInvalid", spec := "fnTagInvalid", unfollowed := true, recurses := true, apart := false, narrowed := true }
def FnTagInvalidUptoSaid : Prop := fnTagInvalidUptoRow.holds Try.pinned (OpenSpec.upto fnTagInvalidSpec)

/-- 'laws.FnHashOrder', WHERE WHAT IT READS IS OF BULK AT MOST 1048576: true; the input reads as it did. -/
def fnHashOrderUptoRow : OpenClaim := { program := "ytokmkgbmigcjnaa", sum := "1f2f1a9e7622aaa63d73aa7ee9559c0db2988dfee3f889ae4bdae110c8413247", func := "loop.example/replayverifier/laws.FnHashOrder", spec := "fnHashOrder", unfollowed := true, recurses := true, apart := false, narrowed := true }
def FnHashOrderUptoSaid : Prop := fnHashOrderUptoRow.holds Try.pinned (OpenSpec.upto fnHashOrderSpec)

/-- 'laws.FnTagKey', WHERE WHAT IT READS IS OF BULK AT MOST 1048576: true; the input reads as it did. -/
def fnTagKeyUptoRow : OpenClaim := { program := "ytokmkgbmigcjnaa", sum := "1f2f1a9e7622aaa63d73aa7ee9559c0db2988dfee3f889ae4bdae110c8413247", func := "loop.example/replayverifier/laws.FnTagKey", spec := "fnTagKey", unfollowed := true, recurses := true, apart := false, narrowed := true }
def FnTagKeyUptoSaid : Prop := fnTagKeyUptoRow.holds Try.pinned (OpenSpec.upto fnTagKeySpec)

/-- 'laws.FnExactHashInts', WHERE WHAT IT READS IS OF BULK AT MOST 1048576: true; the input reads as it did. -/
def fnExactHashIntsUptoRow : OpenClaim := { program := "ytokmkgbmigcjnaa", sum := "1f2f1a9e7622aaa63d73aa7ee9559c0db2988dfee3f889ae4bdae110c8413247", func := "loop.example/replayverifier/laws.FnExactHashInts", spec := "fnExactHashInts", unfollowed := true, recurses := true, apart := false, narrowed := true }
def FnExactHashIntsUptoSaid : Prop := fnExactHashIntsUptoRow.holds Try.pinned (OpenSpec.upto fnExactHashIntsSpec)

/-- 'laws.FnExactTagOf', WHERE WHAT IT READS IS OF BULK AT MOST 1048576: true; the input reads as it did. -/
def fnExactTagOfUptoRow : OpenClaim := { program := "ytokmkgbmigcjnaa", sum := "1f2f1a9e7622aaa63d73aa7ee9559c0db2988dfee3f889ae4bdae110c8413247", func := "loop.example/replayverifier/laws.FnExactTagOf", spec := "fnExactTagOf", unfollowed := true, recurses := true, apart := false, narrowed := true }
def FnExactTagOfUptoSaid : Prop := fnExactTagOfUptoRow.holds Try.pinned (OpenSpec.upto fnExactTagOfSpec)

/-- 'laws.FnExactTagCheck', WHERE WHAT IT READS IS OF BULK AT MOST 1048576: true; the input reads as it did. -/
def fnExactTagCheckUptoRow : OpenClaim := { program := "ytokmkgbmigcjnaa", sum := "1f2f1a9e7622aaa63d73aa7ee9559c0db2988dfee3f889ae4bdae110c8413247", func := "loop.example/replayverifier/laws.FnExactTagCheck", spec := "fnExactTagCheck", unfollowed := true, recurses := true, apart := false, narrowed := true }
def FnExactTagCheckUptoSaid : Prop := fnExactTagCheckUptoRow.holds Try.pinned (OpenSpec.upto fnExactTagCheckSpec)

end Rows
end Go.Proofs.Ytokmkgbmigcjnaa
