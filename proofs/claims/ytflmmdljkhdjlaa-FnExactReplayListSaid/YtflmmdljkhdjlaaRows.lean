/-
  No cell of these rows narrows 'for every input' (looked for: loops, veiled, ifaces, maps, wideKeys, modest, calm, conditions, laid).
  DERIVED. THE GIVEN ROWS OF THIS SEAT. 13 by the template 'for every input the law returns true; each argument reads behind the call as it read before'; 0 by the template 'total and deterministic' (their statements: YtflmmdljkhdjlaaTotals.lean).
  GIVEN WITH THE SEED: the statements are not yours to turn. If you find one false, say at which input.
  Laid BY PROGRAM, IN A SANDBOX (cutbox-rows.mjs): the forced cells as the released guide's own fill.sh prints them over the translation b434c18c1e621e8c… (all of the seat's roots in one cut). By AI agents, Wed Nov 11 2026. No macro, syntax, notation, axiom, sorry.
-/
import Derived.Test.YtflmmdljkhdjlaaChecked
import GoSem.Claim
import GoSem.ClaimJoined
import GoSem.ClaimMapViews
import Derived.JoinedTies
import Derived.KernelRfl
namespace Go.Proofs.Ytflmmdljkhdjlaa
/- THE CELL 'sum', in the pinned program and in every row, IS THE sha256 OF THE DUMP (.gsa) THAT YtflmmdljkhdjlaaProg.lean LOADS. Nothing in Lean hashes anything: it is a label: what it is worth is what the hold of that sum in a sandbox is worth. -/
noncomputable def Try.pinned : Pinned := { name := "ytflmmdljkhdjlaa", sum := "b434c18c1e621e8c35234b159e9696a47cd6d8dacc6e20d8c76070a11ab224b9", checked := Try.checked }
namespace Rows
def none {H : Type} : Left H := { results := [], args := [] }

/-- 'laws.FnParts': WHATEVER THE INPUT: true; the input reads as it did. -/
def fnPartsSpec : ChangeSpec := { name := "fnParts", fn := fun _ => fun
  | [d] => { results := [.lit (.bool true)], args := [d] }
  | _ => none }
def fnPartsRow : OpenClaim := { program := "ytflmmdljkhdjlaa", sum := "b434c18c1e621e8c35234b159e9696a47cd6d8dacc6e20d8c76070a11ab224b9", func := "loop.example/replayverifier/laws.FnParts", spec := "fnParts", unfollowed := true, recurses := true, apart := false }
def FnPartsSaid : Prop := fnPartsRow.holds Try.pinned (OpenSpec.ofChange fnPartsSpec)

/-- ITS FALSE NEIGHBOUR: 'it returns false'. Refute it at one input. -/
def fnPartsWrong : ChangeSpec := { name := "fnParts", fn := fun _ => fun
  | [d] => { results := [.lit (.bool false)], args := [d] }
  | _ => none }
def FnPartsWrongFalsely : Prop := fnPartsRow.holds Try.pinned (OpenSpec.ofChange fnPartsWrong)

/-- 'laws.FnPartsBack': WHATEVER THE INPUT: true; the input reads as it did. -/
def fnPartsBackSpec : ChangeSpec := { name := "fnPartsBack", fn := fun _ => fun
  | [d] => { results := [.lit (.bool true)], args := [d] }
  | _ => none }
def fnPartsBackRow : OpenClaim := { program := "ytflmmdljkhdjlaa", sum := "b434c18c1e621e8c35234b159e9696a47cd6d8dacc6e20d8c76070a11ab224b9", func := "loop.example/replayverifier/laws.FnPartsBack", spec := "fnPartsBack", unfollowed := true, recurses := true, apart := false }
def FnPartsBackSaid : Prop := fnPartsBackRow.holds Try.pinned (OpenSpec.ofChange fnPartsBackSpec)

/-- ITS FALSE NEIGHBOUR: 'it returns false'. Refute it at one input. -/
def fnPartsBackWrong : ChangeSpec := { name := "fnPartsBack", fn := fun _ => fun
  | [d] => { results := [.lit (.bool false)], args := [d] }
  | _ => none }
def FnPartsBackWrongFalsely : Prop := fnPartsBackRow.holds Try.pinned (OpenSpec.ofChange fnPartsBackWrong)

/-- 'laws.FnPartsSum': WHATEVER THE INPUT: true; the input reads as it did. -/
def fnPartsSumSpec : ChangeSpec := { name := "fnPartsSum", fn := fun _ => fun
  | [d] => { results := [.lit (.bool true)], args := [d] }
  | _ => none }
def fnPartsSumRow : OpenClaim := { program := "ytflmmdljkhdjlaa", sum := "b434c18c1e621e8c35234b159e9696a47cd6d8dacc6e20d8c76070a11ab224b9", func := "loop.example/replayverifier/laws.FnPartsSum", spec := "fnPartsSum", unfollowed := true, recurses := true, apart := false }
def FnPartsSumSaid : Prop := fnPartsSumRow.holds Try.pinned (OpenSpec.ofChange fnPartsSumSpec)

/-- ITS FALSE NEIGHBOUR: 'it returns false'. Refute it at one input. -/
def fnPartsSumWrong : ChangeSpec := { name := "fnPartsSum", fn := fun _ => fun
  | [d] => { results := [.lit (.bool false)], args := [d] }
  | _ => none }
def FnPartsSumWrongFalsely : Prop := fnPartsSumRow.holds Try.pinned (OpenSpec.ofChange fnPartsSumWrong)

/-- 'laws.FnPartsOne': WHATEVER THE INPUT: true; the input reads as it did. -/
def fnPartsOneSpec : ChangeSpec := { name := "fnPartsOne", fn := fun _ => fun
  | [d1, d2] => { results := [.lit (.bool true)], args := [d1, d2] }
  | _ => none }
def fnPartsOneRow : OpenClaim := { program := "ytflmmdljkhdjlaa", sum := "b434c18c1e621e8c35234b159e9696a47cd6d8dacc6e20d8c76070a11ab224b9", func := "loop.example/replayverifier/laws.FnPartsOne", spec := "fnPartsOne", unfollowed := true, recurses := true, apart := false }
def FnPartsOneSaid : Prop := fnPartsOneRow.holds Try.pinned (OpenSpec.ofChange fnPartsOneSpec)

/-- ITS FALSE NEIGHBOUR: 'it returns false'. Refute it at one input. -/
def fnPartsOneWrong : ChangeSpec := { name := "fnPartsOne", fn := fun _ => fun
  | [d1, d2] => { results := [.lit (.bool false)], args := [d1, d2] }
  | _ => none }
def FnPartsOneWrongFalsely : Prop := fnPartsOneRow.holds Try.pinned (OpenSpec.ofChange fnPartsOneWrong)

/-- 'laws.FnList': WHATEVER THE INPUT: true; the input reads as it did. -/
def fnListSpec : ChangeSpec := { name := "fnList", fn := fun _ => fun
  | [d] => { results := [.lit (.bool true)], args := [d] }
  | _ => none }
def fnListRow : OpenClaim := { program := "ytflmmdljkhdjlaa", sum := "b434c18c1e621e8c35234b159e9696a47cd6d8dacc6e20d8c76070a11ab224b9", func := "loop.example/replayverifier/laws.FnList", spec := "fnList", apart := false }
def FnListSaid : Prop := fnListRow.holds Try.pinned (OpenSpec.ofChange fnListSpec)

/-- ITS FALSE NEIGHBOUR: 'it returns false'. Refute it at one input. -/
def fnListWrong : ChangeSpec := { name := "fnList", fn := fun _ => fun
  | [d] => { results := [.lit (.bool false)], args := [d] }
  | _ => none }
def FnListWrongFalsely : Prop := fnListRow.holds Try.pinned (OpenSpec.ofChange fnListWrong)

/-- 'laws.FnReplayHashes': WHATEVER THE INPUT: true; the input reads as it did. -/
def fnReplayHashesSpec : ChangeSpec := { name := "fnReplayHashes", fn := fun _ => fun
  | [d] => { results := [.lit (.bool true)], args := [d] }
  | _ => none }
def fnReplayHashesRow : OpenClaim := { program := "ytflmmdljkhdjlaa", sum := "b434c18c1e621e8c35234b159e9696a47cd6d8dacc6e20d8c76070a11ab224b9", func := "loop.example/replayverifier/laws.FnReplayHashes", spec := "fnReplayHashes", apart := false }
def FnReplayHashesSaid : Prop := fnReplayHashesRow.holds Try.pinned (OpenSpec.ofChange fnReplayHashesSpec)

/-- ITS FALSE NEIGHBOUR: 'it returns false'. Refute it at one input. -/
def fnReplayHashesWrong : ChangeSpec := { name := "fnReplayHashes", fn := fun _ => fun
  | [d] => { results := [.lit (.bool false)], args := [d] }
  | _ => none }
def FnReplayHashesWrongFalsely : Prop := fnReplayHashesRow.holds Try.pinned (OpenSpec.ofChange fnReplayHashesWrong)

/-- 'laws.FnReplayScore': WHATEVER THE INPUT: true; the input reads as it did. -/
def fnReplayScoreSpec : ChangeSpec := { name := "fnReplayScore", fn := fun _ => fun
  | [d1, d2] => { results := [.lit (.bool true)], args := [d1, d2] }
  | _ => none }
def fnReplayScoreRow : OpenClaim := { program := "ytflmmdljkhdjlaa", sum := "b434c18c1e621e8c35234b159e9696a47cd6d8dacc6e20d8c76070a11ab224b9", func := "loop.example/replayverifier/laws.FnReplayScore", spec := "fnReplayScore", apart := false }
def FnReplayScoreSaid : Prop := fnReplayScoreRow.holds Try.pinned (OpenSpec.ofChange fnReplayScoreSpec)

/-- ITS FALSE NEIGHBOUR: 'it returns false'. Refute it at one input. -/
def fnReplayScoreWrong : ChangeSpec := { name := "fnReplayScore", fn := fun _ => fun
  | [d1, d2] => { results := [.lit (.bool false)], args := [d1, d2] }
  | _ => none }
def FnReplayScoreWrongFalsely : Prop := fnReplayScoreRow.holds Try.pinned (OpenSpec.ofChange fnReplayScoreWrong)

/-- 'laws.FnInputsEmpty': WHATEVER THE INPUT: true; the input reads as it did. -/
def fnInputsEmptySpec : ChangeSpec := { name := "fnInputsEmpty", fn := fun _ => fun
  | [d] => { results := [.lit (.bool true)], args := [d] }
  | _ => none }
def fnInputsEmptyRow : OpenClaim := { program := "ytflmmdljkhdjlaa", sum := "b434c18c1e621e8c35234b159e9696a47cd6d8dacc6e20d8c76070a11ab224b9", func := "loop.example/replayverifier/laws.FnInputsEmpty", spec := "fnInputsEmpty", unfollowed := true, recurses := true, apart := false }
def FnInputsEmptySaid : Prop := fnInputsEmptyRow.holds Try.pinned (OpenSpec.ofChange fnInputsEmptySpec)

/-- ITS FALSE NEIGHBOUR: 'it returns false'. Refute it at one input. -/
def fnInputsEmptyWrong : ChangeSpec := { name := "fnInputsEmpty", fn := fun _ => fun
  | [d] => { results := [.lit (.bool false)], args := [d] }
  | _ => none }
def FnInputsEmptyWrongFalsely : Prop := fnInputsEmptyRow.holds Try.pinned (OpenSpec.ofChange fnInputsEmptyWrong)

/-- 'laws.FnPartsSplit': WHATEVER THE INPUT: true; the input reads as it did. -/
def fnPartsSplitSpec : ChangeSpec := { name := "fnPartsSplit", fn := fun _ => fun
  | [d1, d2] => { results := [.lit (.bool true)], args := [d1, d2] }
  | _ => none }
def fnPartsSplitRow : OpenClaim := { program := "ytflmmdljkhdjlaa", sum := "b434c18c1e621e8c35234b159e9696a47cd6d8dacc6e20d8c76070a11ab224b9", func := "loop.example/replayverifier/laws.FnPartsSplit", spec := "fnPartsSplit", unfollowed := true, recurses := true, apart := false }
def FnPartsSplitSaid : Prop := fnPartsSplitRow.holds Try.pinned (OpenSpec.ofChange fnPartsSplitSpec)

/-- ITS FALSE NEIGHBOUR: 'it returns false'. Refute it at one input. -/
def fnPartsSplitWrong : ChangeSpec := { name := "fnPartsSplit", fn := fun _ => fun
  | [d1, d2] => { results := [.lit (.bool false)], args := [d1, d2] }
  | _ => none }
def FnPartsSplitWrongFalsely : Prop := fnPartsSplitRow.holds Try.pinned (OpenSpec.ofChange fnPartsSplitWrong)

/-- 'laws.FnExactReplayParts': WHATEVER THE INPUT: true; the input reads as it did. -/
def fnExactReplayPartsSpec : ChangeSpec := { name := "fnExactReplayParts", fn := fun _ => fun
  | [d] => { results := [.lit (.bool true)], args := [d] }
  | _ => none }
def fnExactReplayPartsRow : OpenClaim := { program := "ytflmmdljkhdjlaa", sum := "b434c18c1e621e8c35234b159e9696a47cd6d8dacc6e20d8c76070a11ab224b9", func := "loop.example/replayverifier/laws.FnExactReplayParts", spec := "fnExactReplayParts", unfollowed := true, recurses := true, apart := false }
def FnExactReplayPartsSaid : Prop := fnExactReplayPartsRow.holds Try.pinned (OpenSpec.ofChange fnExactReplayPartsSpec)

/-- ITS FALSE NEIGHBOUR: 'it returns false'. Refute it at one input. -/
def fnExactReplayPartsWrong : ChangeSpec := { name := "fnExactReplayParts", fn := fun _ => fun
  | [d] => { results := [.lit (.bool false)], args := [d] }
  | _ => none }
def FnExactReplayPartsWrongFalsely : Prop := fnExactReplayPartsRow.holds Try.pinned (OpenSpec.ofChange fnExactReplayPartsWrong)

/-- 'laws.FnExactReplayInputs': WHATEVER THE INPUT: true; the input reads as it did. -/
def fnExactReplayInputsSpec : ChangeSpec := { name := "fnExactReplayInputs", fn := fun _ => fun
  | [d] => { results := [.lit (.bool true)], args := [d] }
  | _ => none }
def fnExactReplayInputsRow : OpenClaim := { program := "ytflmmdljkhdjlaa", sum := "b434c18c1e621e8c35234b159e9696a47cd6d8dacc6e20d8c76070a11ab224b9", func := "loop.example/replayverifier/laws.FnExactReplayInputs", spec := "fnExactReplayInputs", unfollowed := true, recurses := true, apart := false }
def FnExactReplayInputsSaid : Prop := fnExactReplayInputsRow.holds Try.pinned (OpenSpec.ofChange fnExactReplayInputsSpec)

/-- ITS FALSE NEIGHBOUR: 'it returns false'. Refute it at one input. -/
def fnExactReplayInputsWrong : ChangeSpec := { name := "fnExactReplayInputs", fn := fun _ => fun
  | [d] => { results := [.lit (.bool false)], args := [d] }
  | _ => none }
def FnExactReplayInputsWrongFalsely : Prop := fnExactReplayInputsRow.holds Try.pinned (OpenSpec.ofChange fnExactReplayInputsWrong)

/-- 'laws.FnExactReplayValid': WHATEVER THE INPUT: true; the input reads as it did. -/
def fnExactReplayValidSpec : ChangeSpec := { name := "fnExactReplayValid", fn := fun _ => fun
  | [d] => { results := [.lit (.bool true)], args := [d] }
  | _ => none }
def fnExactReplayValidRow : OpenClaim := { program := "ytflmmdljkhdjlaa", sum := "b434c18c1e621e8c35234b159e9696a47cd6d8dacc6e20d8c76070a11ab224b9", func := "loop.example/replayverifier/laws.FnExactReplayValid", spec := "fnExactReplayValid", apart := false }
def FnExactReplayValidSaid : Prop := fnExactReplayValidRow.holds Try.pinned (OpenSpec.ofChange fnExactReplayValidSpec)

/-- ITS FALSE NEIGHBOUR: 'it returns false'. Refute it at one input. -/
def fnExactReplayValidWrong : ChangeSpec := { name := "fnExactReplayValid", fn := fun _ => fun
  | [d] => { results := [.lit (.bool false)], args := [d] }
  | _ => none }
def FnExactReplayValidWrongFalsely : Prop := fnExactReplayValidRow.holds Try.pinned (OpenSpec.ofChange fnExactReplayValidWrong)

/-- 'laws.FnExactReplayList': WHATEVER THE INPUT: true; the input reads as it did. -/
def fnExactReplayListSpec : ChangeSpec := { name := "fnExactReplayList", fn := fun _ => fun
  | [d] => { results := [.lit (.bool true)], args := [d] }
  | _ => none }
def fnExactReplayListRow : OpenClaim := { program := "ytflmmdljkhdjlaa", sum := "b434c18c1e621e8c35234b159e9696a47cd6d8dacc6e20d8c76070a11ab224b9", func := "loop.example/replayverifier/laws.FnExactReplayList", spec := "fnExactReplayList", apart := false }
def FnExactReplayListSaid : Prop := fnExactReplayListRow.holds Try.pinned (OpenSpec.ofChange fnExactReplayListSpec)

/-- ITS FALSE NEIGHBOUR: 'it returns false'. Refute it at one input. -/
def fnExactReplayListWrong : ChangeSpec := { name := "fnExactReplayList", fn := fun _ => fun
  | [d] => { results := [.lit (.bool false)], args := [d] }
  | _ => none }
def FnExactReplayListWrongFalsely : Prop := fnExactReplayListRow.holds Try.pinned (OpenSpec.ofChange fnExactReplayListWrong)

/- THE SECOND FORM. 'bulk': how many values and letters a reading holds, each counted each time it is reached (what is shared counts as often as it is met; a slice's spare places count too). A statement '..UptoSaid' is the law's where the arguments, and the package variables that the reading takes, are together of bulk at most 1048576: NARROWER than '..Said'. Prove '..Said' where nothing that the law and all that it calls make is longer than what came in: it says more and counts as full. Else prove '..UptoSaid'. A law counts once. -/
mutual
def uptoBulk {H : Type} : DataW H → Nat
  | .lit (.string bytes) => bytes.length + 1
  | .lit _ => 1
  | .nil => 1
  | .ptr d => uptoBulk d + 1
  | .slice elems spare => uptoBulkAll elems + uptoBulkAll spare + 1
  | .agg parts => uptoBulkAll parts + 1
  | .iface _ d => uptoBulk d + 1
  | .map entries => uptoBulkEntries entries + 1
  | .held _ => 1
def uptoBulkAll {H : Type} : List (DataW H) → Nat
  | [] => 0
  | d :: r => uptoBulk d + uptoBulkAll r
def uptoBulkEntries {H : Type} : List (Lit × DataW H) → Nat
  | [] => 0
  | x :: r => uptoBulkEntry x + uptoBulkEntries r
def uptoBulkEntry {H : Type} : Lit × DataW H → Nat
  | (.string bytes, d) => bytes.length + uptoBulk d + 1
  | (_, d) => uptoBulk d + 1
 end
def uptoSmall : (H : Type) → List (DataW H) → Bool := fun _ ds => decide (uptoBulkAll ds ≤ 1048576)
def OpenSpec.upto (s : _root_.Go.ChangeSpec) : _root_.Go.OpenSpec := { _root_.Go.OpenSpec.ofChange s with cond := some uptoSmall }

/-- 'laws.FnParts', WHERE WHAT IT READS IS OF BULK AT MOST 1048576: true; the input reads as it did. -/
def fnPartsUptoRow : OpenClaim := { program := "ytflmmdljkhdjlaa", sum := "b434c18c1e621e8c35234b159e9696a47cd6d8dacc6e20d8c76070a11ab224b9", func := "loop.example/replayverifier/laws.FnParts", spec := "fnParts", unfollowed := true, recurses := true, apart := false, narrowed := true }
def FnPartsUptoSaid : Prop := fnPartsUptoRow.holds Try.pinned (OpenSpec.upto fnPartsSpec)

/-- 'laws.FnPartsBack', WHERE WHAT IT READS IS OF BULK AT MOST 1048576: true; the input reads as it did. -/
def fnPartsBackUptoRow : OpenClaim := { program := "ytflmmdljkhdjlaa", sum := "b434c18c1e621e8c35234b159e9696a47cd6d8dacc6e20d8c76070a11ab224b9", func := "loop.example/replayverifier/laws.FnPartsBack", spec := "fnPartsBack", unfollowed := true, recurses := true, apart := false, narrowed := true }
def FnPartsBackUptoSaid : Prop := fnPartsBackUptoRow.holds Try.pinned (OpenSpec.upto fnPartsBackSpec)

/-- 'laws.FnPartsSum', WHERE WHAT IT READS IS OF BULK AT MOST 1048576: true; the input reads as it did. -/
def fnPartsSumUptoRow : OpenClaim := { program := "ytflmmdljkhdjlaa", sum := "b434c18c1e621e8c35234b159e9696a47cd6d8dacc6e20d8c76070a11ab224b9", func := "loop.example/replayverifier/laws.FnPartsSum", spec := "fnPartsSum", unfollowed := true, recurses := true, apart := false, narrowed := true }
def FnPartsSumUptoSaid : Prop := fnPartsSumUptoRow.holds Try.pinned (OpenSpec.upto fnPartsSumSpec)

/-- 'laws.FnPartsOne', WHERE WHAT IT READS IS OF BULK AT MOST 1048576: true; the input reads as it did. -/
def fnPartsOneUptoRow : OpenClaim := { program := "ytflmmdljkhdjlaa", sum := "b434c18c1e621e8c35234b159e9696a47cd6d8dacc6e20d8c76070a11ab224b9", func := "loop.example/replayverifier/laws.FnPartsOne", spec := "fnPartsOne", unfollowed := true, recurses := true, apart := false, narrowed := true }
def FnPartsOneUptoSaid : Prop := fnPartsOneUptoRow.holds Try.pinned (OpenSpec.upto fnPartsOneSpec)

/-- 'laws.FnList', WHERE WHAT IT READS IS OF BULK AT MOST 1048576: true; the input reads as it did. -/
def fnListUptoRow : OpenClaim := { program := "ytflmmdljkhdjlaa", sum := "b434c18c1e621e8c35234b159e9696a47cd6d8dacc6e20d8c76070a11ab224b9", func := "loop.example/replayverifier/laws.FnList", spec := "fnList", apart := false, narrowed := true }
def FnListUptoSaid : Prop := fnListUptoRow.holds Try.pinned (OpenSpec.upto fnListSpec)

/-- 'laws.FnReplayHashes', WHERE WHAT IT READS IS OF BULK AT MOST 1048576: true; the input reads as it did. -/
def fnReplayHashesUptoRow : OpenClaim := { program := "ytflmmdljkhdjlaa", sum := "b434c18c1e621e8c35234b159e9696a47cd6d8dacc6e20d8c76070a11ab224b9", func := "loop.example/replayverifier/laws.FnReplayHashes", spec := "fnReplayHashes", apart := false, narrowed := true }
def FnReplayHashesUptoSaid : Prop := fnReplayHashesUptoRow.holds Try.pinned (OpenSpec.upto fnReplayHashesSpec)

/-- 'laws.FnReplayScore', WHERE WHAT IT READS IS OF BULK AT MOST 1048576: true; the input reads as it did. -/
def fnReplayScoreUptoRow : OpenClaim := { program := "ytflmmdljkhdjlaa", sum := "b434c18c1e621e8c35234b159e9696a47cd6d8dacc6e20d8c76070a11ab224b9", func := "loop.example/replayverifier/laws.FnReplayScore", spec := "fnReplayScore", apart := false, narrowed := true }
def FnReplayScoreUptoSaid : Prop := fnReplayScoreUptoRow.holds Try.pinned (OpenSpec.upto fnReplayScoreSpec)

/-- 'laws.FnInputsEmpty', WHERE WHAT IT READS IS OF BULK AT MOST 1048576: true; the input reads as it did. -/
def fnInputsEmptyUptoRow : OpenClaim := { program := "ytflmmdljkhdjlaa", sum := "b434c18c1e621e8c35234b159e9696a47cd6d8dacc6e20d8c76070a11ab224b9", func := "loop.example/replayverifier/laws.FnInputsEmpty", spec := "fnInputsEmpty", unfollowed := true, recurses := true, apart := false, narrowed := true }
def FnInputsEmptyUptoSaid : Prop := fnInputsEmptyUptoRow.holds Try.pinned (OpenSpec.upto fnInputsEmptySpec)

/-- 'laws.FnPartsSplit', WHERE WHAT IT READS IS OF BULK AT MOST 1048576: true; the input reads as it did. -/
def fnPartsSplitUptoRow : OpenClaim := { program := "ytflmmdljkhdjlaa", sum := "b434c18c1e621e8c35234b159e9696a47cd6d8dacc6e20d8c76070a11ab224b9", func := "loop.example/replayverifier/laws.FnPartsSplit", spec := "fnPartsSplit", unfollowed := true, recurses := true, apart := false, narrowed := true }
def FnPartsSplitUptoSaid : Prop := fnPartsSplitUptoRow.holds Try.pinned (OpenSpec.upto fnPartsSplitSpec)

/-- 'laws.FnExactReplayParts', WHERE WHAT IT READS IS OF BULK AT MOST 1048576: true; the input reads as it did. -/
def fnExactReplayPartsUptoRow : OpenClaim := { program := "ytflmmdljkhdjlaa", sum := "b434c18c1e621e8c35234b159e9696a47cd6d8dacc6e20d8c76070a11ab224b9", func := "loop.example/replayverifier/laws.FnExactReplayParts", spec := "fnExactReplayParts", unfollowed := true, recurses := true, apart := false, narrowed := true }
def FnExactReplayPartsUptoSaid : Prop := fnExactReplayPartsUptoRow.holds Try.pinned (OpenSpec.upto fnExactReplayPartsSpec)

/-- 'laws.FnExactReplayInputs', WHERE WHAT IT READS IS OF BULK AT MOST 1048576: true; the input reads as it did. -/
def fnExactReplayInputsUptoRow : OpenClaim := { program := "ytflmmdljkhdjlaa", sum := "b434c18c1e621e8c35234b159e9696a47cd6d8dacc6e20d8c76070a11ab224b9", func := "loop.example/replayverifier/laws.FnExactReplayInputs", spec := "fnExactReplayInputs", unfollowed := true, recurses := true, apart := false, narrowed := true }
def FnExactReplayInputsUptoSaid : Prop := fnExactReplayInputsUptoRow.holds Try.pinned (OpenSpec.upto fnExactReplayInputsSpec)

/-- 'laws.FnExactReplayValid', WHERE WHAT IT READS IS OF BULK AT MOST 1048576: true; the input reads as it did. -/
def fnExactReplayValidUptoRow : OpenClaim := { program := "ytflmmdljkhdjlaa", sum := "b434c18c1e621e8c35234b159e9696a47cd6d8dacc6e20d8c76070a11ab224b9", func := "loop.example/replayverifier/laws.FnExactReplayValid", spec := "fnExactReplayValid", apart := false, narrowed := true }
def FnExactReplayValidUptoSaid : Prop := fnExactReplayValidUptoRow.holds Try.pinned (OpenSpec.upto fnExactReplayValidSpec)

/-- 'laws.FnExactReplayList', WHERE WHAT IT READS IS OF BULK AT MOST 1048576: true; the input reads as it did. -/
def fnExactReplayListUptoRow : OpenClaim := { program := "ytflmmdljkhdjlaa", sum := "b434c18c1e621e8c35234b159e9696a47cd6d8dacc6e20d8c76070a11ab224b9", func := "loop.example/replayverifier/laws.FnExactReplayList", spec := "fnExactReplayList", apart := false, narrowed := true }
def FnExactReplayListUptoSaid : Prop := fnExactReplayListUptoRow.holds Try.pinned (OpenSpec.upto fnExactReplayListSpec)

end Rows
end Go.Proofs.Ytflmmdljkhdjlaa
