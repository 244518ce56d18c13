/-
  No cell of these rows narrows 'for every input' (looked for: loops, veiled, ifaces, maps, wideKeys, modest, calm, conditions, laid).
  DERIVED. THE GIVEN ROWS OF THIS SEAT. 12 by the template 'for every input the law returns true; each argument reads behind the call as it read before'; 0 by the template 'total and deterministic' (their statements: YtagbeneapmpooaaTotals.lean).
  GIVEN WITH THE SEED: the statements are not yours to turn. If you find one false, say at which input.
  Laid BY PROGRAM, IN A SANDBOX (cutbox-rows.mjs): the forced cells as the released guide's own fill.sh prints them over the translation c9be0877493907aa… (all of the seat's roots in one cut). By AI agents, Wed Nov 11 2026. No macro, syntax, notation, axiom, sorry.
-/
import Derived.Test.YtagbeneapmpooaaChecked
import GoSem.Claim
import GoSem.ClaimJoined
import GoSem.ClaimMapViews
import Derived.JoinedTies
import Derived.KernelRfl
namespace Go.Proofs.Ytagbeneapmpooaa
/- THE CELL 'sum', in the pinned program and in every row, IS THE sha256 OF THE DUMP (.gsa) THAT YtagbeneapmpooaaProg.lean LOADS. Nothing in Lean hashes anything: it is a label: what it is worth is what the hold of that sum in a sandbox is worth. -/
noncomputable def Try.pinned : Pinned := { name := "ytagbeneapmpooaa", sum := "c9be0877493907aadd53305b66f2448c4595367e78cde8c422248b715c70709e", checked := Try.checked }
namespace Rows
def none {H : Type} : Left H := { results := [], args := [] }

/-- 'laws.FnCode': WHATEVER THE INPUT: true; the input reads as it did. -/
def fnCodeSpec : ChangeSpec := { name := "fnCode", fn := fun _ => fun
  | [d] => { results := [.lit (.bool true)], args := [d] }
  | _ => none }
def fnCodeRow : OpenClaim := { program := "ytagbeneapmpooaa", sum := "c9be0877493907aadd53305b66f2448c4595367e78cde8c422248b715c70709e", func := "loop.example/replayverifier/laws.FnCode", spec := "fnCode", apart := false }
def FnCodeSaid : Prop := fnCodeRow.holds Try.pinned (OpenSpec.ofChange fnCodeSpec)

/-- ITS FALSE NEIGHBOUR: 'it returns false'. Refute it at one input. -/
def fnCodeWrong : ChangeSpec := { name := "fnCode", fn := fun _ => fun
  | [d] => { results := [.lit (.bool false)], args := [d] }
  | _ => none }
def FnCodeWrongFalsely : Prop := fnCodeRow.holds Try.pinned (OpenSpec.ofChange fnCodeWrong)

/-- 'laws.FnCodeBack': WHATEVER THE INPUT: true; the input reads as it did. -/
def fnCodeBackSpec : ChangeSpec := { name := "fnCodeBack", fn := fun _ => fun
  | [d] => { results := [.lit (.bool true)], args := [d] }
  | _ => none }
def fnCodeBackRow : OpenClaim := { program := "ytagbeneapmpooaa", sum := "c9be0877493907aadd53305b66f2448c4595367e78cde8c422248b715c70709e", func := "loop.example/replayverifier/laws.FnCodeBack", spec := "fnCodeBack", apart := false }
def FnCodeBackSaid : Prop := fnCodeBackRow.holds Try.pinned (OpenSpec.ofChange fnCodeBackSpec)

/-- ITS FALSE NEIGHBOUR: 'it returns false'. Refute it at one input. -/
def fnCodeBackWrong : ChangeSpec := { name := "fnCodeBack", fn := fun _ => fun
  | [d] => { results := [.lit (.bool false)], args := [d] }
  | _ => none }
def FnCodeBackWrongFalsely : Prop := fnCodeBackRow.holds Try.pinned (OpenSpec.ofChange fnCodeBackWrong)

/-- 'laws.FnPause': WHATEVER THE INPUT: true; the input reads as it did. -/
def fnPauseSpec : ChangeSpec := { name := "fnPause", fn := fun _ => fun
  | [d] => { results := [.lit (.bool true)], args := [d] }
  | _ => none }
def fnPauseRow : OpenClaim := { program := "ytagbeneapmpooaa", sum := "c9be0877493907aadd53305b66f2448c4595367e78cde8c422248b715c70709e", func := "loop.example/replayverifier/laws.FnPause", spec := "fnPause", apart := false }
def FnPauseSaid : Prop := fnPauseRow.holds Try.pinned (OpenSpec.ofChange fnPauseSpec)

/-- ITS FALSE NEIGHBOUR: 'it returns false'. Refute it at one input. -/
def fnPauseWrong : ChangeSpec := { name := "fnPause", fn := fun _ => fun
  | [d] => { results := [.lit (.bool false)], args := [d] }
  | _ => none }
def FnPauseWrongFalsely : Prop := fnPauseRow.holds Try.pinned (OpenSpec.ofChange fnPauseWrong)

/-- 'laws.FnFollowsSteer': WHATEVER THE INPUT: true; the input reads as it did. -/
def fnFollowsSteerSpec : ChangeSpec := { name := "fnFollowsSteer", fn := fun _ => fun
  | [d] => { results := [.lit (.bool true)], args := [d] }
  | _ => none }
def fnFollowsSteerRow : OpenClaim := { program := "ytagbeneapmpooaa", sum := "c9be0877493907aadd53305b66f2448c4595367e78cde8c422248b715c70709e", func := "loop.example/replayverifier/laws.FnFollowsSteer", spec := "fnFollowsSteer", unfollowed := true, recurses := true, apart := false }
def FnFollowsSteerSaid : Prop := fnFollowsSteerRow.holds Try.pinned (OpenSpec.ofChange fnFollowsSteerSpec)

/-- ITS FALSE NEIGHBOUR: 'it returns false'. Refute it at one input. -/
def fnFollowsSteerWrong : ChangeSpec := { name := "fnFollowsSteer", fn := fun _ => fun
  | [d] => { results := [.lit (.bool false)], args := [d] }
  | _ => none }
def FnFollowsSteerWrongFalsely : Prop := fnFollowsSteerRow.holds Try.pinned (OpenSpec.ofChange fnFollowsSteerWrong)

/-- 'laws.FnFollowsBans': WHATEVER THE INPUT: true; the input reads as it did. -/
def fnFollowsBansSpec : ChangeSpec := { name := "fnFollowsBans", fn := fun _ => fun
  | [d] => { results := [.lit (.bool true)], args := [d] }
  | _ => none }
def fnFollowsBansRow : OpenClaim := { program := "ytagbeneapmpooaa", sum := "c9be0877493907aadd53305b66f2448c4595367e78cde8c422248b715c70709e", func := "loop.example/replayverifier/laws.FnFollowsBans", spec := "fnFollowsBans", unfollowed := true, recurses := true, apart := false }
def FnFollowsBansSaid : Prop := fnFollowsBansRow.holds Try.pinned (OpenSpec.ofChange fnFollowsBansSpec)

/-- ITS FALSE NEIGHBOUR: 'it returns false'. Refute it at one input. -/
def fnFollowsBansWrong : ChangeSpec := { name := "fnFollowsBans", fn := fun _ => fun
  | [d] => { results := [.lit (.bool false)], args := [d] }
  | _ => none }
def FnFollowsBansWrongFalsely : Prop := fnFollowsBansRow.holds Try.pinned (OpenSpec.ofChange fnFollowsBansWrong)

/-- 'laws.FnFollowsSelf': WHATEVER THE INPUT: true; the input reads as it did. -/
def fnFollowsSelfSpec : ChangeSpec := { name := "fnFollowsSelf", fn := fun _ => fun
  | [d] => { results := [.lit (.bool true)], args := [d] }
  | _ => none }
def fnFollowsSelfRow : OpenClaim := { program := "ytagbeneapmpooaa", sum := "c9be0877493907aadd53305b66f2448c4595367e78cde8c422248b715c70709e", func := "loop.example/replayverifier/laws.FnFollowsSelf", spec := "fnFollowsSelf", unfollowed := true, recurses := true, apart := false }
def FnFollowsSelfSaid : Prop := fnFollowsSelfRow.holds Try.pinned (OpenSpec.ofChange fnFollowsSelfSpec)

/-- ITS FALSE NEIGHBOUR: 'it returns false'. Refute it at one input. -/
def fnFollowsSelfWrong : ChangeSpec := { name := "fnFollowsSelf", fn := fun _ => fun
  | [d] => { results := [.lit (.bool false)], args := [d] }
  | _ => none }
def FnFollowsSelfWrongFalsely : Prop := fnFollowsSelfRow.holds Try.pinned (OpenSpec.ofChange fnFollowsSelfWrong)

/-- 'laws.FnCodes': WHATEVER THE INPUT: true; the input reads as it did. -/
def fnCodesSpec : ChangeSpec := { name := "fnCodes", fn := fun _ => fun
  | [d1, d2] => { results := [.lit (.bool true)], args := [d1, d2] }
  | _ => none }
def fnCodesRow : OpenClaim := { program := "ytagbeneapmpooaa", sum := "c9be0877493907aadd53305b66f2448c4595367e78cde8c422248b715c70709e", func := "loop.example/replayverifier/laws.FnCodes", spec := "fnCodes", apart := false }
def FnCodesSaid : Prop := fnCodesRow.holds Try.pinned (OpenSpec.ofChange fnCodesSpec)

/-- ITS FALSE NEIGHBOUR: 'it returns false'. Refute it at one input. -/
def fnCodesWrong : ChangeSpec := { name := "fnCodes", fn := fun _ => fun
  | [d1, d2] => { results := [.lit (.bool false)], args := [d1, d2] }
  | _ => none }
def FnCodesWrongFalsely : Prop := fnCodesRow.holds Try.pinned (OpenSpec.ofChange fnCodesWrong)

/-- 'laws.FnExactInputValid': WHATEVER THE INPUT: true; the input reads as it did. -/
def fnExactInputValidSpec : ChangeSpec := { name := "fnExactInputValid", fn := fun _ => fun
  | [d] => { results := [.lit (.bool true)], args := [d] }
  | _ => none }
def fnExactInputValidRow : OpenClaim := { program := "ytagbeneapmpooaa", sum := "c9be0877493907aadd53305b66f2448c4595367e78cde8c422248b715c70709e", func := "loop.example/replayverifier/laws.FnExactInputValid", spec := "fnExactInputValid", apart := false }
def FnExactInputValidSaid : Prop := fnExactInputValidRow.holds Try.pinned (OpenSpec.ofChange fnExactInputValidSpec)

/-- ITS FALSE NEIGHBOUR: 'it returns false'. Refute it at one input. -/
def fnExactInputValidWrong : ChangeSpec := { name := "fnExactInputValid", fn := fun _ => fun
  | [d] => { results := [.lit (.bool false)], args := [d] }
  | _ => none }
def FnExactInputValidWrongFalsely : Prop := fnExactInputValidRow.holds Try.pinned (OpenSpec.ofChange fnExactInputValidWrong)

/-- 'laws.FnExactInputCode': WHATEVER THE INPUT: true; the input reads as it did. -/
def fnExactInputCodeSpec : ChangeSpec := { name := "fnExactInputCode", fn := fun _ => fun
  | [d] => { results := [.lit (.bool true)], args := [d] }
  | _ => none }
def fnExactInputCodeRow : OpenClaim := { program := "ytagbeneapmpooaa", sum := "c9be0877493907aadd53305b66f2448c4595367e78cde8c422248b715c70709e", func := "loop.example/replayverifier/laws.FnExactInputCode", spec := "fnExactInputCode", apart := false }
def FnExactInputCodeSaid : Prop := fnExactInputCodeRow.holds Try.pinned (OpenSpec.ofChange fnExactInputCodeSpec)

/-- ITS FALSE NEIGHBOUR: 'it returns false'. Refute it at one input. -/
def fnExactInputCodeWrong : ChangeSpec := { name := "fnExactInputCode", fn := fun _ => fun
  | [d] => { results := [.lit (.bool false)], args := [d] }
  | _ => none }
def FnExactInputCodeWrongFalsely : Prop := fnExactInputCodeRow.holds Try.pinned (OpenSpec.ofChange fnExactInputCodeWrong)

/-- 'laws.FnExactInputOf': WHATEVER THE INPUT: true; the input reads as it did. -/
def fnExactInputOfSpec : ChangeSpec := { name := "fnExactInputOf", fn := fun _ => fun
  | [d] => { results := [.lit (.bool true)], args := [d] }
  | _ => none }
def fnExactInputOfRow : OpenClaim := { program := "ytagbeneapmpooaa", sum := "c9be0877493907aadd53305b66f2448c4595367e78cde8c422248b715c70709e", func := "loop.example/replayverifier/laws.FnExactInputOf", spec := "fnExactInputOf", apart := false }
def FnExactInputOfSaid : Prop := fnExactInputOfRow.holds Try.pinned (OpenSpec.ofChange fnExactInputOfSpec)

/-- ITS FALSE NEIGHBOUR: 'it returns false'. Refute it at one input. -/
def fnExactInputOfWrong : ChangeSpec := { name := "fnExactInputOf", fn := fun _ => fun
  | [d] => { results := [.lit (.bool false)], args := [d] }
  | _ => none }
def FnExactInputOfWrongFalsely : Prop := fnExactInputOfRow.holds Try.pinned (OpenSpec.ofChange fnExactInputOfWrong)

/-- 'laws.FnExactInputFollows': WHATEVER THE INPUT: true; the input reads as it did. -/
def fnExactInputFollowsSpec : ChangeSpec := { name := "fnExactInputFollows", fn := fun _ => fun
  | [d1, d2, d3] => { results := [.lit (.bool true)], args := [d1, d2, d3] }
  | _ => none }
def fnExactInputFollowsRow : OpenClaim := { program := "ytagbeneapmpooaa", sum := "c9be0877493907aadd53305b66f2448c4595367e78cde8c422248b715c70709e", func := "loop.example/replayverifier/laws.FnExactInputFollows", spec := "fnExactInputFollows", unfollowed := true, recurses := true, apart := false }
def FnExactInputFollowsSaid : Prop := fnExactInputFollowsRow.holds Try.pinned (OpenSpec.ofChange fnExactInputFollowsSpec)

/-- ITS FALSE NEIGHBOUR: 'it returns false'. Refute it at one input. -/
def fnExactInputFollowsWrong : ChangeSpec := { name := "fnExactInputFollows", fn := fun _ => fun
  | [d1, d2, d3] => { results := [.lit (.bool false)], args := [d1, d2, d3] }
  | _ => none }
def FnExactInputFollowsWrongFalsely : Prop := fnExactInputFollowsRow.holds Try.pinned (OpenSpec.ofChange fnExactInputFollowsWrong)

/-- 'laws.FnExactInputsLegal': WHATEVER THE INPUT: true; the input reads as it did. -/
def fnExactInputsLegalSpec : ChangeSpec := { name := "fnExactInputsLegal", fn := fun _ => fun
  | [d1, d2] => { results := [.lit (.bool true)], args := [d1, d2] }
  | _ => none }
def fnExactInputsLegalRow : OpenClaim := { program := "ytagbeneapmpooaa", sum := "c9be0877493907aadd53305b66f2448c4595367e78cde8c422248b715c70709e", func := "loop.example/replayverifier/laws.FnExactInputsLegal", spec := "fnExactInputsLegal", unfollowed := true, recurses := true, apart := false }
def FnExactInputsLegalSaid : Prop := fnExactInputsLegalRow.holds Try.pinned (OpenSpec.ofChange fnExactInputsLegalSpec)

/-- ITS FALSE NEIGHBOUR: 'it returns false'. Refute it at one input. -/
def fnExactInputsLegalWrong : ChangeSpec := { name := "fnExactInputsLegal", fn := fun _ => fun
  | [d1, d2] => { results := [.lit (.bool false)], args := [d1, d2] }
  | _ => none }
def FnExactInputsLegalWrongFalsely : Prop := fnExactInputsLegalRow.holds Try.pinned (OpenSpec.ofChange fnExactInputsLegalWrong)

/- THE SECOND FORM. 'bulk': how many values and letters a reading holds, each counted each time it is reached (what is shared counts as often as it is met; a slice's spare places count too). A statement '..UptoSaid' is the law's where the arguments, and the package variables that the reading takes, are together of bulk at most 1048576: NARROWER than '..Said'. Prove '..Said' where nothing that the law and all that it calls make is longer than what came in: it says more and counts as full. Else prove '..UptoSaid'. A law counts once. -/
mutual
def uptoBulk {H : Type} : DataW H → Nat
  | .lit (.string bytes) => bytes.length + 1
  | .lit _ => 1
  | .nil => 1
  | .ptr d => uptoBulk d + 1
  | .slice elems spare => uptoBulkAll elems + uptoBulkAll spare + 1
  | .agg parts => uptoBulkAll parts + 1
  | .iface _ d => uptoBulk d + 1
  | .map entries => uptoBulkEntries entries + 1
  | .held _ => 1
def uptoBulkAll {H : Type} : List (DataW H) → Nat
  | [] => 0
  | d :: r => uptoBulk d + uptoBulkAll r
def uptoBulkEntries {H : Type} : List (Lit × DataW H) → Nat
  | [] => 0
  | x :: r => uptoBulkEntry x + uptoBulkEntries r
def uptoBulkEntry {H : Type} : Lit × DataW H → Nat
  | (.string bytes, d) => bytes.length + uptoBulk d + 1
  | (_, d) => uptoBulk d + 1
 end
def uptoSmall : (H : Type) → List (DataW H) → Bool := fun _ ds => decide (uptoBulkAll ds ≤ 1048576)
def OpenSpec.upto (s : _root_.Go.ChangeSpec) : _root_.Go.OpenSpec := { _root_.Go.OpenSpec.ofChange s with cond := some uptoSmall }

/-- 'laws.FnCode', WHERE WHAT IT READS IS OF BULK AT MOST 1048576: true; the input reads as it did. -/
def fnCodeUptoRow : OpenClaim := { program := "ytagbeneapmpooaa", sum := "c9be0877493907aadd53305b66f2448c4595367e78cde8c422248b715c70709e", func := "loop.example/replayverifier/laws.FnCode", spec := "fnCode", apart := false, narrowed := true }
def FnCodeUptoSaid : Prop := fnCodeUptoRow.holds Try.pinned (OpenSpec.upto fnCodeSpec)

/-- 'laws.FnCodeBack', WHERE WHAT IT READS IS OF BULK AT MOST 1048576: true; the input reads as it did. -/
def fnCodeBackUptoRow : OpenClaim := { program := "ytagbeneapmpooaa", sum := "c9be0877493907aadd53305b66f2448c4595367e78cde8c422248b715c70709e", func := "loop.example/replayverifier/laws.FnCodeBack", spec := "fnCodeBack", apart := false, narrowed := true }
def FnCodeBackUptoSaid : Prop := fnCodeBackUptoRow.holds Try.pinned (OpenSpec.upto fnCodeBackSpec)

/-- 'laws.FnPause', WHERE WHAT IT READS IS OF BULK AT MOST 1048576: true; the input reads as it did. -/
def fnPauseUptoRow : OpenClaim := { program := "ytagbeneapmpooaa", sum := "c9be0877493907aadd53305b66f2448c4595367e78cde8c422248b715c70709e", func := "loop.example/replayverifier/laws.FnPause", spec := "fnPause", apart := false, narrowed := true }
def FnPauseUptoSaid : Prop := fnPauseUptoRow.holds Try.pinned (OpenSpec.upto fnPauseSpec)

/-- 'laws.FnFollowsSteer', WHERE WHAT IT READS IS OF BULK AT MOST 1048576: true; the input reads as it did. -/
def fnFollowsSteerUptoRow : OpenClaim := { program := "ytagbeneapmpooaa", sum := "c9be0877493907aadd53305b66f2448c4595367e78cde8c422248b715c70709e", func := "loop.example/replayverifier/laws.FnFollowsSteer", spec := "fnFollowsSteer", unfollowed := true, recurses := true, apart := false, narrowed := true }
def FnFollowsSteerUptoSaid : Prop := fnFollowsSteerUptoRow.holds Try.pinned (OpenSpec.upto fnFollowsSteerSpec)

/-- 'laws.FnFollowsBans', WHERE WHAT IT READS IS OF BULK AT MOST 1048576: true; the input reads as it did. -/
def fnFollowsBansUptoRow : OpenClaim := { program := "ytagbeneapmpooaa", sum := "c9be0877493907aadd53305b66f2448c4595367e78cde8c422248b715c70709e", func := "loop.example/replayverifier/laws.FnFollowsBans", spec := "fnFollowsBans", unfollowed := true, recurses := true, apart := false, narrowed := true }
def FnFollowsBansUptoSaid : Prop := fnFollowsBansUptoRow.holds Try.pinned (OpenSpec.upto fnFollowsBansSpec)

/-- 'laws.FnFollowsSelf', WHERE WHAT IT READS IS OF BULK AT MOST 1048576: true; the input reads as it did. -/
def fnFollowsSelfUptoRow : OpenClaim := { program := "ytagbeneapmpooaa", sum := "c9be0877493907aadd53305b66f2448c4595367e78cde8c422248b715c70709e", func := "loop.example/replayverifier/laws.FnFollowsSelf", spec := "fnFollowsSelf", unfollowed := true, recurses := true, apart := false, narrowed := true }
def FnFollowsSelfUptoSaid : Prop := fnFollowsSelfUptoRow.holds Try.pinned (OpenSpec.upto fnFollowsSelfSpec)

/-- 'laws.FnCodes', WHERE WHAT IT READS IS OF BULK AT MOST 1048576: true; the input reads as it did. -/
def fnCodesUptoRow : OpenClaim := { program := "ytagbeneapmpooaa", sum := "c9be0877493907aadd53305b66f2448c4595367e78cde8c422248b715c70709e", func := "loop.example/replayverifier/laws.FnCodes", spec := "fnCodes", apart := false, narrowed := true }
def FnCodesUptoSaid : Prop := fnCodesUptoRow.holds Try.pinned (OpenSpec.upto fnCodesSpec)

/-- 'laws.FnExactInputValid', WHERE WHAT IT READS IS OF BULK AT MOST 1048576: true; the input reads as it did. -/
def fnExactInputValidUptoRow : OpenClaim := { program := "ytagbeneapmpooaa", sum := "c9be0877493907aadd53305b66f2448c4595367e78cde8c422248b715c70709e", func := "loop.example/replayverifier/laws.FnExactInputValid", spec := "fnExactInputValid", apart := false, narrowed := true }
def FnExactInputValidUptoSaid : Prop := fnExactInputValidUptoRow.holds Try.pinned (OpenSpec.upto fnExactInputValidSpec)

/-- 'laws.FnExactInputCode', WHERE WHAT IT READS IS OF BULK AT MOST 1048576: true; the input reads as it did. -/
def fnExactInputCodeUptoRow : OpenClaim := { program := "ytagbeneapmpooaa", sum := "c9be0877493907aadd53305b66f2448c4595367e78cde8c422248b715c70709e", func := "loop.example/replayverifier/laws.FnExactInputCode", spec := "fnExactInputCode", apart := false, narrowed := true }
def FnExactInputCodeUptoSaid : Prop := fnExactInputCodeUptoRow.holds Try.pinned (OpenSpec.upto fnExactInputCodeSpec)

/-- 'laws.FnExactInputOf', WHERE WHAT IT READS IS OF BULK AT MOST 1048576: true; the input reads as it did. -/
def fnExactInputOfUptoRow : OpenClaim := { program := "ytagbeneapmpooaa", sum := "c9be0877493907aadd53305b66f2448c4595367e78cde8c422248b715c70709e", func := "loop.example/replayverifier/laws.FnExactInputOf", spec := "fnExactInputOf", apart := false, narrowed := true }
def FnExactInputOfUptoSaid : Prop := fnExactInputOfUptoRow.holds Try.pinned (OpenSpec.upto fnExactInputOfSpec)

/-- 'laws.FnExactInputFollows', WHERE WHAT IT READS IS OF BULK AT MOST 1048576: true; the input reads as it did. -/
def fnExactInputFollowsUptoRow : OpenClaim := { program := "ytagbeneapmpooaa", sum := "c9be0877493907aadd53305b66f2448c4595367e78cde8c422248b715c70709e", func := "loop.example/replayverifier/laws.FnExactInputFollows", spec := "fnExactInputFollows", unfollowed := true, recurses := true, apart := false, narrowed := true }
def FnExactInputFollowsUptoSaid : Prop := fnExactInputFollowsUptoRow.holds Try.pinned (OpenSpec.upto fnExactInputFollowsSpec)

/-- 'laws.FnExactInputsLegal', WHERE WHAT IT READS IS OF BULK AT MOST 1048576: true; the input reads as it did. -/
def fnExactInputsLegalUptoRow : OpenClaim := { program := "ytagbeneapmpooaa", sum := "c9be0877493907aadd53305b66f2448c4595367e78cde8c422248b715c70709e", func := "loop.example/replayverifier/laws.FnExactInputsLegal", spec := "fnExactInputsLegal", unfollowed := true, recurses := true, apart := false, narrowed := true }
def FnExactInputsLegalUptoSaid : Prop := fnExactInputsLegalUptoRow.holds Try.pinned (OpenSpec.upto fnExactInputsLegalSpec)

end Rows
end Go.Proofs.Ytagbeneapmpooaa
