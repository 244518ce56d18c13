/-
  No cell of these rows narrows 'for every input' (looked for: loops, veiled, ifaces, maps, wideKeys, modest, calm, conditions, laid).
  DERIVED. THE GIVEN ROWS OF THIS SEAT. 16 by the template 'for every input the law returns true; each argument reads behind the call as it read before'; 0 by the template 'total and deterministic' (their statements: YtgghhedkephohaaTotals.lean).
  GIVEN WITH THE SEED: the statements are not yours to turn. If you find one false, say at which input.
  Laid BY PROGRAM, IN A SANDBOX (cutbox-rows.mjs): the forced cells as the released guide's own fill.sh prints them over the translation 08a3fd945b633ca6… (all of the seat's roots in one cut). By AI agents, Wed Nov 11 2026. No macro, syntax, notation, axiom, sorry.
-/
import Derived.Test.YtgghhedkephohaaChecked
import GoSem.Claim
import GoSem.ClaimJoined
import GoSem.ClaimMapViews
import Derived.JoinedTies
import Derived.KernelRfl
namespace Go.Proofs.Ytgghhedkephohaa
/- THE CELL 'sum', in the pinned program and in every row, IS THE sha256 OF THE DUMP (.gsa) THAT YtgghhedkephohaaProg.lean LOADS. Nothing in Lean hashes anything: it is a label: what it is worth is what the hold of that sum in a sandbox is worth. -/
noncomputable def Try.pinned : Pinned := { name := "ytgghhedkephohaa", sum := "08a3fd945b633ca68e82144177e955aadef54b269e793a87e24441a34f53a31a", checked := Try.checked }
namespace Rows
def none {H : Type} : Left H := { results := [], args := [] }

/-- 'laws.FnBoardAdd': WHATEVER THE INPUT: true; the input reads as it did. -/
def fnBoardAddSpec : ChangeSpec := { name := "fnBoardAdd", fn := fun _ => fun
  | [d] => { results := [.lit (.bool true)], args := [d] }
  | _ => none }
def fnBoardAddRow : OpenClaim := { program := "ytgghhedkephohaa", sum := "08a3fd945b633ca68e82144177e955aadef54b269e793a87e24441a34f53a31a", func := "loop.example/replayverifier/laws.FnBoardAdd", spec := "fnBoardAdd", unfollowed := true, recurses := true, apart := false }
def FnBoardAddSaid : Prop := fnBoardAddRow.holds Try.pinned (OpenSpec.ofChange fnBoardAddSpec)

/-- ITS FALSE NEIGHBOUR: 'it returns false'. Refute it at one input. -/
def fnBoardAddWrong : ChangeSpec := { name := "fnBoardAdd", fn := fun _ => fun
  | [d] => { results := [.lit (.bool false)], args := [d] }
  | _ => none }
def FnBoardAddWrongFalsely : Prop := fnBoardAddRow.holds Try.pinned (OpenSpec.ofChange fnBoardAddWrong)

/-- 'laws.FnBoardTwice': WHATEVER THE INPUT: true; the input reads as it did. -/
def fnBoardTwiceSpec : ChangeSpec := { name := "fnBoardTwice", fn := fun _ => fun
  | [d1, d2] => { results := [.lit (.bool true)], args := [d1, d2] }
  | _ => none }
def fnBoardTwiceRow : OpenClaim := { program := "ytgghhedkephohaa", sum := "08a3fd945b633ca68e82144177e955aadef54b269e793a87e24441a34f53a31a", func := "loop.example/replayverifier/laws.FnBoardTwice", spec := "fnBoardTwice", unfollowed := true, recurses := true, apart := false }
def FnBoardTwiceSaid : Prop := fnBoardTwiceRow.holds Try.pinned (OpenSpec.ofChange fnBoardTwiceSpec)

/-- ITS FALSE NEIGHBOUR: 'it returns false'. Refute it at one input. -/
def fnBoardTwiceWrong : ChangeSpec := { name := "fnBoardTwice", fn := fun _ => fun
  | [d1, d2] => { results := [.lit (.bool false)], args := [d1, d2] }
  | _ => none }
def FnBoardTwiceWrongFalsely : Prop := fnBoardTwiceRow.holds Try.pinned (OpenSpec.ofChange fnBoardTwiceWrong)

/-- 'laws.FnBoardCodes': WHATEVER THE INPUT: true; the input reads as it did. -/
def fnBoardCodesSpec : ChangeSpec := { name := "fnBoardCodes", fn := fun _ => fun
  | [d] => { results := [.lit (.bool true)], args := [d] }
  | _ => none }
def fnBoardCodesRow : OpenClaim := { program := "ytgghhedkephohaa", sum := "08a3fd945b633ca68e82144177e955aadef54b269e793a87e24441a34f53a31a", func := "loop.example/replayverifier/laws.FnBoardCodes", spec := "fnBoardCodes", unfollowed := true, recurses := true, apart := false }
def FnBoardCodesSaid : Prop := fnBoardCodesRow.holds Try.pinned (OpenSpec.ofChange fnBoardCodesSpec)

/-- ITS FALSE NEIGHBOUR: 'it returns false'. Refute it at one input. -/
def fnBoardCodesWrong : ChangeSpec := { name := "fnBoardCodes", fn := fun _ => fun
  | [d] => { results := [.lit (.bool false)], args := [d] }
  | _ => none }
def FnBoardCodesWrongFalsely : Prop := fnBoardCodesRow.holds Try.pinned (OpenSpec.ofChange fnBoardCodesWrong)

/-- 'laws.FnBoardBest': WHATEVER THE INPUT: true; the input reads as it did. -/
def fnBoardBestSpec : ChangeSpec := { name := "fnBoardBest", fn := fun _ => fun
  | [d] => { results := [.lit (.bool true)], args := [d] }
  | _ => none }
def fnBoardBestRow : OpenClaim := { program := "ytgghhedkephohaa", sum := "08a3fd945b633ca68e82144177e955aadef54b269e793a87e24441a34f53a31a", func := "loop.example/replayverifier/laws.FnBoardBest", spec := "fnBoardBest", unfollowed := true, recurses := true, apart := false }
def FnBoardBestSaid : Prop := fnBoardBestRow.holds Try.pinned (OpenSpec.ofChange fnBoardBestSpec)

/-- ITS FALSE NEIGHBOUR: 'it returns false'. Refute it at one input. -/
def fnBoardBestWrong : ChangeSpec := { name := "fnBoardBest", fn := fun _ => fun
  | [d] => { results := [.lit (.bool false)], args := [d] }
  | _ => none }
def FnBoardBestWrongFalsely : Prop := fnBoardBestRow.holds Try.pinned (OpenSpec.ofChange fnBoardBestWrong)

/-- 'laws.FnRank': WHATEVER THE INPUT: true; the input reads as it did. -/
def fnRankSpec : ChangeSpec := { name := "fnRank", fn := fun _ => fun
  | [d] => { results := [.lit (.bool true)], args := [d] }
  | _ => none }
def fnRankRow : OpenClaim := { program := "ytgghhedkephohaa", sum := "08a3fd945b633ca68e82144177e955aadef54b269e793a87e24441a34f53a31a", func := "loop.example/replayverifier/laws.FnRank", spec := "fnRank", apart := false }
def FnRankSaid : Prop := fnRankRow.holds Try.pinned (OpenSpec.ofChange fnRankSpec)

/-- ITS FALSE NEIGHBOUR: 'it returns false'. Refute it at one input. -/
def fnRankWrong : ChangeSpec := { name := "fnRank", fn := fun _ => fun
  | [d] => { results := [.lit (.bool false)], args := [d] }
  | _ => none }
def FnRankWrongFalsely : Prop := fnRankRow.holds Try.pinned (OpenSpec.ofChange fnRankWrong)

/-- 'laws.FnRankScores': WHATEVER THE INPUT: true; the input reads as it did. -/
def fnRankScoresSpec : ChangeSpec := { name := "fnRankScores", fn := fun _ => fun
  | [d] => { results := [.lit (.bool true)], args := [d] }
  | _ => none }
def fnRankScoresRow : OpenClaim := { program := "ytgghhedkephohaa", sum := "08a3fd945b633ca68e82144177e955aadef54b269e793a87e24441a34f53a31a", func := "loop.example/replayverifier/laws.FnRankScores", spec := "fnRankScores", apart := false }
def FnRankScoresSaid : Prop := fnRankScoresRow.holds Try.pinned (OpenSpec.ofChange fnRankScoresSpec)

/-- ITS FALSE NEIGHBOUR: 'it returns false'. Refute it at one input. -/
def fnRankScoresWrong : ChangeSpec := { name := "fnRankScores", fn := fun _ => fun
  | [d] => { results := [.lit (.bool false)], args := [d] }
  | _ => none }
def FnRankScoresWrongFalsely : Prop := fnRankScoresRow.holds Try.pinned (OpenSpec.ofChange fnRankScoresWrong)

/-- 'laws.FnBoardRemove': WHATEVER THE INPUT: true; the input reads as it did. -/
def fnBoardRemoveSpec : ChangeSpec := { name := "fnBoardRemove", fn := fun _ => fun
  | [d] => { results := [.lit (.bool true)], args := [d] }
  | _ => none }
def fnBoardRemoveRow : OpenClaim := { program := "ytgghhedkephohaa", sum := "08a3fd945b633ca68e82144177e955aadef54b269e793a87e24441a34f53a31a", func := "loop.example/replayverifier/laws.FnBoardRemove", spec := "fnBoardRemove", apart := false }
def FnBoardRemoveSaid : Prop := fnBoardRemoveRow.holds Try.pinned (OpenSpec.ofChange fnBoardRemoveSpec)

/-- ITS FALSE NEIGHBOUR: 'it returns false'. Refute it at one input. -/
def fnBoardRemoveWrong : ChangeSpec := { name := "fnBoardRemove", fn := fun _ => fun
  | [d] => { results := [.lit (.bool false)], args := [d] }
  | _ => none }
def FnBoardRemoveWrongFalsely : Prop := fnBoardRemoveRow.holds Try.pinned (OpenSpec.ofChange fnBoardRemoveWrong)

/-- 'laws.FnBoardRemoveAdd': WHATEVER THE INPUT: true; the input reads as it did. -/
def fnBoardRemoveAddSpec : ChangeSpec := { name := "fnBoardRemoveAdd", fn := fun _ => fun
  | [d] => { results := [.lit (.bool true)], args := [d] }
  | _ => none }
def fnBoardRemoveAddRow : OpenClaim := { program := "ytgghhedkephohaa", sum := "08a3fd945b633ca68e82144177e955aadef54b269e793a87e24441a34f53a31a", func := "loop.example/replayverifier/laws.FnBoardRemoveAdd", spec := "fnBoardRemoveAdd", unfollowed := true, recurses := true, apart := false }
def FnBoardRemoveAddSaid : Prop := fnBoardRemoveAddRow.holds Try.pinned (OpenSpec.ofChange fnBoardRemoveAddSpec)

/-- ITS FALSE NEIGHBOUR: 'it returns false'. Refute it at one input. -/
def fnBoardRemoveAddWrong : ChangeSpec := { name := "fnBoardRemoveAdd", fn := fun _ => fun
  | [d] => { results := [.lit (.bool false)], args := [d] }
  | _ => none }
def FnBoardRemoveAddWrongFalsely : Prop := fnBoardRemoveAddRow.holds Try.pinned (OpenSpec.ofChange fnBoardRemoveAddWrong)

/-- 'laws.FnLimit': WHATEVER THE INPUT: true; the input reads as it did. -/
def fnLimitSpec : ChangeSpec := { name := "fnLimit", fn := fun _ => fun
  | [d1, d2] => { results := [.lit (.bool true)], args := [d1, d2] }
  | _ => none }
def fnLimitRow : OpenClaim := { program := "ytgghhedkephohaa", sum := "08a3fd945b633ca68e82144177e955aadef54b269e793a87e24441a34f53a31a", func := "loop.example/replayverifier/laws.FnLimit", spec := "fnLimit", unfollowed := true, recurses := true, apart := false }
def FnLimitSaid : Prop := fnLimitRow.holds Try.pinned (OpenSpec.ofChange fnLimitSpec)

/-- ITS FALSE NEIGHBOUR: 'it returns false'. Refute it at one input. -/
def fnLimitWrong : ChangeSpec := { name := "fnLimit", fn := fun _ => fun
  | [d1, d2] => { results := [.lit (.bool false)], args := [d1, d2] }
  | _ => none }
def FnLimitWrongFalsely : Prop := fnLimitRow.holds Try.pinned (OpenSpec.ofChange fnLimitWrong)

/-- 'laws.FnBoardOrder': WHATEVER THE INPUT: true; the input reads as it did. -/
def fnBoardOrderSpec : ChangeSpec := { name := "fnBoardOrder", fn := fun _ => fun
  | [d] => { results := [.lit (.bool true)], args := [d] }
  | _ => none }
def fnBoardOrderRow : OpenClaim := { program := "ytgghhedkephohaa", sum := "08a3fd945b633ca68e82144177e955aadef54b269e793a87e24441a34f53a31a", func := "loop.example/replayverifier/laws.FnBoardOrder", spec := "fnBoardOrder", unfollowed := true, recurses := true, apart := false }
def FnBoardOrderSaid : Prop := fnBoardOrderRow.holds Try.pinned (OpenSpec.ofChange fnBoardOrderSpec)

/-- ITS FALSE NEIGHBOUR: 'it returns false'. Refute it at one input. -/
def fnBoardOrderWrong : ChangeSpec := { name := "fnBoardOrder", fn := fun _ => fun
  | [d] => { results := [.lit (.bool false)], args := [d] }
  | _ => none }
def FnBoardOrderWrongFalsely : Prop := fnBoardOrderRow.holds Try.pinned (OpenSpec.ofChange fnBoardOrderWrong)

/-- 'laws.FnBoardPart': WHATEVER THE INPUT: true; the input reads as it did. -/
def fnBoardPartSpec : ChangeSpec := { name := "fnBoardPart", fn := fun _ => fun
  | [d1, d2] => { results := [.lit (.bool true)], args := [d1, d2] }
  | _ => none }
def fnBoardPartRow : OpenClaim := { program := "ytgghhedkephohaa", sum := "08a3fd945b633ca68e82144177e955aadef54b269e793a87e24441a34f53a31a", func := "loop.example/replayverifier/laws.FnBoardPart", spec := "fnBoardPart", apart := false }
def FnBoardPartSaid : Prop := fnBoardPartRow.holds Try.pinned (OpenSpec.ofChange fnBoardPartSpec)

/-- ITS FALSE NEIGHBOUR: 'it returns false'. Refute it at one input. -/
def fnBoardPartWrong : ChangeSpec := { name := "fnBoardPart", fn := fun _ => fun
  | [d1, d2] => { results := [.lit (.bool false)], args := [d1, d2] }
  | _ => none }
def FnBoardPartWrongFalsely : Prop := fnBoardPartRow.holds Try.pinned (OpenSpec.ofChange fnBoardPartWrong)

/-- 'laws.FnExactBoardValid': WHATEVER THE INPUT: true; the input reads as it did. -/
def fnExactBoardValidSpec : ChangeSpec := { name := "fnExactBoardValid", fn := fun _ => fun
  | [d] => { results := [.lit (.bool true)], args := [d] }
  | _ => none }
def fnExactBoardValidRow : OpenClaim := { program := "ytgghhedkephohaa", sum := "08a3fd945b633ca68e82144177e955aadef54b269e793a87e24441a34f53a31a", func := "loop.example/replayverifier/laws.FnExactBoardValid", spec := "fnExactBoardValid", apart := false }
def FnExactBoardValidSaid : Prop := fnExactBoardValidRow.holds Try.pinned (OpenSpec.ofChange fnExactBoardValidSpec)

/-- ITS FALSE NEIGHBOUR: 'it returns false'. Refute it at one input. -/
def fnExactBoardValidWrong : ChangeSpec := { name := "fnExactBoardValid", fn := fun _ => fun
  | [d] => { results := [.lit (.bool false)], args := [d] }
  | _ => none }
def FnExactBoardValidWrongFalsely : Prop := fnExactBoardValidRow.holds Try.pinned (OpenSpec.ofChange fnExactBoardValidWrong)

/-- 'laws.FnExactBoardAdd': WHATEVER THE INPUT: true; the input reads as it did. -/
def fnExactBoardAddSpec : ChangeSpec := { name := "fnExactBoardAdd", fn := fun _ => fun
  | [d1, d2] => { results := [.lit (.bool true)], args := [d1, d2] }
  | _ => none }
def fnExactBoardAddRow : OpenClaim := { program := "ytgghhedkephohaa", sum := "08a3fd945b633ca68e82144177e955aadef54b269e793a87e24441a34f53a31a", func := "loop.example/replayverifier/laws.FnExactBoardAdd", spec := "fnExactBoardAdd", unfollowed := true, recurses := true, apart := false }
def FnExactBoardAddSaid : Prop := fnExactBoardAddRow.holds Try.pinned (OpenSpec.ofChange fnExactBoardAddSpec)

/-- ITS FALSE NEIGHBOUR: 'it returns false'. Refute it at one input. -/
def fnExactBoardAddWrong : ChangeSpec := { name := "fnExactBoardAdd", fn := fun _ => fun
  | [d1, d2] => { results := [.lit (.bool false)], args := [d1, d2] }
  | _ => none }
def FnExactBoardAddWrongFalsely : Prop := fnExactBoardAddRow.holds Try.pinned (OpenSpec.ofChange fnExactBoardAddWrong)

/-- 'laws.FnExactBoardRank': WHATEVER THE INPUT: true; the input reads as it did. -/
def fnExactBoardRankSpec : ChangeSpec := { name := "fnExactBoardRank", fn := fun _ => fun
  | [d1, d2] => { results := [.lit (.bool true)], args := [d1, d2] }
  | _ => none }
def fnExactBoardRankRow : OpenClaim := { program := "ytgghhedkephohaa", sum := "08a3fd945b633ca68e82144177e955aadef54b269e793a87e24441a34f53a31a", func := "loop.example/replayverifier/laws.FnExactBoardRank", spec := "fnExactBoardRank", apart := false }
def FnExactBoardRankSaid : Prop := fnExactBoardRankRow.holds Try.pinned (OpenSpec.ofChange fnExactBoardRankSpec)

/-- ITS FALSE NEIGHBOUR: 'it returns false'. Refute it at one input. -/
def fnExactBoardRankWrong : ChangeSpec := { name := "fnExactBoardRank", fn := fun _ => fun
  | [d1, d2] => { results := [.lit (.bool false)], args := [d1, d2] }
  | _ => none }
def FnExactBoardRankWrongFalsely : Prop := fnExactBoardRankRow.holds Try.pinned (OpenSpec.ofChange fnExactBoardRankWrong)

/-- 'laws.FnExactBoardRemove': WHATEVER THE INPUT: true; the input reads as it did. -/
def fnExactBoardRemoveSpec : ChangeSpec := { name := "fnExactBoardRemove", fn := fun _ => fun
  | [d1, d2] => { results := [.lit (.bool true)], args := [d1, d2] }
  | _ => none }
def fnExactBoardRemoveRow : OpenClaim := { program := "ytgghhedkephohaa", sum := "08a3fd945b633ca68e82144177e955aadef54b269e793a87e24441a34f53a31a", func := "loop.example/replayverifier/laws.FnExactBoardRemove", spec := "fnExactBoardRemove", apart := false }
def FnExactBoardRemoveSaid : Prop := fnExactBoardRemoveRow.holds Try.pinned (OpenSpec.ofChange fnExactBoardRemoveSpec)

/-- ITS FALSE NEIGHBOUR: 'it returns false'. Refute it at one input. -/
def fnExactBoardRemoveWrong : ChangeSpec := { name := "fnExactBoardRemove", fn := fun _ => fun
  | [d1, d2] => { results := [.lit (.bool false)], args := [d1, d2] }
  | _ => none }
def FnExactBoardRemoveWrongFalsely : Prop := fnExactBoardRemoveRow.holds Try.pinned (OpenSpec.ofChange fnExactBoardRemoveWrong)

/-- 'laws.FnExactBoardLimit': WHATEVER THE INPUT: true; the input reads as it did. -/
def fnExactBoardLimitSpec : ChangeSpec := { name := "fnExactBoardLimit", fn := fun _ => fun
  | [d] => { results := [.lit (.bool true)], args := [d] }
  | _ => none }
def fnExactBoardLimitRow : OpenClaim := { program := "ytgghhedkephohaa", sum := "08a3fd945b633ca68e82144177e955aadef54b269e793a87e24441a34f53a31a", func := "loop.example/replayverifier/laws.FnExactBoardLimit", spec := "fnExactBoardLimit", apart := false }
def FnExactBoardLimitSaid : Prop := fnExactBoardLimitRow.holds Try.pinned (OpenSpec.ofChange fnExactBoardLimitSpec)

/-- ITS FALSE NEIGHBOUR: 'it returns false'. Refute it at one input. -/
def fnExactBoardLimitWrong : ChangeSpec := { name := "fnExactBoardLimit", fn := fun _ => fun
  | [d] => { results := [.lit (.bool false)], args := [d] }
  | _ => none }
def FnExactBoardLimitWrongFalsely : Prop := fnExactBoardLimitRow.holds Try.pinned (OpenSpec.ofChange fnExactBoardLimitWrong)

/- THE SECOND FORM. 'bulk': how many values and letters a reading holds, each counted each time it is reached (what is shared counts as often as it is met; a slice's spare places count too). A statement '..UptoSaid' is the law's where the arguments, and the package variables that the reading takes, are together of bulk at most 1048576: NARROWER than '..Said'. Prove '..Said' where nothing that the law and all that it calls make is longer than what came in: it says more and counts as full. Else prove '..UptoSaid'. A law counts once. -/
mutual
def uptoBulk {H : Type} : DataW H → Nat
  | .lit (.string bytes) => bytes.length + 1
  | .lit _ => 1
  | .nil => 1
  | .ptr d => uptoBulk d + 1
  | .slice elems spare => uptoBulkAll elems + uptoBulkAll spare + 1
  | .agg parts => uptoBulkAll parts + 1
  | .iface _ d => uptoBulk d + 1
  | .map entries => uptoBulkEntries entries + 1
  | .held _ => 1
def uptoBulkAll {H : Type} : List (DataW H) → Nat
  | [] => 0
  | d :: r => uptoBulk d + uptoBulkAll r
def uptoBulkEntries {H : Type} : List (Lit × DataW H) → Nat
  | [] => 0
  | x :: r => uptoBulkEntry x + uptoBulkEntries r
def uptoBulkEntry {H : Type} : Lit × DataW H → Nat
  | (.string bytes, d) => bytes.length + uptoBulk d + 1
  | (_, d) => uptoBulk d + 1
 end
def uptoSmall : (H : Type) → List (DataW H) → Bool := fun _ ds => decide (uptoBulkAll ds ≤ 1048576)
def OpenSpec.upto (s : _root_.Go.ChangeSpec) : _root_.Go.OpenSpec := { _root_.Go.OpenSpec.ofChange s with cond := some uptoSmall }

/-- 'laws.FnBoardAdd', WHERE WHAT IT READS IS OF BULK AT MOST 1048576: true; the input reads as it did. -/
def fnBoardAddUptoRow : OpenClaim := { program := "ytgghhedkephohaa", sum := "08a3fd945b633ca68e82144177e955aadef54b269e793a87e24441a34f53a31a", func := "loop.example/replayverifier/laws.FnBoardAdd", spec := "fnBoardAdd", unfollowed := true, recurses := true, apart := false, narrowed := true }
def FnBoardAddUptoSaid : Prop := fnBoardAddUptoRow.holds Try.pinned (OpenSpec.upto fnBoardAddSpec)

/-- 'laws.FnBoardTwice', WHERE WHAT IT READS IS OF BULK AT MOST 1048576: true; the input reads as it did. -/
def fnBoardTwiceUptoRow : OpenClaim := { program := "ytgghhedkephohaa", sum := "08a3fd945b633ca68e82144177e955aadef54b269e793a87e24441a34f53a31a", func := "loop.example/replayverifier/laws.FnBoardTwice", spec := "fnBoardTwice", unfollowed := true, recurses := true, apart := false, narrowed := true }
def FnBoardTwiceUptoSaid : Prop := fnBoardTwiceUptoRow.holds Try.pinned (OpenSpec.upto fnBoardTwiceSpec)

/-- 'laws.FnBoardCodes', WHERE WHAT IT READS IS OF BULK AT MOST 1048576: true; the input reads as it did. -/
def fnBoardCodesUptoRow : OpenClaim := { program := "ytgghhedkephohaa", sum := "08a3fd945b633ca68e82144177e955aadef54b269e793a87e24441a34f53a31a", func := "loop.example/replayverifier/laws.FnBoardCodes", spec := "fnBoardCodes", unfollowed := true, recurses := true, apart := false, narrowed := true }
def FnBoardCodesUptoSaid : Prop := fnBoardCodesUptoRow.holds Try.pinned (OpenSpec.upto fnBoardCodesSpec)

/-- 'laws.FnBoardBest', WHERE WHAT IT READS IS OF BULK AT MOST 1048576: true; the input reads as it did. -/
def fnBoardBestUptoRow : OpenClaim := { program := "ytgghhedkephohaa", sum := "08a3fd945b633ca68e82144177e955aadef54b269e793a87e24441a34f53a31a", func := "loop.example/replayverifier/laws.FnBoardBest", spec := "fnBoardBest", unfollowed := true, recurses := true, apart := false, narrowed := true }
def FnBoardBestUptoSaid : Prop := fnBoardBestUptoRow.holds Try.pinned (OpenSpec.upto fnBoardBestSpec)

/-- 'laws.FnRank', WHERE WHAT IT READS IS OF BULK AT MOST 1048576: true; the input reads as it did. -/
def fnRankUptoRow : OpenClaim := { program := "ytgghhedkephohaa", sum := "08a3fd945b633ca68e82144177e955aadef54b269e793a87e24441a34f53a31a", func := "loop.example/replayverifier/laws.FnRank", spec := "fnRank", apart := false, narrowed := true }
def FnRankUptoSaid : Prop := fnRankUptoRow.holds Try.pinned (OpenSpec.upto fnRankSpec)

/-- 'laws.FnRankScores', WHERE WHAT IT READS IS OF BULK AT MOST 1048576: true; the input reads as it did. -/
def fnRankScoresUptoRow : OpenClaim := { program := "ytgghhedkephohaa", sum := "08a3fd945b633ca68e82144177e955aadef54b269e793a87e24441a34f53a31a", func := "loop.example/replayverifier/laws.FnRankScores", spec := "fnRankScores", apart := false, narrowed := true }
def FnRankScoresUptoSaid : Prop := fnRankScoresUptoRow.holds Try.pinned (OpenSpec.upto fnRankScoresSpec)

/-- 'laws.FnBoardRemove', WHERE WHAT IT READS IS OF BULK AT MOST 1048576: true; the input reads as it did. -/
def fnBoardRemoveUptoRow : OpenClaim := { program := "ytgghhedkephohaa", sum := "08a3fd945b633ca68e82144177e955aadef54b269e793a87e24441a34f53a31a", func := "loop.example/replayverifier/laws.FnBoardRemove", spec := "fnBoardRemove", apart := false, narrowed := true }
def FnBoardRemoveUptoSaid : Prop := fnBoardRemoveUptoRow.holds Try.pinned (OpenSpec.upto fnBoardRemoveSpec)

/-- 'laws.FnBoardRemoveAdd', WHERE WHAT IT READS IS OF BULK AT MOST 1048576: true; the input reads as it did. -/
def fnBoardRemoveAddUptoRow : OpenClaim := { program := "ytgghhedkephohaa", sum := "08a3fd945b633ca68e82144177e955aadef54b269e793a87e24441a34f53a31a", func := "loop.example/replayverifier/laws.FnBoardRemoveAdd", spec := "fnBoardRemoveAdd", unfollowed := true, recurses := true, apart := false, narrowed := true }
def FnBoardRemoveAddUptoSaid : Prop := fnBoardRemoveAddUptoRow.holds Try.pinned (OpenSpec.upto fnBoardRemoveAddSpec)

/-- 'laws.FnLimit', WHERE WHAT IT READS IS OF BULK AT MOST 1048576: true; the input reads as it did. -/
def fnLimitUptoRow : OpenClaim := { program := "ytgghhedkephohaa", sum := "08a3fd945b633ca68e82144177e955aadef54b269e793a87e24441a34f53a31a", func := "loop.example/replayverifier/laws.FnLimit", spec := "fnLimit", unfollowed := true, recurses := true, apart := false, narrowed := true }
def FnLimitUptoSaid : Prop := fnLimitUptoRow.holds Try.pinned (OpenSpec.upto fnLimitSpec)

/-- 'laws.FnBoardOrder', WHERE WHAT IT READS IS OF BULK AT MOST 1048576: true; the input reads as it did. -/
def fnBoardOrderUptoRow : OpenClaim := { program := "ytgghhedkephohaa", sum := "08a3fd945b633ca68e82144177e955aadef54b269e793a87e24441a34f53a31a", func := "loop.example/replayverifier/laws.FnBoardOrder", spec := "fnBoardOrder", unfollowed := true, recurses := true, apart := false, narrowed := true }
def FnBoardOrderUptoSaid : Prop := fnBoardOrderUptoRow.holds Try.pinned (OpenSpec.upto fnBoardOrderSpec)

/-- 'laws.FnBoardPart', WHERE WHAT IT READS IS OF BULK AT MOST 1048576: true; the input reads as it did. -/
def fnBoardPartUptoRow : OpenClaim := { program := "ytgghhedkephohaa", sum := "08a3fd945b633ca68e82144177e955aadef54b269e793a87e24441a34f53a31a", func := "loop.example/replayverifier/laws.FnBoardPart", spec := "fnBoardPart", apart := false, narrowed := true }
def FnBoardPartUptoSaid : Prop := fnBoardPartUptoRow.holds Try.pinned (OpenSpec.upto fnBoardPartSpec)

/-- 'laws.FnExactBoardValid', WHERE WHAT IT READS IS OF BULK AT MOST 1048576: true; the input reads as it did. -/
def fnExactBoardValidUptoRow : OpenClaim := { program := "ytgghhedkephohaa", sum := "08a3fd945b633ca68e82144177e955aadef54b269e793a87e24441a34f53a31a", func := "loop.example/replayverifier/laws.FnExactBoardValid", spec := "fnExactBoardValid", apart := false, narrowed := true }
def FnExactBoardValidUptoSaid : Prop := fnExactBoardValidUptoRow.holds Try.pinned (OpenSpec.upto fnExactBoardValidSpec)

/-- 'laws.FnExactBoardAdd', WHERE WHAT IT READS IS OF BULK AT MOST 1048576: true; the input reads as it did. -/
def fnExactBoardAddUptoRow : OpenClaim := { program := "ytgghhedkephohaa", sum := "08a3fd945b633ca68e82144177e955aadef54b269e793a87e24441a34f53a31a", func := "loop.example/replayverifier/laws.FnExactBoardAdd", spec := "fnExactBoardAdd", unfollowed := true, recurses := true, apart := false, narrowed := true }
def FnExactBoardAddUptoSaid : Prop := fnExactBoardAddUptoRow.holds Try.pinned (OpenSpec.upto fnExactBoardAddSpec)

/-- 'laws.FnExactBoardRank', WHERE WHAT IT READS IS OF BULK AT MOST 1048576: true; the input reads as it did. -/
def fnExactBoardRankUptoRow : OpenClaim := { program := "ytgghhedkephohaa", sum := "08a3fd945b633ca68e82144177e955aadef54b269e793a87e24441a34f53a31a", func := "loop.example/replayverifier/laws.FnExactBoardRank", spec := "fnExactBoardRank", apart := false, narrowed := true }
def FnExactBoardRankUptoSaid : Prop := fnExactBoardRankUptoRow.holds Try.pinned (OpenSpec.upto fnExactBoardRankSpec)

/-- 'laws.FnExactBoardRemove', WHERE WHAT IT READS IS OF BULK AT MOST 1048576: true; the input reads as it did. -/
def fnExactBoardRemoveUptoRow : OpenClaim := { program := "ytgghhedkephohaa", sum := "08a3fd945b633ca68e82144177e955aadef54b269e793a87e24441a34f53a31a", func := "loop.example/replayverifier/laws.FnExactBoardRemove", spec := "fnExactBoardRemove", apart := false, narrowed := true }
def FnExactBoardRemoveUptoSaid : Prop := fnExactBoardRemoveUptoRow.holds Try.pinned (OpenSpec.upto fnExactBoardRemoveSpec)

/-- 'laws.FnExactBoardLimit', WHERE WHAT IT READS IS OF BULK AT MOST 1048576: true; the input reads as it did. -/
def fnExactBoardLimitUptoRow : OpenClaim := { program := "ytgghhedkephohaa", sum := "08a3fd945b633ca68e82144177e955aadef54b269e793a87e24441a34f53a31a", func := "loop.example/replayverifier/laws.FnExactBoardLimit", spec := "fnExactBoardLimit", apart := false, narrowed := true }
def FnExactBoardLimitUptoSaid : Prop := fnExactBoardLimitUptoRow.holds Try.pinned (OpenSpec.upto fnExactBoardLimitSpec)

end Rows
end Go.Proofs.Ytgghhedkephohaa
