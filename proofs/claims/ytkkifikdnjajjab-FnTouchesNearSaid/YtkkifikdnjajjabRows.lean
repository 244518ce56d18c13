/-
  No cell of these rows narrows 'for every input' (looked for: loops, veiled, ifaces, maps, wideKeys, modest, calm, conditions, laid).
  DERIVED. THE GIVEN ROWS OF THIS SEAT. 9 by the template 'for every input the law returns true; each argument reads behind the call as it read before'; 0 by the template 'total and deterministic' (their statements: YtkkifikdnjajjabTotals.lean).
  GIVEN WITH THE SEED: the statements are not yours to turn. If you find one false, say at which input.
  Laid BY PROGRAM, IN A SANDBOX (cutbox-rows.mjs): the forced cells as the released guide's own fill.sh prints them over the translation b3e92a620c6fdedc… (all of the seat's roots in one cut). By AI agents, Wed Nov 11 2026. No macro, syntax, notation, axiom, sorry.
-/
import Derived.Test.YtkkifikdnjajjabChecked
import GoSem.Claim
import GoSem.ClaimJoined
import GoSem.ClaimMapViews
import Derived.JoinedTies
import Derived.KernelRfl
namespace Go.Proofs.Ytkkifikdnjajjab
/- THE CELL 'sum', in the pinned program and in every row, IS THE sha256 OF THE DUMP (.gsa) THAT YtkkifikdnjajjabProg.lean LOADS. Nothing in Lean hashes anything: it is a label: what it is worth is what the hold of that sum in a sandbox is worth. -/
noncomputable def Try.pinned : Pinned := { name := "ytkkifikdnjajjab", sum := "b3e92a620c6fdedc6071db946ea4edee93ae4f08023eb7c0d1234b169c2c34e7", checked := Try.checked }
namespace Rows
def none {H : Type} : Left H := { results := [], args := [] }

/-- 'laws.FnTouchesMore': WHATEVER THE INPUT: true; the input reads as it did. -/
def fnTouchesMoreSpec : ChangeSpec := { name := "fnTouchesMore", fn := fun _ => fun
  | [d1, d2] => { results := [.lit (.bool true)], args := [d1, d2] }
  | _ => none }
def fnTouchesMoreRow : OpenClaim := { program := "ytkkifikdnjajjab", sum := "b3e92a620c6fdedc6071db946ea4edee93ae4f08023eb7c0d1234b169c2c34e7", func := "loop.example/replayverifier/laws.FnTouchesMore", spec := "fnTouchesMore", apart := false }
def FnTouchesMoreSaid : Prop := fnTouchesMoreRow.holds Try.pinned (OpenSpec.ofChange fnTouchesMoreSpec)

/-- ITS FALSE NEIGHBOUR: 'it returns false'. Refute it at one input. -/
def fnTouchesMoreWrong : ChangeSpec := { name := "fnTouchesMore", fn := fun _ => fun
  | [d1, d2] => { results := [.lit (.bool false)], args := [d1, d2] }
  | _ => none }
def FnTouchesMoreWrongFalsely : Prop := fnTouchesMoreRow.holds Try.pinned (OpenSpec.ofChange fnTouchesMoreWrong)

/-- 'laws.FnBoxPoint': WHATEVER THE INPUT: true; the input reads as it did. -/
def fnBoxPointSpec : ChangeSpec := { name := "fnBoxPoint", fn := fun _ => fun
  | [d1, d2] => { results := [.lit (.bool true)], args := [d1, d2] }
  | _ => none }
def fnBoxPointRow : OpenClaim := { program := "ytkkifikdnjajjab", sum := "b3e92a620c6fdedc6071db946ea4edee93ae4f08023eb7c0d1234b169c2c34e7", func := "loop.example/replayverifier/laws.FnBoxPoint", spec := "fnBoxPoint", apart := false }
def FnBoxPointSaid : Prop := fnBoxPointRow.holds Try.pinned (OpenSpec.ofChange fnBoxPointSpec)

/-- ITS FALSE NEIGHBOUR: 'it returns false'. Refute it at one input. -/
def fnBoxPointWrong : ChangeSpec := { name := "fnBoxPoint", fn := fun _ => fun
  | [d1, d2] => { results := [.lit (.bool false)], args := [d1, d2] }
  | _ => none }
def FnBoxPointWrongFalsely : Prop := fnBoxPointRow.holds Try.pinned (OpenSpec.ofChange fnBoxPointWrong)

/-- 'laws.FnNearestTwice': WHATEVER THE INPUT: true; the input reads as it did. -/
def fnNearestTwiceSpec : ChangeSpec := { name := "fnNearestTwice", fn := fun _ => fun
  | [d] => { results := [.lit (.bool true)], args := [d] }
  | _ => none }
def fnNearestTwiceRow : OpenClaim := { program := "ytkkifikdnjajjab", sum := "b3e92a620c6fdedc6071db946ea4edee93ae4f08023eb7c0d1234b169c2c34e7", func := "loop.example/replayverifier/laws.FnNearestTwice", spec := "fnNearestTwice", apart := false }
def FnNearestTwiceSaid : Prop := fnNearestTwiceRow.holds Try.pinned (OpenSpec.ofChange fnNearestTwiceSpec)

/-- ITS FALSE NEIGHBOUR: 'it returns false'. Refute it at one input. -/
def fnNearestTwiceWrong : ChangeSpec := { name := "fnNearestTwice", fn := fun _ => fun
  | [d] => { results := [.lit (.bool false)], args := [d] }
  | _ => none }
def FnNearestTwiceWrongFalsely : Prop := fnNearestTwiceRow.holds Try.pinned (OpenSpec.ofChange fnNearestTwiceWrong)

/-- 'laws.FnTouchesNear': WHATEVER THE INPUT: true; the input reads as it did. -/
def fnTouchesNearSpec : ChangeSpec := { name := "fnTouchesNear", fn := fun _ => fun
  | [d1, d2] => { results := [.lit (.bool true)], args := [d1, d2] }
  | _ => none }
def fnTouchesNearRow : OpenClaim := { program := "ytkkifikdnjajjab", sum := "b3e92a620c6fdedc6071db946ea4edee93ae4f08023eb7c0d1234b169c2c34e7", func := "loop.example/replayverifier/laws.FnTouchesNear", spec := "fnTouchesNear", apart := false }
def FnTouchesNearSaid : Prop := fnTouchesNearRow.holds Try.pinned (OpenSpec.ofChange fnTouchesNearSpec)

/-- ITS FALSE NEIGHBOUR: 'it returns false'. Refute it at one input. -/
def fnTouchesNearWrong : ChangeSpec := { name := "fnTouchesNear", fn := fun _ => fun
  | [d1, d2] => { results := [.lit (.bool false)], args := [d1, d2] }
  | _ => none }
def FnTouchesNearWrongFalsely : Prop := fnTouchesNearRow.holds Try.pinned (OpenSpec.ofChange fnTouchesNearWrong)

/-- 'laws.FnExactBoxValid': WHATEVER THE INPUT: true; the input reads as it did. -/
def fnExactBoxValidSpec : ChangeSpec := { name := "fnExactBoxValid", fn := fun _ => fun
  | [d] => { results := [.lit (.bool true)], args := [d] }
  | _ => none }
def fnExactBoxValidRow : OpenClaim := { program := "ytkkifikdnjajjab", sum := "b3e92a620c6fdedc6071db946ea4edee93ae4f08023eb7c0d1234b169c2c34e7", func := "loop.example/replayverifier/laws.FnExactBoxValid", spec := "fnExactBoxValid", apart := false }
def FnExactBoxValidSaid : Prop := fnExactBoxValidRow.holds Try.pinned (OpenSpec.ofChange fnExactBoxValidSpec)

/-- ITS FALSE NEIGHBOUR: 'it returns false'. Refute it at one input. -/
def fnExactBoxValidWrong : ChangeSpec := { name := "fnExactBoxValid", fn := fun _ => fun
  | [d] => { results := [.lit (.bool false)], args := [d] }
  | _ => none }
def FnExactBoxValidWrongFalsely : Prop := fnExactBoxValidRow.holds Try.pinned (OpenSpec.ofChange fnExactBoxValidWrong)

/-- 'laws.FnExactBoxHas': WHATEVER THE INPUT: true; the input reads as it did. -/
def fnExactBoxHasSpec : ChangeSpec := { name := "fnExactBoxHas", fn := fun _ => fun
  | [d1, d2] => { results := [.lit (.bool true)], args := [d1, d2] }
  | _ => none }
def fnExactBoxHasRow : OpenClaim := { program := "ytkkifikdnjajjab", sum := "b3e92a620c6fdedc6071db946ea4edee93ae4f08023eb7c0d1234b169c2c34e7", func := "loop.example/replayverifier/laws.FnExactBoxHas", spec := "fnExactBoxHas", apart := false }
def FnExactBoxHasSaid : Prop := fnExactBoxHasRow.holds Try.pinned (OpenSpec.ofChange fnExactBoxHasSpec)

/-- ITS FALSE NEIGHBOUR: 'it returns false'. Refute it at one input. -/
def fnExactBoxHasWrong : ChangeSpec := { name := "fnExactBoxHas", fn := fun _ => fun
  | [d1, d2] => { results := [.lit (.bool false)], args := [d1, d2] }
  | _ => none }
def FnExactBoxHasWrongFalsely : Prop := fnExactBoxHasRow.holds Try.pinned (OpenSpec.ofChange fnExactBoxHasWrong)

/-- 'laws.FnExactBoxMeet': WHATEVER THE INPUT: true; the input reads as it did. -/
def fnExactBoxMeetSpec : ChangeSpec := { name := "fnExactBoxMeet", fn := fun _ => fun
  | [d1, d2] => { results := [.lit (.bool true)], args := [d1, d2] }
  | _ => none }
def fnExactBoxMeetRow : OpenClaim := { program := "ytkkifikdnjajjab", sum := "b3e92a620c6fdedc6071db946ea4edee93ae4f08023eb7c0d1234b169c2c34e7", func := "loop.example/replayverifier/laws.FnExactBoxMeet", spec := "fnExactBoxMeet", apart := false }
def FnExactBoxMeetSaid : Prop := fnExactBoxMeetRow.holds Try.pinned (OpenSpec.ofChange fnExactBoxMeetSpec)

/-- ITS FALSE NEIGHBOUR: 'it returns false'. Refute it at one input. -/
def fnExactBoxMeetWrong : ChangeSpec := { name := "fnExactBoxMeet", fn := fun _ => fun
  | [d1, d2] => { results := [.lit (.bool false)], args := [d1, d2] }
  | _ => none }
def FnExactBoxMeetWrongFalsely : Prop := fnExactBoxMeetRow.holds Try.pinned (OpenSpec.ofChange fnExactBoxMeetWrong)

/-- 'laws.FnExactBoxNearest': WHATEVER THE INPUT: true; the input reads as it did. -/
def fnExactBoxNearestSpec : ChangeSpec := { name := "fnExactBoxNearest", fn := fun _ => fun
  | [d1, d2] => { results := [.lit (.bool true)], args := [d1, d2] }
  | _ => none }
def fnExactBoxNearestRow : OpenClaim := { program := "ytkkifikdnjajjab", sum := "b3e92a620c6fdedc6071db946ea4edee93ae4f08023eb7c0d1234b169c2c34e7", func := "loop.example/replayverifier/laws.FnExactBoxNearest", spec := "fnExactBoxNearest", apart := false }
def FnExactBoxNearestSaid : Prop := fnExactBoxNearestRow.holds Try.pinned (OpenSpec.ofChange fnExactBoxNearestSpec)

/-- ITS FALSE NEIGHBOUR: 'it returns false'. Refute it at one input. -/
def fnExactBoxNearestWrong : ChangeSpec := { name := "fnExactBoxNearest", fn := fun _ => fun
  | [d1, d2] => { results := [.lit (.bool false)], args := [d1, d2] }
  | _ => none }
def FnExactBoxNearestWrongFalsely : Prop := fnExactBoxNearestRow.holds Try.pinned (OpenSpec.ofChange fnExactBoxNearestWrong)

/-- 'laws.FnExactBoxTouches': WHATEVER THE INPUT: true; the input reads as it did. -/
def fnExactBoxTouchesSpec : ChangeSpec := { name := "fnExactBoxTouches", fn := fun _ => fun
  | [d1, d2, d3] => { results := [.lit (.bool true)], args := [d1, d2, d3] }
  | _ => none }
def fnExactBoxTouchesRow : OpenClaim := { program := "ytkkifikdnjajjab", sum := "b3e92a620c6fdedc6071db946ea4edee93ae4f08023eb7c0d1234b169c2c34e7", func := "loop.example/replayverifier/laws.FnExactBoxTouches", spec := "fnExactBoxTouches", apart := false }
def FnExactBoxTouchesSaid : Prop := fnExactBoxTouchesRow.holds Try.pinned (OpenSpec.ofChange fnExactBoxTouchesSpec)

/-- ITS FALSE NEIGHBOUR: 'it returns false'. Refute it at one input. -/
def fnExactBoxTouchesWrong : ChangeSpec := { name := "fnExactBoxTouches", fn := fun _ => fun
  | [d1, d2, d3] => { results := [.lit (.bool false)], args := [d1, d2, d3] }
  | _ => none }
def FnExactBoxTouchesWrongFalsely : Prop := fnExactBoxTouchesRow.holds Try.pinned (OpenSpec.ofChange fnExactBoxTouchesWrong)

/- THE SECOND FORM. 'bulk': how many values and letters a reading holds, each counted each time it is reached (what is shared counts as often as it is met; a slice's spare places count too). A statement '..UptoSaid' is the law's where the arguments, and the package variables that the reading takes, are together of bulk at most 1048576: NARROWER than '..Said'. Prove '..Said' where nothing that the law and all that it calls make is longer than what came in: it says more and counts as full. Else prove '..UptoSaid'. A law counts once. -/
mutual
def uptoBulk {H : Type} : DataW H → Nat
  | .lit (.string bytes) => bytes.length + 1
  | .lit _ => 1
  | .nil => 1
  | .ptr d => uptoBulk d + 1
  | .slice elems spare => uptoBulkAll elems + uptoBulkAll spare + 1
  | .agg parts => uptoBulkAll parts + 1
  | .iface _ d => uptoBulk d + 1
  | .map entries => uptoBulkEntries entries + 1
  | .held _ => 1
def uptoBulkAll {H : Type} : List (DataW H) → Nat
  | [] => 0
  | d :: r => uptoBulk d + uptoBulkAll r
def uptoBulkEntries {H : Type} : List (Lit × DataW H) → Nat
  | [] => 0
  | x :: r => uptoBulkEntry x + uptoBulkEntries r
def uptoBulkEntry {H : Type} : Lit × DataW H → Nat
  | (.string bytes, d) => bytes.length + uptoBulk d + 1
  | (_, d) => uptoBulk d + 1
 end
def uptoSmall : (H : Type) → List (DataW H) → Bool := fun _ ds => decide (uptoBulkAll ds ≤ 1048576)
def OpenSpec.upto (s : _root_.Go.ChangeSpec) : _root_.Go.OpenSpec := { _root_.Go.OpenSpec.ofChange s with cond := some uptoSmall }

/-- 'laws.FnTouchesMore', WHERE WHAT IT READS IS OF BULK AT MOST 1048576: true; the input reads as it did. -/
def fnTouchesMoreUptoRow : OpenClaim := { program := "ytkkifikdnjajjab", sum := "b3e92a620c6fdedc6071db946ea4edee93ae4f08023eb7c0d1234b169c2c34e7", func := "loop.example/replayverifier/laws.FnTouchesMore", spec := "fnTouchesMore", apart := false, narrowed := true }
def FnTouchesMoreUptoSaid : Prop := fnTouchesMoreUptoRow.holds Try.pinned (OpenSpec.upto fnTouchesMoreSpec)

/-- 'laws.FnBoxPoint', WHERE WHAT IT READS IS OF BULK AT MOST 1048576: true; the input reads as it did. -/
def fnBoxPointUptoRow : OpenClaim := { program := "ytkkifikdnjajjab", sum := "b3e92a620c6fdedc6071db946ea4edee93ae4f08023eb7c0d1234b169c2c34e7", func := "loop.example/replayverifier/laws.FnBoxPoint", spec := "fnBoxPoint", apart := false, narrowed := true }
def FnBoxPointUptoSaid : Prop := fnBoxPointUptoRow.holds Try.pinned (OpenSpec.upto fnBoxPointSpec)

/-- 'laws.FnNearestTwice', WHERE WHAT IT READS IS OF BULK AT MOST 1048576: true; the input reads as it did. -/
def fnNearestTwiceUptoRow : OpenClaim := { program := "ytkkifikdnjajjab", sum := "b3e92a620c6fdedc6071db946ea4edee93ae4f08023eb7c0d1234b169c2c34e7", func := "loop.example/replayverifier/laws.FnNearestTwice", spec := "fnNearestTwice", apart := false, narrowed := true }
def FnNearestTwiceUptoSaid : Prop := fnNearestTwiceUptoRow.holds Try.pinned (OpenSpec.upto fnNearestTwiceSpec)

/-- 'laws.FnTouchesNear', WHERE WHAT IT READS IS OF BULK AT MOST 1048576: true; the input reads as it did. -/
def fnTouchesNearUptoRow : OpenClaim := { program := "ytkkifikdnjajjab", sum := "b3e92a620c6fdedc6071db946ea4edee93ae4f08023eb7c0d1234b169c2c34e7", func := "loop.example/replayverifier/laws.FnTouchesNear", spec := "fnTouchesNear", apart := false, narrowed := true }
def FnTouchesNearUptoSaid : Prop := fnTouchesNearUptoRow.holds Try.pinned (OpenSpec.upto fnTouchesNearSpec)

/-- 'laws.FnExactBoxValid', WHERE WHAT IT READS IS OF BULK AT MOST 1048576: true; the input reads as it did. -/
def fnExactBoxValidUptoRow : OpenClaim := { program := "ytkkifikdnjajjab", sum := "b3e92a620c6fdedc6071db946ea4edee93ae4f08023eb7c0d1234b169c2c34e7", func := "loop.example/replayverifier/laws.FnExactBoxValid", spec := "fnExactBoxValid", apart := false, narrowed := true }
def FnExactBoxValidUptoSaid : Prop := fnExactBoxValidUptoRow.holds Try.pinned (OpenSpec.upto fnExactBoxValidSpec)

/-- 'laws.FnExactBoxHas', WHERE WHAT IT READS IS OF BULK AT MOST 1048576: true; the input reads as it did. -/
def fnExactBoxHasUptoRow : OpenClaim := { program := "ytkkifikdnjajjab", sum := "b3e92a620c6fdedc6071db946ea4edee93ae4f08023eb7c0d1234b169c2c34e7", func := "loop.example/replayverifier/laws.FnExactBoxHas", spec := "fnExactBoxHas", apart := false, narrowed := true }
def FnExactBoxHasUptoSaid : Prop := fnExactBoxHasUptoRow.holds Try.pinned (OpenSpec.upto fnExactBoxHasSpec)

/-- 'laws.FnExactBoxMeet', WHERE WHAT IT READS IS OF BULK AT MOST 1048576: true; the input reads as it did. -/
def fnExactBoxMeetUptoRow : OpenClaim := { program := "ytkkifikdnjajjab", sum := "b3e92a620c6fdedc6071db946ea4edee93ae4f08023eb7c0d1234b169c2c34e7", func := "loop.example/replayverifier/laws.FnExactBoxMeet", spec := "fnExactBoxMeet", apart := false, narrowed := true }
def FnExactBoxMeetUptoSaid : Prop := fnExactBoxMeetUptoRow.holds Try.pinned (OpenSpec.upto fnExactBoxMeetSpec)

/-- 'laws.FnExactBoxNearest', WHERE WHAT IT READS IS OF BULK AT MOST 1048576: true; the input reads as it did. -/
def fnExactBoxNearestUptoRow : OpenClaim := { program := "ytkkifikdnjajjab", sum := "b3e92a620c6fdedc6071db946ea4edee93ae4f08023eb7c0d1234b169c2c34e7", func := "loop.example/replayverifier/laws.FnExactBoxNearest", spec := "fnExactBoxNearest", apart := false, narrowed := true }
def FnExactBoxNearestUptoSaid : Prop := fnExactBoxNearestUptoRow.holds Try.pinned (OpenSpec.upto fnExactBoxNearestSpec)

/-- 'laws.FnExactBoxTouches', WHERE WHAT IT READS IS OF BULK AT MOST 1048576: true; the input reads as it did. -/
def fnExactBoxTouchesUptoRow : OpenClaim := { program := "ytkkifikdnjajjab", sum := "b3e92a620c6fdedc6071db946ea4edee93ae4f08023eb7c0d1234b169c2c34e7", func := "loop.example/replayverifier/laws.FnExactBoxTouches", spec := "fnExactBoxTouches", apart := false, narrowed := true }
def FnExactBoxTouchesUptoSaid : Prop := fnExactBoxTouchesUptoRow.holds Try.pinned (OpenSpec.upto fnExactBoxTouchesSpec)

end Rows
end Go.Proofs.Ytkkifikdnjajjab
