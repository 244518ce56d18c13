/-
  NARROWER THAN 'FOR EVERY INPUT', by the rows' own cells (each row's printed sentence says how): FnName: ifaces, laid · FnExactVerifyName: ifaces, laid.
  DERIVED. THE GIVEN ROWS OF THIS SEAT. 2 by the template 'for every input the law returns true; each argument reads behind the call as it read before'; 0 by the template 'total and deterministic' (their statements: YtienbaikhliniaaDoorTotals.lean).
  GIVEN WITH THE SEED: the statements are not yours to turn. If you find one false, say at which input.
  Laid BY PROGRAM, IN A SANDBOX (cutbox-rows.mjs): the forced cells as the released guide's own fill.sh prints them over the translation 9ba3b90661f39a3a… (all of the seat's roots in one cut). By AI agents, Wed Nov 11 2026. No macro, syntax, notation, axiom, sorry.
-/
import Derived.Test.YtienbaikhliniaaDoorChecked
import GoSem.Claim
import GoSem.ClaimJoined
import GoSem.ClaimMapViews
import Derived.JoinedTies
import Derived.KernelRfl
namespace Go.Proofs.YtienbaikhliniaaDoor
/- THE CELL 'sum', in the pinned program and in every row, IS THE sha256 OF THE DUMP (.gsa) THAT YtienbaikhliniaaDoorProg.lean LOADS. Nothing in Lean hashes anything: it is a label: what it is worth is what the hold of that sum in a sandbox is worth. -/
noncomputable def Tryd.pinned : Pinned := { name := "ytienbaikhliniaadoor", sum := "9ba3b90661f39a3ad6a1be3907dcf584ca440e29ce095bec6b8a9955b6d20136", checked := Tryd.checked }
namespace Rows
def none {H : Type} : Left H := { results := [], args := [] }

/- WHAT THE LISTED PACKAGE-LEVEL VARIABLES READ AS WHEN THE CALL BEGINS. Each datum BY PROGRAM (the guide's laid-datum.mjs) off the statement by which the dump's own 'gosem.cut.vars' lays the variable. In a bare row this is a premise. The card (YtienbaikhliniaaDoorCards.lean) ties it to the program's text. -/
def laid_loop_example_replayverifier_impl_errText {H : Type} : DataW H := .iface "*errors.errorString" (.ptr (.agg [.lit (.string [116, 101, 120, 116])]))
def laid_loop_example_replayverifier_impl_errLevel {H : Type} : DataW H := .iface "*errors.errorString" (.ptr (.agg [.lit (.string [108, 101, 118, 101, 108])]))
def laid_loop_example_replayverifier_impl_errKey {H : Type} : DataW H := .iface "*errors.errorString" (.ptr (.agg [.lit (.string [107, 101, 121])]))
def laid_loop_example_replayverifier_impl_errTag {H : Type} : DataW H := .iface "*errors.errorString" (.ptr (.agg [.lit (.string [116, 97, 103])]))
def laid_loop_example_replayverifier_impl_errInput {H : Type} : DataW H := .iface "*errors.errorString" (.ptr (.agg [.lit (.string [105, 110, 112, 117, 116])]))
def laid_loop_example_replayverifier_impl_errRange {H : Type} : DataW H := .iface "*errors.errorString" (.ptr (.agg [.lit (.string [114, 97, 110, 103, 101])]))
def laid_loop_example_replayverifier_impl_errHash {H : Type} : DataW H := .iface "*errors.errorString" (.ptr (.agg [.lit (.string [104, 97, 115, 104])]))
def laid_loop_example_replayverifier_impl_errOpen {H : Type} : DataW H := .iface "*errors.errorString" (.ptr (.agg [.lit (.string [111, 112, 101, 110])]))
def laid_loop_example_replayverifier_impl_errScore {H : Type} : DataW H := .iface "*errors.errorString" (.ptr (.agg [.lit (.string [115, 99, 111, 114, 101])]))

/-- 'laws.FnName': WHATEVER THE INPUT: true; the input reads as it did. -/
def fnNameSpec : ChangeSpec := { name := "fnName", vars := ["loop.example/replayverifier/impl.errText", "loop.example/replayverifier/impl.errLevel", "loop.example/replayverifier/impl.errKey", "loop.example/replayverifier/impl.errTag", "loop.example/replayverifier/impl.errInput", "loop.example/replayverifier/impl.errRange", "loop.example/replayverifier/impl.errHash", "loop.example/replayverifier/impl.errOpen", "loop.example/replayverifier/impl.errScore"], fn := fun _ => fun
  | [d1, d2, g1, g2, g3, g4, g5, g6, g7, g8, g9] => { results := [.lit (.bool true)], args := [d1, d2], vars := [g1, g2, g3, g4, g5, g6, g7, g8, g9] }
  | _ => none }
def fnNameRow : OpenClaim := { program := "ytienbaikhliniaadoor", sum := "9ba3b90661f39a3ad6a1be3907dcf584ca440e29ce095bec6b8a9955b6d20136", func := "loop.example/replayverifier/laws.FnName", spec := "fnName", unfollowed := true, recurses := true, named := ["loop.example/replayverifier/impl.errText", "loop.example/replayverifier/impl.errLevel", "loop.example/replayverifier/impl.errKey", "loop.example/replayverifier/impl.errTag", "loop.example/replayverifier/impl.errInput", "loop.example/replayverifier/impl.errRange", "loop.example/replayverifier/impl.errHash", "loop.example/replayverifier/impl.errOpen", "loop.example/replayverifier/impl.errScore"], ifaces := true, apart := false, laid := [("loop.example/replayverifier/impl.errText", laid_loop_example_replayverifier_impl_errText), ("loop.example/replayverifier/impl.errLevel", laid_loop_example_replayverifier_impl_errLevel), ("loop.example/replayverifier/impl.errKey", laid_loop_example_replayverifier_impl_errKey), ("loop.example/replayverifier/impl.errTag", laid_loop_example_replayverifier_impl_errTag), ("loop.example/replayverifier/impl.errInput", laid_loop_example_replayverifier_impl_errInput), ("loop.example/replayverifier/impl.errRange", laid_loop_example_replayverifier_impl_errRange), ("loop.example/replayverifier/impl.errHash", laid_loop_example_replayverifier_impl_errHash), ("loop.example/replayverifier/impl.errOpen", laid_loop_example_replayverifier_impl_errOpen), ("loop.example/replayverifier/impl.errScore", laid_loop_example_replayverifier_impl_errScore)] }
def FnNameSaid : Prop := fnNameRow.holds Tryd.pinned (OpenSpec.ofChange fnNameSpec)

/-- ITS FALSE NEIGHBOUR: 'it returns false'. Refute it at one input. -/
def fnNameWrong : ChangeSpec := { name := "fnName", vars := ["loop.example/replayverifier/impl.errText", "loop.example/replayverifier/impl.errLevel", "loop.example/replayverifier/impl.errKey", "loop.example/replayverifier/impl.errTag", "loop.example/replayverifier/impl.errInput", "loop.example/replayverifier/impl.errRange", "loop.example/replayverifier/impl.errHash", "loop.example/replayverifier/impl.errOpen", "loop.example/replayverifier/impl.errScore"], fn := fun _ => fun
  | [d1, d2, g1, g2, g3, g4, g5, g6, g7, g8, g9] => { results := [.lit (.bool false)], args := [d1, d2], vars := [g1, g2, g3, g4, g5, g6, g7, g8, g9] }
  | _ => none }
def FnNameWrongFalsely : Prop := fnNameRow.holds Tryd.pinned (OpenSpec.ofChange fnNameWrong)

/-- 'laws.FnExactVerifyName': WHATEVER THE INPUT: true; the input reads as it did. -/
def fnExactVerifyNameSpec : ChangeSpec := { name := "fnExactVerifyName", vars := ["loop.example/replayverifier/impl.errText", "loop.example/replayverifier/impl.errLevel", "loop.example/replayverifier/impl.errKey", "loop.example/replayverifier/impl.errTag", "loop.example/replayverifier/impl.errInput", "loop.example/replayverifier/impl.errRange", "loop.example/replayverifier/impl.errHash", "loop.example/replayverifier/impl.errOpen", "loop.example/replayverifier/impl.errScore"], fn := fun _ => fun
  | [d, g1, g2, g3, g4, g5, g6, g7, g8, g9] => { results := [.lit (.bool true)], args := [d], vars := [g1, g2, g3, g4, g5, g6, g7, g8, g9] }
  | _ => none }
def fnExactVerifyNameRow : OpenClaim := { program := "ytienbaikhliniaadoor", sum := "9ba3b90661f39a3ad6a1be3907dcf584ca440e29ce095bec6b8a9955b6d20136", func := "loop.example/replayverifier/laws.FnExactVerifyName", spec := "fnExactVerifyName", unfollowed := true, recurses := true, named := ["loop.example/replayverifier/impl.errText", "loop.example/replayverifier/impl.errLevel", "loop.example/replayverifier/impl.errKey", "loop.example/replayverifier/impl.errTag", "loop.example/replayverifier/impl.errInput", "loop.example/replayverifier/impl.errRange", "loop.example/replayverifier/impl.errHash", "loop.example/replayverifier/impl.errOpen", "loop.example/replayverifier/impl.errScore"], ifaces := true, apart := false, laid := [("loop.example/replayverifier/impl.errText", laid_loop_example_replayverifier_impl_errText), ("loop.example/replayverifier/impl.errLevel", laid_loop_example_replayverifier_impl_errLevel), ("loop.example/replayverifier/impl.errKey", laid_loop_example_replayverifier_impl_errKey), ("loop.example/replayverifier/impl.errTag", laid_loop_example_replayverifier_impl_errTag), ("loop.example/replayverifier/impl.errInput", laid_loop_example_replayverifier_impl_errInput), ("loop.example/replayverifier/impl.errRange", laid_loop_example_replayverifier_impl_errRange), ("loop.example/replayverifier/impl.errHash", laid_loop_example_replayverifier_impl_errHash), ("loop.example/replayverifier/impl.errOpen", laid_loop_example_replayverifier_impl_errOpen), ("loop.example/replayverifier/impl.errScore", laid_loop_example_replayverifier_impl_errScore)] }
def FnExactVerifyNameSaid : Prop := fnExactVerifyNameRow.holds Tryd.pinned (OpenSpec.ofChange fnExactVerifyNameSpec)

/-- ITS FALSE NEIGHBOUR: 'it returns false'. Refute it at one input. -/
def fnExactVerifyNameWrong : ChangeSpec := { name := "fnExactVerifyName", vars := ["loop.example/replayverifier/impl.errText", "loop.example/replayverifier/impl.errLevel", "loop.example/replayverifier/impl.errKey", "loop.example/replayverifier/impl.errTag", "loop.example/replayverifier/impl.errInput", "loop.example/replayverifier/impl.errRange", "loop.example/replayverifier/impl.errHash", "loop.example/replayverifier/impl.errOpen", "loop.example/replayverifier/impl.errScore"], fn := fun _ => fun
  | [d, g1, g2, g3, g4, g5, g6, g7, g8, g9] => { results := [.lit (.bool false)], args := [d], vars := [g1, g2, g3, g4, g5, g6, g7, g8, g9] }
  | _ => none }
def FnExactVerifyNameWrongFalsely : Prop := fnExactVerifyNameRow.holds Tryd.pinned (OpenSpec.ofChange fnExactVerifyNameWrong)

/- THE SECOND FORM. 'bulk': how many values and letters a reading holds, each counted each time it is reached (what is shared counts as often as it is met; a slice's spare places count too). A statement '..UptoSaid' is the law's where the arguments, and the package variables that the reading takes, are together of bulk at most 1048576: NARROWER than '..Said'. Prove '..Said' where nothing that the law and all that it calls make is longer than what came in: it says more and counts as full. Else prove '..UptoSaid'. A law counts once. -/
mutual
def uptoBulk {H : Type} : DataW H → Nat
  | .lit (.string bytes) => bytes.length + 1
  | .lit _ => 1
  | .nil => 1
  | .ptr d => uptoBulk d + 1
  | .slice elems spare => uptoBulkAll elems + uptoBulkAll spare + 1
  | .agg parts => uptoBulkAll parts + 1
  | .iface _ d => uptoBulk d + 1
  | .map entries => uptoBulkEntries entries + 1
  | .held _ => 1
def uptoBulkAll {H : Type} : List (DataW H) → Nat
  | [] => 0
  | d :: r => uptoBulk d + uptoBulkAll r
def uptoBulkEntries {H : Type} : List (Lit × DataW H) → Nat
  | [] => 0
  | x :: r => uptoBulkEntry x + uptoBulkEntries r
def uptoBulkEntry {H : Type} : Lit × DataW H → Nat
  | (.string bytes, d) => bytes.length + uptoBulk d + 1
  | (_, d) => uptoBulk d + 1
 end
def uptoSmall : (H : Type) → List (DataW H) → Bool := fun _ ds => decide (uptoBulkAll ds ≤ 1048576)
def OpenSpec.upto (s : _root_.Go.ChangeSpec) : _root_.Go.OpenSpec := { _root_.Go.OpenSpec.ofChange s with cond := some uptoSmall }

/-- 'laws.FnName', WHERE WHAT IT READS IS OF BULK AT MOST 1048576: true; the input reads as it did. -/
def fnNameUptoRow : OpenClaim := { program := "ytienbaikhliniaadoor", sum := "9ba3b90661f39a3ad6a1be3907dcf584ca440e29ce095bec6b8a9955b6d20136", func := "loop.example/replayverifier/laws.FnName", spec := "fnName", unfollowed := true, recurses := true, named := ["loop.example/replayverifier/impl.errText", "loop.example/replayverifier/impl.errLevel", "loop.example/replayverifier/impl.errKey", "loop.example/replayverifier/impl.errTag", "loop.example/replayverifier/impl.errInput", "loop.example/replayverifier/impl.errRange", "loop.example/replayverifier/impl.errHash", "loop.example/replayverifier/impl.errOpen", "loop.example/replayverifier/impl.errScore"], ifaces := true, apart := false, laid := [("loop.example/replayverifier/impl.errText", laid_loop_example_replayverifier_impl_errText), ("loop.example/replayverifier/impl.errLevel", laid_loop_example_replayverifier_impl_errLevel), ("loop.example/replayverifier/impl.errKey", laid_loop_example_replayverifier_impl_errKey), ("loop.example/replayverifier/impl.errTag", laid_loop_example_replayverifier_impl_errTag), ("loop.example/replayverifier/impl.errInput", laid_loop_example_replayverifier_impl_errInput), ("loop.example/replayverifier/impl.errRange", laid_loop_example_replayverifier_impl_errRange), ("loop.example/replayverifier/impl.errHash", laid_loop_example_replayverifier_impl_errHash), ("loop.example/replayverifier/impl.errOpen", laid_loop_example_replayverifier_impl_errOpen), ("loop.example/replayverifier/impl.errScore", laid_loop_example_replayverifier_impl_errScore)], narrowed := true }
def FnNameUptoSaid : Prop := fnNameUptoRow.holds Tryd.pinned (OpenSpec.upto fnNameSpec)

/-- 'laws.FnExactVerifyName', WHERE WHAT IT READS IS OF BULK AT MOST 1048576: true; the input reads as it did. -/
def fnExactVerifyNameUptoRow : OpenClaim := { program := "ytienbaikhliniaadoor", sum := "9ba3b90661f39a3ad6a1be3907dcf584ca440e29ce095bec6b8a9955b6d20136", func := "loop.example/replayverifier/laws.FnExactVerifyName", spec := "fnExactVerifyName", unfollowed := true, recurses := true, named := ["loop.example/replayverifier/impl.errText", "loop.example/replayverifier/impl.errLevel", "loop.example/replayverifier/impl.errKey", "loop.example/replayverifier/impl.errTag", "loop.example/replayverifier/impl.errInput", "loop.example/replayverifier/impl.errRange", "loop.example/replayverifier/impl.errHash", "loop.example/replayverifier/impl.errOpen", "loop.example/replayverifier/impl.errScore"], ifaces := true, apart := false, laid := [("loop.example/replayverifier/impl.errText", laid_loop_example_replayverifier_impl_errText), ("loop.example/replayverifier/impl.errLevel", laid_loop_example_replayverifier_impl_errLevel), ("loop.example/replayverifier/impl.errKey", laid_loop_example_replayverifier_impl_errKey), ("loop.example/replayverifier/impl.errTag", laid_loop_example_replayverifier_impl_errTag), ("loop.example/replayverifier/impl.errInput", laid_loop_example_replayverifier_impl_errInput), ("loop.example/replayverifier/impl.errRange", laid_loop_example_replayverifier_impl_errRange), ("loop.example/replayverifier/impl.errHash", laid_loop_example_replayverifier_impl_errHash), ("loop.example/replayverifier/impl.errOpen", laid_loop_example_replayverifier_impl_errOpen), ("loop.example/replayverifier/impl.errScore", laid_loop_example_replayverifier_impl_errScore)], narrowed := true }
def FnExactVerifyNameUptoSaid : Prop := fnExactVerifyNameUptoRow.holds Tryd.pinned (OpenSpec.upto fnExactVerifyNameSpec)

end Rows
end Go.Proofs.YtienbaikhliniaaDoor
