/-
  DERIVED. GIVEN WITH THE SEED: THE CARDS: each row of YtgbiagonfbnooaaGreatDoorRows.lean that lists a variable, with what it lists TIED to the program's text (the seventh form; the later family's looks); each row that meets fmt, with fmt's text TOLD by the authors' own Lean function (tested against real Go, not proved from fmt's source: count such statements apart). THE CARD IS WHAT COUNTS. Prove the row's statement (the work); the ties are given (YtgbiagonfbnooaaGreatDoorTie.lean); close each card by the builder's one call (the guide's Derived/Test/ToyasCard.lean, 'card_holds'). Laid BY PROGRAM, IN A SANDBOX (cutbox-door.mjs). By AI agents, Wed Nov 11 2026. No macro, syntax, notation, axiom, sorry.
-/
import Derived.Test.YtgbiagonfbnooaaGreatDoorRows
import GoSem.ClaimSeven
namespace Go.Proofs.YtgbiagonfbnooaaGreatDoor
namespace Rows

/-- THE TIED CARD OF 'laws.FnEncode'. -/
def fnEncodeCard : Claim7 := { stood := { row := fnEncodeRow, standIns := [], harness := (true, "1ead8b1a689c853667295d2c1fa46ac16238d96ef5ca74d069fb98eb7f7ff974"), looks := true }, kinds := [], alts := [], laidByText := true, laidKinds := [.data, .data, .data, .data, .sentinel, .sentinel, .data, .pinned], laidTests := true, laidLooks := .later }
def FnEncodeCardSaid : Prop := Claim7.holds Tryz.pinned (.plain (OpenSpec.ofChange fnEncodeSpec)) fnEncodeCard

/-- THE TIED CARD OF 'laws.FnDecode'. -/
def fnDecodeCard : Claim7 := { stood := { row := fnDecodeRow, standIns := [], harness := (true, "1ead8b1a689c853667295d2c1fa46ac16238d96ef5ca74d069fb98eb7f7ff974"), looks := true }, kinds := [], alts := [], laidByText := true, laidKinds := [.data, .data, .data, .data, .sentinel, .sentinel, .data, .pinned], laidTests := true, laidLooks := .later }
def FnDecodeCardSaid : Prop := Claim7.holds Tryz.pinned (.plain (OpenSpec.ofChange fnDecodeSpec)) fnDecodeCard

/-- THE TIED CARD OF 'laws.FnDecodeCut'. -/
def fnDecodeCutCard : Claim7 := { stood := { row := fnDecodeCutRow, standIns := [], harness := (true, "1ead8b1a689c853667295d2c1fa46ac16238d96ef5ca74d069fb98eb7f7ff974"), looks := true }, kinds := [], alts := [], laidByText := true, laidKinds := [.data, .data, .data, .data, .sentinel, .sentinel, .data, .pinned], laidTests := true, laidLooks := .later }
def FnDecodeCutCardSaid : Prop := Claim7.holds Tryz.pinned (.plain (OpenSpec.ofChange fnDecodeCutSpec)) fnDecodeCutCard

/-- THE TIED CARD OF 'laws.FnDecodeBlank'. -/
def fnDecodeBlankCard : Claim7 := { stood := { row := fnDecodeBlankRow, standIns := [], harness := (true, "1ead8b1a689c853667295d2c1fa46ac16238d96ef5ca74d069fb98eb7f7ff974"), looks := true }, kinds := [], alts := [], laidByText := true, laidKinds := [.data, .data, .data, .data, .sentinel, .sentinel, .data, .pinned], laidTests := true, laidLooks := .later }
def FnDecodeBlankCardSaid : Prop := Claim7.holds Tryz.pinned (.plain (OpenSpec.ofChange fnDecodeBlankSpec)) fnDecodeBlankCard

/-- THE SECOND FORM's CARD OF 'laws.FnEncode'. -/
def fnEncodeUptoCard : Claim7 := { stood := { row := fnEncodeUptoRow, standIns := [], harness := (true, "1ead8b1a689c853667295d2c1fa46ac16238d96ef5ca74d069fb98eb7f7ff974"), looks := true }, kinds := [], alts := [], laidByText := true, laidKinds := [.data, .data, .data, .data, .sentinel, .sentinel, .data, .pinned], laidTests := true, laidLooks := .later }
def FnEncodeUptoCardSaid : Prop := Claim7.holds Tryz.pinned (.plain (OpenSpec.upto fnEncodeSpec)) fnEncodeUptoCard

/-- THE SECOND FORM's CARD OF 'laws.FnDecode'. -/
def fnDecodeUptoCard : Claim7 := { stood := { row := fnDecodeUptoRow, standIns := [], harness := (true, "1ead8b1a689c853667295d2c1fa46ac16238d96ef5ca74d069fb98eb7f7ff974"), looks := true }, kinds := [], alts := [], laidByText := true, laidKinds := [.data, .data, .data, .data, .sentinel, .sentinel, .data, .pinned], laidTests := true, laidLooks := .later }
def FnDecodeUptoCardSaid : Prop := Claim7.holds Tryz.pinned (.plain (OpenSpec.upto fnDecodeSpec)) fnDecodeUptoCard

/-- THE SECOND FORM's CARD OF 'laws.FnDecodeCut'. -/
def fnDecodeCutUptoCard : Claim7 := { stood := { row := fnDecodeCutUptoRow, standIns := [], harness := (true, "1ead8b1a689c853667295d2c1fa46ac16238d96ef5ca74d069fb98eb7f7ff974"), looks := true }, kinds := [], alts := [], laidByText := true, laidKinds := [.data, .data, .data, .data, .sentinel, .sentinel, .data, .pinned], laidTests := true, laidLooks := .later }
def FnDecodeCutUptoCardSaid : Prop := Claim7.holds Tryz.pinned (.plain (OpenSpec.upto fnDecodeCutSpec)) fnDecodeCutUptoCard

/-- THE SECOND FORM's CARD OF 'laws.FnDecodeBlank'. -/
def fnDecodeBlankUptoCard : Claim7 := { stood := { row := fnDecodeBlankUptoRow, standIns := [], harness := (true, "1ead8b1a689c853667295d2c1fa46ac16238d96ef5ca74d069fb98eb7f7ff974"), looks := true }, kinds := [], alts := [], laidByText := true, laidKinds := [.data, .data, .data, .data, .sentinel, .sentinel, .data, .pinned], laidTests := true, laidLooks := .later }
def FnDecodeBlankUptoCardSaid : Prop := Claim7.holds Tryz.pinned (.plain (OpenSpec.upto fnDecodeBlankSpec)) fnDecodeBlankUptoCard
end Rows
end Go.Proofs.YtgbiagonfbnooaaGreatDoor
