/-
  DERIVED. GIVEN WITH THE SEED: THE CARDS: each row of YtkpogcflgghfiaaDoorRows.lean that lists a variable, with what it lists TIED to the program's text (the seventh form; the later family's looks); each row that meets fmt, with fmt's text TOLD by the authors' own Lean function (tested against real Go, not proved from fmt's source: count such statements apart). THE CARD IS WHAT COUNTS. Prove the row's statement (the work); the ties are given (YtkpogcflgghfiaaDoorTie.lean); close each card by the builder's one call (the guide's Derived/Test/ToyasCard.lean, 'card_holds'). Laid BY PROGRAM, IN A SANDBOX (cutbox-door.mjs). By AI agents, Wed Nov 11 2026. No macro, syntax, notation, axiom, sorry.
-/
import Derived.Test.YtkpogcflgghfiaaDoorRows
import GoSem.ClaimSeven
namespace Go.Proofs.YtkpogcflgghfiaaDoor
namespace Rows

/-- THE TIED CARD OF 'laws.FnRunNext'. -/
def fnRunNextCard : Claim7 := { stood := { row := fnRunNextRow, standIns := [], harness := (true, "f1a14fdc8bb91e6606096a9c5704f81522330717fbdfaeb6ee52148933b10f9f"), looks := true }, kinds := [], alts := [], goes := true, laidByText := true, laidKinds := [.data], laidTests := true, laidLooks := .later }
def FnRunNextCardSaid : Prop := Claim7.holds Tryd.pinned (.plain (OpenSpec.ofChange fnRunNextSpec)) fnRunNextCard

/-- THE TIED CARD OF 'laws.FnRunValid'. -/
def fnRunValidCard : Claim7 := { stood := { row := fnRunValidRow, standIns := [], harness := (true, "f1a14fdc8bb91e6606096a9c5704f81522330717fbdfaeb6ee52148933b10f9f"), looks := true }, kinds := [], alts := [], goes := true, laidByText := true, laidKinds := [.data], laidTests := true, laidLooks := .later }
def FnRunValidCardSaid : Prop := Claim7.holds Tryd.pinned (.plain (OpenSpec.ofChange fnRunValidSpec)) fnRunValidCard

/-- THE TIED CARD OF 'laws.FnRunSame'. -/
def fnRunSameCard : Claim7 := { stood := { row := fnRunSameRow, standIns := [], harness := (true, "f1a14fdc8bb91e6606096a9c5704f81522330717fbdfaeb6ee52148933b10f9f"), looks := true }, kinds := [], alts := [], goes := true, laidByText := true, laidKinds := [.data], laidTests := true, laidLooks := .later }
def FnRunSameCardSaid : Prop := Claim7.holds Tryd.pinned (.plain (OpenSpec.ofChange fnRunSameSpec)) fnRunSameCard

/-- THE TIED CARD OF 'laws.FnRunFail'. -/
def fnRunFailCard : Claim7 := { stood := { row := fnRunFailRow, standIns := [], harness := (true, "f1a14fdc8bb91e6606096a9c5704f81522330717fbdfaeb6ee52148933b10f9f"), looks := true }, kinds := [], alts := [], goes := true, laidByText := true, laidKinds := [.data], laidTests := true, laidLooks := .later }
def FnRunFailCardSaid : Prop := Claim7.holds Tryd.pinned (.plain (OpenSpec.ofChange fnRunFailSpec)) fnRunFailCard

/-- THE SECOND FORM's CARD OF 'laws.FnRunNext'. -/
def fnRunNextUptoCard : Claim7 := { stood := { row := fnRunNextUptoRow, standIns := [], harness := (true, "f1a14fdc8bb91e6606096a9c5704f81522330717fbdfaeb6ee52148933b10f9f"), looks := true }, kinds := [], alts := [], goes := true, laidByText := true, laidKinds := [.data], laidTests := true, laidLooks := .later }
def FnRunNextUptoCardSaid : Prop := Claim7.holds Tryd.pinned (.plain (OpenSpec.upto fnRunNextSpec)) fnRunNextUptoCard

/-- THE SECOND FORM's CARD OF 'laws.FnRunValid'. -/
def fnRunValidUptoCard : Claim7 := { stood := { row := fnRunValidUptoRow, standIns := [], harness := (true, "f1a14fdc8bb91e6606096a9c5704f81522330717fbdfaeb6ee52148933b10f9f"), looks := true }, kinds := [], alts := [], goes := true, laidByText := true, laidKinds := [.data], laidTests := true, laidLooks := .later }
def FnRunValidUptoCardSaid : Prop := Claim7.holds Tryd.pinned (.plain (OpenSpec.upto fnRunValidSpec)) fnRunValidUptoCard

/-- THE SECOND FORM's CARD OF 'laws.FnRunSame'. -/
def fnRunSameUptoCard : Claim7 := { stood := { row := fnRunSameUptoRow, standIns := [], harness := (true, "f1a14fdc8bb91e6606096a9c5704f81522330717fbdfaeb6ee52148933b10f9f"), looks := true }, kinds := [], alts := [], goes := true, laidByText := true, laidKinds := [.data], laidTests := true, laidLooks := .later }
def FnRunSameUptoCardSaid : Prop := Claim7.holds Tryd.pinned (.plain (OpenSpec.upto fnRunSameSpec)) fnRunSameUptoCard

/-- THE SECOND FORM's CARD OF 'laws.FnRunFail'. -/
def fnRunFailUptoCard : Claim7 := { stood := { row := fnRunFailUptoRow, standIns := [], harness := (true, "f1a14fdc8bb91e6606096a9c5704f81522330717fbdfaeb6ee52148933b10f9f"), looks := true }, kinds := [], alts := [], goes := true, laidByText := true, laidKinds := [.data], laidTests := true, laidLooks := .later }
def FnRunFailUptoCardSaid : Prop := Claim7.holds Tryd.pinned (.plain (OpenSpec.upto fnRunFailSpec)) fnRunFailUptoCard
end Rows
end Go.Proofs.YtkpogcflgghfiaaDoor
