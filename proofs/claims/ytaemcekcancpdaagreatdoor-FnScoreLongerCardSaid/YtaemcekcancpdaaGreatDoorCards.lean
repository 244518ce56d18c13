/-
  DERIVED. GIVEN WITH THE SEED: THE CARDS: each row of YtaemcekcancpdaaGreatDoorRows.lean that lists a variable, with what it lists TIED to the program's text (the seventh form; the later family's looks); each row that meets fmt, with fmt's text TOLD by the authors' own Lean function (tested against real Go, not proved from fmt's source: count such statements apart). THE CARD IS WHAT COUNTS. Prove the row's statement (the work); the ties are given (YtaemcekcancpdaaGreatDoorTie.lean); close each card by the builder's one call (the guide's Derived/Test/ToyasCard.lean, 'card_holds'). Laid BY PROGRAM, IN A SANDBOX (cutbox-door.mjs). By AI agents, Wed Nov 11 2026. No macro, syntax, notation, axiom, sorry.
-/
import Derived.Test.YtaemcekcancpdaaGreatDoorRows
import GoSem.ClaimSeven
namespace Go.Proofs.YtaemcekcancpdaaGreatDoor
namespace Rows

/-- THE TIED CARD OF 'laws.FnRunBegin'. -/
def fnRunBeginCard : Claim7 := { stood := { row := fnRunBeginRow, standIns := [], harness := (true, "3532d616b30b00066ae57bb6a060ba101b620ae20a35f1b4cb8738ae399f0782"), looks := true }, kinds := [], alts := [], goes := true, laidByText := true, laidKinds := [.data], laidTests := true, laidLooks := .later }
def FnRunBeginCardSaid : Prop := Claim7.holds Tryz.pinned (.plain (OpenSpec.ofChange fnRunBeginSpec)) fnRunBeginCard

/-- THE TIED CARD OF 'laws.FnRunWalls'. -/
def fnRunWallsCard : Claim7 := { stood := { row := fnRunWallsRow, standIns := [], harness := (true, "3532d616b30b00066ae57bb6a060ba101b620ae20a35f1b4cb8738ae399f0782"), looks := true }, kinds := [], alts := [], goes := true, laidByText := true, laidKinds := [.data], laidTests := true, laidLooks := .later }
def FnRunWallsCardSaid : Prop := Claim7.holds Tryz.pinned (.plain (OpenSpec.ofChange fnRunWallsSpec)) fnRunWallsCard

/-- THE TIED CARD OF 'laws.FnRunPath'. -/
def fnRunPathCard : Claim7 := { stood := { row := fnRunPathRow, standIns := [], harness := (true, "3532d616b30b00066ae57bb6a060ba101b620ae20a35f1b4cb8738ae399f0782"), looks := true }, kinds := [], alts := [], goes := true, laidByText := true, laidKinds := [.data], laidTests := true, laidLooks := .later }
def FnRunPathCardSaid : Prop := Claim7.holds Tryz.pinned (.plain (OpenSpec.ofChange fnRunPathSpec)) fnRunPathCard

/-- THE TIED CARD OF 'laws.FnScore'. -/
def fnScoreCard : Claim7 := { stood := { row := fnScoreRow, standIns := [], harness := (true, "3532d616b30b00066ae57bb6a060ba101b620ae20a35f1b4cb8738ae399f0782"), looks := true }, kinds := [], alts := [], goes := true, laidByText := true, laidKinds := [.data], laidTests := true, laidLooks := .later }
def FnScoreCardSaid : Prop := Claim7.holds Tryz.pinned (.plain (OpenSpec.ofChange fnScoreSpec)) fnScoreCard

/-- THE TIED CARD OF 'laws.FnScoreLonger'. -/
def fnScoreLongerCard : Claim7 := { stood := { row := fnScoreLongerRow, standIns := [], harness := (true, "3532d616b30b00066ae57bb6a060ba101b620ae20a35f1b4cb8738ae399f0782"), looks := true }, kinds := [], alts := [], goes := true, laidByText := true, laidKinds := [.data], laidTests := true, laidLooks := .later }
def FnScoreLongerCardSaid : Prop := Claim7.holds Tryz.pinned (.plain (OpenSpec.ofChange fnScoreLongerSpec)) fnScoreLongerCard

/-- THE TIED CARD OF 'laws.FnScoreGates'. -/
def fnScoreGatesCard : Claim7 := { stood := { row := fnScoreGatesRow, standIns := [], harness := (true, "3532d616b30b00066ae57bb6a060ba101b620ae20a35f1b4cb8738ae399f0782"), looks := true }, kinds := [], alts := [], goes := true, laidByText := true, laidKinds := [.data], laidTests := true, laidLooks := .later }
def FnScoreGatesCardSaid : Prop := Claim7.holds Tryz.pinned (.plain (OpenSpec.ofChange fnScoreGatesSpec)) fnScoreGatesCard

/-- THE SECOND FORM's CARD OF 'laws.FnRunBegin'. -/
def fnRunBeginUptoCard : Claim7 := { stood := { row := fnRunBeginUptoRow, standIns := [], harness := (true, "3532d616b30b00066ae57bb6a060ba101b620ae20a35f1b4cb8738ae399f0782"), looks := true }, kinds := [], alts := [], goes := true, laidByText := true, laidKinds := [.data], laidTests := true, laidLooks := .later }
def FnRunBeginUptoCardSaid : Prop := Claim7.holds Tryz.pinned (.plain (OpenSpec.upto fnRunBeginSpec)) fnRunBeginUptoCard

/-- THE SECOND FORM's CARD OF 'laws.FnRunWalls'. -/
def fnRunWallsUptoCard : Claim7 := { stood := { row := fnRunWallsUptoRow, standIns := [], harness := (true, "3532d616b30b00066ae57bb6a060ba101b620ae20a35f1b4cb8738ae399f0782"), looks := true }, kinds := [], alts := [], goes := true, laidByText := true, laidKinds := [.data], laidTests := true, laidLooks := .later }
def FnRunWallsUptoCardSaid : Prop := Claim7.holds Tryz.pinned (.plain (OpenSpec.upto fnRunWallsSpec)) fnRunWallsUptoCard

/-- THE SECOND FORM's CARD OF 'laws.FnRunPath'. -/
def fnRunPathUptoCard : Claim7 := { stood := { row := fnRunPathUptoRow, standIns := [], harness := (true, "3532d616b30b00066ae57bb6a060ba101b620ae20a35f1b4cb8738ae399f0782"), looks := true }, kinds := [], alts := [], goes := true, laidByText := true, laidKinds := [.data], laidTests := true, laidLooks := .later }
def FnRunPathUptoCardSaid : Prop := Claim7.holds Tryz.pinned (.plain (OpenSpec.upto fnRunPathSpec)) fnRunPathUptoCard

/-- THE SECOND FORM's CARD OF 'laws.FnScore'. -/
def fnScoreUptoCard : Claim7 := { stood := { row := fnScoreUptoRow, standIns := [], harness := (true, "3532d616b30b00066ae57bb6a060ba101b620ae20a35f1b4cb8738ae399f0782"), looks := true }, kinds := [], alts := [], goes := true, laidByText := true, laidKinds := [.data], laidTests := true, laidLooks := .later }
def FnScoreUptoCardSaid : Prop := Claim7.holds Tryz.pinned (.plain (OpenSpec.upto fnScoreSpec)) fnScoreUptoCard

/-- THE SECOND FORM's CARD OF 'laws.FnScoreLonger'. -/
def fnScoreLongerUptoCard : Claim7 := { stood := { row := fnScoreLongerUptoRow, standIns := [], harness := (true, "3532d616b30b00066ae57bb6a060ba101b620ae20a35f1b4cb8738ae399f0782"), looks := true }, kinds := [], alts := [], goes := true, laidByText := true, laidKinds := [.data], laidTests := true, laidLooks := .later }
def FnScoreLongerUptoCardSaid : Prop := Claim7.holds Tryz.pinned (.plain (OpenSpec.upto fnScoreLongerSpec)) fnScoreLongerUptoCard

/-- THE SECOND FORM's CARD OF 'laws.FnScoreGates'. -/
def fnScoreGatesUptoCard : Claim7 := { stood := { row := fnScoreGatesUptoRow, standIns := [], harness := (true, "3532d616b30b00066ae57bb6a060ba101b620ae20a35f1b4cb8738ae399f0782"), looks := true }, kinds := [], alts := [], goes := true, laidByText := true, laidKinds := [.data], laidTests := true, laidLooks := .later }
def FnScoreGatesUptoCardSaid : Prop := Claim7.holds Tryz.pinned (.plain (OpenSpec.upto fnScoreGatesSpec)) fnScoreGatesUptoCard
end Rows
end Go.Proofs.YtaemcekcancpdaaGreatDoor
