/-
  DERIVED. GIVEN WITH THE SEED: THE CARDS: each row of YtaemcekcancpdabGreatDoorRows.lean that lists a variable, with what it lists TIED to the program's text (the seventh form; the later family's looks); each row that meets fmt, with fmt's text TOLD by the authors' own Lean function (tested against real Go, not proved from fmt's source: count such statements apart). THE CARD IS WHAT COUNTS. Prove the row's statement (the work); the ties are given (YtaemcekcancpdabGreatDoorTie.lean); close each card by the builder's one call (the guide's Derived/Test/ToyasCard.lean, 'card_holds'). Laid BY PROGRAM, IN A SANDBOX (cutbox-door.mjs). By AI agents, Wed Nov 11 2026. No macro, syntax, notation, axiom, sorry.
-/
import Derived.Test.YtaemcekcancpdabGreatDoorRows
import GoSem.ClaimSeven
namespace Go.Proofs.YtaemcekcancpdabGreatDoor
namespace Rows

/-- THE TIED CARD OF 'laws.FnScoreIllegal'. -/
def fnScoreIllegalCard : Claim7 := { stood := { row := fnScoreIllegalRow, standIns := [], harness := (true, "9a0c3d34a45da7d53d8b8695ecee30e6057f1112de040fb291a25eb227c224ab"), looks := true }, kinds := [], alts := [], goes := true, laidByText := true, laidKinds := [.data], laidTests := true, laidLooks := .later }
def FnScoreIllegalCardSaid : Prop := Claim7.holds Tryz.pinned (.plain (OpenSpec.ofChange fnScoreIllegalSpec)) fnScoreIllegalCard

/-- THE TIED CARD OF 'laws.FnHashes'. -/
def fnHashesCard : Claim7 := { stood := { row := fnHashesRow, standIns := [], harness := (true, "9a0c3d34a45da7d53d8b8695ecee30e6057f1112de040fb291a25eb227c224ab"), looks := true }, kinds := [], alts := [], goes := true, laidByText := true, laidKinds := [.data], laidTests := true, laidLooks := .later }
def FnHashesCardSaid : Prop := Claim7.holds Tryz.pinned (.plain (OpenSpec.ofChange fnHashesSpec)) fnHashesCard

/-- THE TIED CARD OF 'laws.FnHashesPrefix'. -/
def fnHashesPrefixCard : Claim7 := { stood := { row := fnHashesPrefixRow, standIns := [], harness := (true, "9a0c3d34a45da7d53d8b8695ecee30e6057f1112de040fb291a25eb227c224ab"), looks := true }, kinds := [], alts := [], goes := true, laidByText := true, laidKinds := [.data], laidTests := true, laidLooks := .later }
def FnHashesPrefixCardSaid : Prop := Claim7.holds Tryz.pinned (.plain (OpenSpec.ofChange fnHashesPrefixSpec)) fnHashesPrefixCard

/-- THE TIED CARD OF 'laws.FnScorePause'. -/
def fnScorePauseCard : Claim7 := { stood := { row := fnScorePauseRow, standIns := [], harness := (true, "9a0c3d34a45da7d53d8b8695ecee30e6057f1112de040fb291a25eb227c224ab"), looks := true }, kinds := [], alts := [], goes := true, laidByText := true, laidKinds := [.data], laidTests := true, laidLooks := .later }
def FnScorePauseCardSaid : Prop := Claim7.holds Tryz.pinned (.plain (OpenSpec.ofChange fnScorePauseSpec)) fnScorePauseCard

/-- THE TIED CARD OF 'laws.FnExactRunTo'. -/
def fnExactRunToCard : Claim7 := { stood := { row := fnExactRunToRow, standIns := [], harness := (true, "9a0c3d34a45da7d53d8b8695ecee30e6057f1112de040fb291a25eb227c224ab"), looks := true }, kinds := [], alts := [], goes := true, laidByText := true, laidKinds := [.data], laidTests := true, laidLooks := .later }
def FnExactRunToCardSaid : Prop := Claim7.holds Tryz.pinned (.plain (OpenSpec.ofChange fnExactRunToSpec)) fnExactRunToCard

/-- THE TIED CARD OF 'laws.FnExactRunScore'. -/
def fnExactRunScoreCard : Claim7 := { stood := { row := fnExactRunScoreRow, standIns := [], harness := (true, "9a0c3d34a45da7d53d8b8695ecee30e6057f1112de040fb291a25eb227c224ab"), looks := true }, kinds := [], alts := [], goes := true, laidByText := true, laidKinds := [.data], laidTests := true, laidLooks := .later }
def FnExactRunScoreCardSaid : Prop := Claim7.holds Tryz.pinned (.plain (OpenSpec.ofChange fnExactRunScoreSpec)) fnExactRunScoreCard

/-- THE SECOND FORM's CARD OF 'laws.FnScoreIllegal'. -/
def fnScoreIllegalUptoCard : Claim7 := { stood := { row := fnScoreIllegalUptoRow, standIns := [], harness := (true, "9a0c3d34a45da7d53d8b8695ecee30e6057f1112de040fb291a25eb227c224ab"), looks := true }, kinds := [], alts := [], goes := true, laidByText := true, laidKinds := [.data], laidTests := true, laidLooks := .later }
def FnScoreIllegalUptoCardSaid : Prop := Claim7.holds Tryz.pinned (.plain (OpenSpec.upto fnScoreIllegalSpec)) fnScoreIllegalUptoCard

/-- THE SECOND FORM's CARD OF 'laws.FnHashes'. -/
def fnHashesUptoCard : Claim7 := { stood := { row := fnHashesUptoRow, standIns := [], harness := (true, "9a0c3d34a45da7d53d8b8695ecee30e6057f1112de040fb291a25eb227c224ab"), looks := true }, kinds := [], alts := [], goes := true, laidByText := true, laidKinds := [.data], laidTests := true, laidLooks := .later }
def FnHashesUptoCardSaid : Prop := Claim7.holds Tryz.pinned (.plain (OpenSpec.upto fnHashesSpec)) fnHashesUptoCard

/-- THE SECOND FORM's CARD OF 'laws.FnHashesPrefix'. -/
def fnHashesPrefixUptoCard : Claim7 := { stood := { row := fnHashesPrefixUptoRow, standIns := [], harness := (true, "9a0c3d34a45da7d53d8b8695ecee30e6057f1112de040fb291a25eb227c224ab"), looks := true }, kinds := [], alts := [], goes := true, laidByText := true, laidKinds := [.data], laidTests := true, laidLooks := .later }
def FnHashesPrefixUptoCardSaid : Prop := Claim7.holds Tryz.pinned (.plain (OpenSpec.upto fnHashesPrefixSpec)) fnHashesPrefixUptoCard

/-- THE SECOND FORM's CARD OF 'laws.FnScorePause'. -/
def fnScorePauseUptoCard : Claim7 := { stood := { row := fnScorePauseUptoRow, standIns := [], harness := (true, "9a0c3d34a45da7d53d8b8695ecee30e6057f1112de040fb291a25eb227c224ab"), looks := true }, kinds := [], alts := [], goes := true, laidByText := true, laidKinds := [.data], laidTests := true, laidLooks := .later }
def FnScorePauseUptoCardSaid : Prop := Claim7.holds Tryz.pinned (.plain (OpenSpec.upto fnScorePauseSpec)) fnScorePauseUptoCard

/-- THE SECOND FORM's CARD OF 'laws.FnExactRunTo'. -/
def fnExactRunToUptoCard : Claim7 := { stood := { row := fnExactRunToUptoRow, standIns := [], harness := (true, "9a0c3d34a45da7d53d8b8695ecee30e6057f1112de040fb291a25eb227c224ab"), looks := true }, kinds := [], alts := [], goes := true, laidByText := true, laidKinds := [.data], laidTests := true, laidLooks := .later }
def FnExactRunToUptoCardSaid : Prop := Claim7.holds Tryz.pinned (.plain (OpenSpec.upto fnExactRunToSpec)) fnExactRunToUptoCard

/-- THE SECOND FORM's CARD OF 'laws.FnExactRunScore'. -/
def fnExactRunScoreUptoCard : Claim7 := { stood := { row := fnExactRunScoreUptoRow, standIns := [], harness := (true, "9a0c3d34a45da7d53d8b8695ecee30e6057f1112de040fb291a25eb227c224ab"), looks := true }, kinds := [], alts := [], goes := true, laidByText := true, laidKinds := [.data], laidTests := true, laidLooks := .later }
def FnExactRunScoreUptoCardSaid : Prop := Claim7.holds Tryz.pinned (.plain (OpenSpec.upto fnExactRunScoreSpec)) fnExactRunScoreUptoCard
end Rows
end Go.Proofs.YtaemcekcancpdabGreatDoor
