/-
  DERIVED. GIVEN WITH THE SEED: THE CARDS: each row of YtnoenjociioffaaDoorRows.lean that lists a variable, with what it lists TIED to the program's text (the seventh form; the later family's looks); each row that meets fmt, with fmt's text TOLD by the authors' own Lean function (tested against real Go, not proved from fmt's source: count such statements apart). THE CARD IS WHAT COUNTS. Prove the row's statement (the work); the ties are given (YtnoenjociioffaaDoorTie.lean); close each card by the builder's one call (the guide's Derived/Test/ToyasCard.lean, 'card_holds'). Laid BY PROGRAM, IN A SANDBOX (cutbox-door.mjs). By AI agents, Wed Nov 11 2026. No macro, syntax, notation, axiom, sorry.
-/
import Derived.Test.YtnoenjociioffaaDoorRows
import GoSem.ClaimSeven
namespace Go.Proofs.YtnoenjociioffaaDoor
namespace Rows

/-- THE TIED CARD OF 'laws.FnStep'. -/
def fnStepCard : Claim7 := { stood := { row := fnStepRow, standIns := [], harness := (true, "1d43e24dd9deb9e2bb269055b53cd570f657866e2dc942fba897228c08839178"), looks := true }, kinds := [], alts := [], laidByText := true, laidKinds := [.data], laidTests := true, laidLooks := .later }
def FnStepCardSaid : Prop := Claim7.holds Tryd.pinned (.plain (OpenSpec.ofChange fnStepSpec)) fnStepCard

/-- THE TIED CARD OF 'laws.FnStepTick'. -/
def fnStepTickCard : Claim7 := { stood := { row := fnStepTickRow, standIns := [], harness := (true, "1d43e24dd9deb9e2bb269055b53cd570f657866e2dc942fba897228c08839178"), looks := true }, kinds := [], alts := [], laidByText := true, laidKinds := [.data], laidTests := true, laidLooks := .later }
def FnStepTickCardSaid : Prop := Claim7.holds Tryd.pinned (.plain (OpenSpec.ofChange fnStepTickSpec)) fnStepTickCard

/-- THE TIED CARD OF 'laws.FnStepWall'. -/
def fnStepWallCard : Claim7 := { stood := { row := fnStepWallRow, standIns := [], harness := (true, "1d43e24dd9deb9e2bb269055b53cd570f657866e2dc942fba897228c08839178"), looks := true }, kinds := [], alts := [], laidByText := true, laidKinds := [.data], laidTests := true, laidLooks := .later }
def FnStepWallCardSaid : Prop := Claim7.holds Tryd.pinned (.plain (OpenSpec.ofChange fnStepWallSpec)) fnStepWallCard

/-- THE TIED CARD OF 'laws.FnStepSpeed'. -/
def fnStepSpeedCard : Claim7 := { stood := { row := fnStepSpeedRow, standIns := [], harness := (true, "1d43e24dd9deb9e2bb269055b53cd570f657866e2dc942fba897228c08839178"), looks := true }, kinds := [], alts := [], laidByText := true, laidKinds := [.data], laidTests := true, laidLooks := .later }
def FnStepSpeedCardSaid : Prop := Claim7.holds Tryd.pinned (.plain (OpenSpec.ofChange fnStepSpeedSpec)) fnStepSpeedCard

/-- THE TIED CARD OF 'laws.FnStepPause'. -/
def fnStepPauseCard : Claim7 := { stood := { row := fnStepPauseRow, standIns := [], harness := (true, "1d43e24dd9deb9e2bb269055b53cd570f657866e2dc942fba897228c08839178"), looks := true }, kinds := [], alts := [], laidByText := true, laidKinds := [.data], laidTests := true, laidLooks := .later }
def FnStepPauseCardSaid : Prop := Claim7.holds Tryd.pinned (.plain (OpenSpec.ofChange fnStepPauseSpec)) fnStepPauseCard

/-- THE TIED CARD OF 'laws.FnStepTurn'. -/
def fnStepTurnCard : Claim7 := { stood := { row := fnStepTurnRow, standIns := [], harness := (true, "1d43e24dd9deb9e2bb269055b53cd570f657866e2dc942fba897228c08839178"), looks := true }, kinds := [], alts := [], laidByText := true, laidKinds := [.data], laidTests := true, laidLooks := .later }
def FnStepTurnCardSaid : Prop := Claim7.holds Tryd.pinned (.plain (OpenSpec.ofChange fnStepTurnSpec)) fnStepTurnCard

/-- THE TIED CARD OF 'laws.FnStepGate'. -/
def fnStepGateCard : Claim7 := { stood := { row := fnStepGateRow, standIns := [], harness := (true, "1d43e24dd9deb9e2bb269055b53cd570f657866e2dc942fba897228c08839178"), looks := true }, kinds := [], alts := [], laidByText := true, laidKinds := [.data], laidTests := true, laidLooks := .later }
def FnStepGateCardSaid : Prop := Claim7.holds Tryd.pinned (.plain (OpenSpec.ofChange fnStepGateSpec)) fnStepGateCard

/-- THE TIED CARD OF 'laws.FnStepDone'. -/
def fnStepDoneCard : Claim7 := { stood := { row := fnStepDoneRow, standIns := [], harness := (true, "1d43e24dd9deb9e2bb269055b53cd570f657866e2dc942fba897228c08839178"), looks := true }, kinds := [], alts := [], laidByText := true, laidKinds := [.data], laidTests := true, laidLooks := .later }
def FnStepDoneCardSaid : Prop := Claim7.holds Tryd.pinned (.plain (OpenSpec.ofChange fnStepDoneSpec)) fnStepDoneCard

/-- THE TIED CARD OF 'laws.FnStepOver'. -/
def fnStepOverCard : Claim7 := { stood := { row := fnStepOverRow, standIns := [], harness := (true, "1d43e24dd9deb9e2bb269055b53cd570f657866e2dc942fba897228c08839178"), looks := true }, kinds := [], alts := [], laidByText := true, laidKinds := [.data], laidTests := true, laidLooks := .later }
def FnStepOverCardSaid : Prop := Claim7.holds Tryd.pinned (.plain (OpenSpec.ofChange fnStepOverSpec)) fnStepOverCard

/-- THE TIED CARD OF 'laws.FnStepRoll'. -/
def fnStepRollCard : Claim7 := { stood := { row := fnStepRollRow, standIns := [], harness := (true, "1d43e24dd9deb9e2bb269055b53cd570f657866e2dc942fba897228c08839178"), looks := true }, kinds := [], alts := [], laidByText := true, laidKinds := [.data], laidTests := true, laidLooks := .later }
def FnStepRollCardSaid : Prop := Claim7.holds Tryd.pinned (.plain (OpenSpec.ofChange fnStepRollSpec)) fnStepRollCard

/-- THE TIED CARD OF 'laws.FnStepMove'. -/
def fnStepMoveCard : Claim7 := { stood := { row := fnStepMoveRow, standIns := [], harness := (true, "1d43e24dd9deb9e2bb269055b53cd570f657866e2dc942fba897228c08839178"), looks := true }, kinds := [], alts := [], laidByText := true, laidKinds := [.data], laidTests := true, laidLooks := .later }
def FnStepMoveCardSaid : Prop := Claim7.holds Tryd.pinned (.plain (OpenSpec.ofChange fnStepMoveSpec)) fnStepMoveCard

/-- THE TIED CARD OF 'laws.FnStepPush'. -/
def fnStepPushCard : Claim7 := { stood := { row := fnStepPushRow, standIns := [], harness := (true, "1d43e24dd9deb9e2bb269055b53cd570f657866e2dc942fba897228c08839178"), looks := true }, kinds := [], alts := [], laidByText := true, laidKinds := [.data], laidTests := true, laidLooks := .later }
def FnStepPushCardSaid : Prop := Claim7.holds Tryd.pinned (.plain (OpenSpec.ofChange fnStepPushSpec)) fnStepPushCard

/-- THE TIED CARD OF 'laws.FnStepBrake'. -/
def fnStepBrakeCard : Claim7 := { stood := { row := fnStepBrakeRow, standIns := [], harness := (true, "1d43e24dd9deb9e2bb269055b53cd570f657866e2dc942fba897228c08839178"), looks := true }, kinds := [], alts := [], laidByText := true, laidKinds := [.data], laidTests := true, laidLooks := .later }
def FnStepBrakeCardSaid : Prop := Claim7.holds Tryd.pinned (.plain (OpenSpec.ofChange fnStepBrakeSpec)) fnStepBrakeCard

/-- THE TIED CARD OF 'laws.FnStepFull'. -/
def fnStepFullCard : Claim7 := { stood := { row := fnStepFullRow, standIns := [], harness := (true, "1d43e24dd9deb9e2bb269055b53cd570f657866e2dc942fba897228c08839178"), looks := true }, kinds := [], alts := [], laidByText := true, laidKinds := [.data], laidTests := true, laidLooks := .later }
def FnStepFullCardSaid : Prop := Claim7.holds Tryd.pinned (.plain (OpenSpec.ofChange fnStepFullSpec)) fnStepFullCard

/-- THE TIED CARD OF 'laws.FnStepEnd'. -/
def fnStepEndCard : Claim7 := { stood := { row := fnStepEndRow, standIns := [], harness := (true, "1d43e24dd9deb9e2bb269055b53cd570f657866e2dc942fba897228c08839178"), looks := true }, kinds := [], alts := [], laidByText := true, laidKinds := [.data], laidTests := true, laidLooks := .later }
def FnStepEndCardSaid : Prop := Claim7.holds Tryd.pinned (.plain (OpenSpec.ofChange fnStepEndSpec)) fnStepEndCard

/-- THE TIED CARD OF 'laws.FnExactEngineStep'. -/
def fnExactEngineStepCard : Claim7 := { stood := { row := fnExactEngineStepRow, standIns := [], harness := (true, "1d43e24dd9deb9e2bb269055b53cd570f657866e2dc942fba897228c08839178"), looks := true }, kinds := [], alts := [], laidByText := true, laidKinds := [.data], laidTests := true, laidLooks := .later }
def FnExactEngineStepCardSaid : Prop := Claim7.holds Tryd.pinned (.plain (OpenSpec.ofChange fnExactEngineStepSpec)) fnExactEngineStepCard

/-- THE SECOND FORM's CARD OF 'laws.FnStep'. -/
def fnStepUptoCard : Claim7 := { stood := { row := fnStepUptoRow, standIns := [], harness := (true, "1d43e24dd9deb9e2bb269055b53cd570f657866e2dc942fba897228c08839178"), looks := true }, kinds := [], alts := [], laidByText := true, laidKinds := [.data], laidTests := true, laidLooks := .later }
def FnStepUptoCardSaid : Prop := Claim7.holds Tryd.pinned (.plain (OpenSpec.upto fnStepSpec)) fnStepUptoCard

/-- THE SECOND FORM's CARD OF 'laws.FnStepTick'. -/
def fnStepTickUptoCard : Claim7 := { stood := { row := fnStepTickUptoRow, standIns := [], harness := (true, "1d43e24dd9deb9e2bb269055b53cd570f657866e2dc942fba897228c08839178"), looks := true }, kinds := [], alts := [], laidByText := true, laidKinds := [.data], laidTests := true, laidLooks := .later }
def FnStepTickUptoCardSaid : Prop := Claim7.holds Tryd.pinned (.plain (OpenSpec.upto fnStepTickSpec)) fnStepTickUptoCard

/-- THE SECOND FORM's CARD OF 'laws.FnStepWall'. -/
def fnStepWallUptoCard : Claim7 := { stood := { row := fnStepWallUptoRow, standIns := [], harness := (true, "1d43e24dd9deb9e2bb269055b53cd570f657866e2dc942fba897228c08839178"), looks := true }, kinds := [], alts := [], laidByText := true, laidKinds := [.data], laidTests := true, laidLooks := .later }
def FnStepWallUptoCardSaid : Prop := Claim7.holds Tryd.pinned (.plain (OpenSpec.upto fnStepWallSpec)) fnStepWallUptoCard

/-- THE SECOND FORM's CARD OF 'laws.FnStepSpeed'. -/
def fnStepSpeedUptoCard : Claim7 := { stood := { row := fnStepSpeedUptoRow, standIns := [], harness := (true, "1d43e24dd9deb9e2bb269055b53cd570f657866e2dc942fba897228c08839178"), looks := true }, kinds := [], alts := [], laidByText := true, laidKinds := [.data], laidTests := true, laidLooks := .later }
def FnStepSpeedUptoCardSaid : Prop := Claim7.holds Tryd.pinned (.plain (OpenSpec.upto fnStepSpeedSpec)) fnStepSpeedUptoCard

/-- THE SECOND FORM's CARD OF 'laws.FnStepPause'. -/
def fnStepPauseUptoCard : Claim7 := { stood := { row := fnStepPauseUptoRow, standIns := [], harness := (true, "1d43e24dd9deb9e2bb269055b53cd570f657866e2dc942fba897228c08839178"), looks := true }, kinds := [], alts := [], laidByText := true, laidKinds := [.data], laidTests := true, laidLooks := .later }
def FnStepPauseUptoCardSaid : Prop := Claim7.holds Tryd.pinned (.plain (OpenSpec.upto fnStepPauseSpec)) fnStepPauseUptoCard

/-- THE SECOND FORM's CARD OF 'laws.FnStepTurn'. -/
def fnStepTurnUptoCard : Claim7 := { stood := { row := fnStepTurnUptoRow, standIns := [], harness := (true, "1d43e24dd9deb9e2bb269055b53cd570f657866e2dc942fba897228c08839178"), looks := true }, kinds := [], alts := [], laidByText := true, laidKinds := [.data], laidTests := true, laidLooks := .later }
def FnStepTurnUptoCardSaid : Prop := Claim7.holds Tryd.pinned (.plain (OpenSpec.upto fnStepTurnSpec)) fnStepTurnUptoCard

/-- THE SECOND FORM's CARD OF 'laws.FnStepGate'. -/
def fnStepGateUptoCard : Claim7 := { stood := { row := fnStepGateUptoRow, standIns := [], harness := (true, "1d43e24dd9deb9e2bb269055b53cd570f657866e2dc942fba897228c08839178"), looks := true }, kinds := [], alts := [], laidByText := true, laidKinds := [.data], laidTests := true, laidLooks := .later }
def FnStepGateUptoCardSaid : Prop := Claim7.holds Tryd.pinned (.plain (OpenSpec.upto fnStepGateSpec)) fnStepGateUptoCard

/-- THE SECOND FORM's CARD OF 'laws.FnStepDone'. -/
def fnStepDoneUptoCard : Claim7 := { stood := { row := fnStepDoneUptoRow, standIns := [], harness := (true, "1d43e24dd9deb9e2bb269055b53cd570f657866e2dc942fba897228c08839178"), looks := true }, kinds := [], alts := [], laidByText := true, laidKinds := [.data], laidTests := true, laidLooks := .later }
def FnStepDoneUptoCardSaid : Prop := Claim7.holds Tryd.pinned (.plain (OpenSpec.upto fnStepDoneSpec)) fnStepDoneUptoCard

/-- THE SECOND FORM's CARD OF 'laws.FnStepOver'. -/
def fnStepOverUptoCard : Claim7 := { stood := { row := fnStepOverUptoRow, standIns := [], harness := (true, "1d43e24dd9deb9e2bb269055b53cd570f657866e2dc942fba897228c08839178"), looks := true }, kinds := [], alts := [], laidByText := true, laidKinds := [.data], laidTests := true, laidLooks := .later }
def FnStepOverUptoCardSaid : Prop := Claim7.holds Tryd.pinned (.plain (OpenSpec.upto fnStepOverSpec)) fnStepOverUptoCard

/-- THE SECOND FORM's CARD OF 'laws.FnStepRoll'. -/
def fnStepRollUptoCard : Claim7 := { stood := { row := fnStepRollUptoRow, standIns := [], harness := (true, "1d43e24dd9deb9e2bb269055b53cd570f657866e2dc942fba897228c08839178"), looks := true }, kinds := [], alts := [], laidByText := true, laidKinds := [.data], laidTests := true, laidLooks := .later }
def FnStepRollUptoCardSaid : Prop := Claim7.holds Tryd.pinned (.plain (OpenSpec.upto fnStepRollSpec)) fnStepRollUptoCard

/-- THE SECOND FORM's CARD OF 'laws.FnStepMove'. -/
def fnStepMoveUptoCard : Claim7 := { stood := { row := fnStepMoveUptoRow, standIns := [], harness := (true, "1d43e24dd9deb9e2bb269055b53cd570f657866e2dc942fba897228c08839178"), looks := true }, kinds := [], alts := [], laidByText := true, laidKinds := [.data], laidTests := true, laidLooks := .later }
def FnStepMoveUptoCardSaid : Prop := Claim7.holds Tryd.pinned (.plain (OpenSpec.upto fnStepMoveSpec)) fnStepMoveUptoCard

/-- THE SECOND FORM's CARD OF 'laws.FnStepPush'. -/
def fnStepPushUptoCard : Claim7 := { stood := { row := fnStepPushUptoRow, standIns := [], harness := (true, "1d43e24dd9deb9e2bb269055b53cd570f657866e2dc942fba897228c08839178"), looks := true }, kinds := [], alts := [], laidByText := true, laidKinds := [.data], laidTests := true, laidLooks := .later }
def FnStepPushUptoCardSaid : Prop := Claim7.holds Tryd.pinned (.plain (OpenSpec.upto fnStepPushSpec)) fnStepPushUptoCard

/-- THE SECOND FORM's CARD OF 'laws.FnStepBrake'. -/
def fnStepBrakeUptoCard : Claim7 := { stood := { row := fnStepBrakeUptoRow, standIns := [], harness := (true, "1d43e24dd9deb9e2bb269055b53cd570f657866e2dc942fba897228c08839178"), looks := true }, kinds := [], alts := [], laidByText := true, laidKinds := [.data], laidTests := true, laidLooks := .later }
def FnStepBrakeUptoCardSaid : Prop := Claim7.holds Tryd.pinned (.plain (OpenSpec.upto fnStepBrakeSpec)) fnStepBrakeUptoCard

/-- THE SECOND FORM's CARD OF 'laws.FnStepFull'. -/
def fnStepFullUptoCard : Claim7 := { stood := { row := fnStepFullUptoRow, standIns := [], harness := (true, "1d43e24dd9deb9e2bb269055b53cd570f657866e2dc942fba897228c08839178"), looks := true }, kinds := [], alts := [], laidByText := true, laidKinds := [.data], laidTests := true, laidLooks := .later }
def FnStepFullUptoCardSaid : Prop := Claim7.holds Tryd.pinned (.plain (OpenSpec.upto fnStepFullSpec)) fnStepFullUptoCard

/-- THE SECOND FORM's CARD OF 'laws.FnStepEnd'. -/
def fnStepEndUptoCard : Claim7 := { stood := { row := fnStepEndUptoRow, standIns := [], harness := (true, "1d43e24dd9deb9e2bb269055b53cd570f657866e2dc942fba897228c08839178"), looks := true }, kinds := [], alts := [], laidByText := true, laidKinds := [.data], laidTests := true, laidLooks := .later }
def FnStepEndUptoCardSaid : Prop := Claim7.holds Tryd.pinned (.plain (OpenSpec.upto fnStepEndSpec)) fnStepEndUptoCard

/-- THE SECOND FORM's CARD OF 'laws.FnExactEngineStep'. -/
def fnExactEngineStepUptoCard : Claim7 := { stood := { row := fnExactEngineStepUptoRow, standIns := [], harness := (true, "1d43e24dd9deb9e2bb269055b53cd570f657866e2dc942fba897228c08839178"), looks := true }, kinds := [], alts := [], laidByText := true, laidKinds := [.data], laidTests := true, laidLooks := .later }
def FnExactEngineStepUptoCardSaid : Prop := Claim7.holds Tryd.pinned (.plain (OpenSpec.upto fnExactEngineStepSpec)) fnExactEngineStepUptoCard
end Rows
end Go.Proofs.YtnoenjociioffaaDoor
