/-
  DERIVED. GIVEN WITH THE SEED: THE CARDS: each row of YtmnojoddapdaoabDoorRows.lean that lists a variable, with what it lists TIED to the program's text (the seventh form; the later family's looks); each row that meets fmt, with fmt's text TOLD by the authors' own Lean function (tested against real Go, not proved from fmt's source: count such statements apart). THE CARD IS WHAT COUNTS. Prove the row's statement (the work); the ties are given (YtmnojoddapdaoabDoorTie.lean); close each card by the builder's one call (the guide's Derived/Test/ToyasCard.lean, 'card_holds'). Laid BY PROGRAM, IN A SANDBOX (cutbox-door.mjs). By AI agents, Wed Nov 11 2026. No macro, syntax, notation, axiom, sorry.
-/
import Derived.Test.YtmnojoddapdaoabDoorRows
import GoSem.ClaimSeven
namespace Go.Proofs.YtmnojoddapdaoabDoor
namespace Rows

/-- THE TIED CARD OF 'laws.FnDirectionAll'. -/
def fnDirectionAllCard : Claim7 := { stood := { row := fnDirectionAllRow, standIns := [], harness := (true, "cdaac7442428a6e121d92800da24992189ebf46bb844f997236a566448a23867"), looks := false }, kinds := [], alts := [], laidByText := true, laidKinds := [.data], laidTests := true, laidLooks := .later }
def FnDirectionAllCardSaid : Prop := Claim7.holds Tryd.pinned (.plain (OpenSpec.ofChange fnDirectionAllSpec)) fnDirectionAllCard

/-- THE TIED CARD OF 'laws.FnExactVecDirection'. -/
def fnExactVecDirectionCard : Claim7 := { stood := { row := fnExactVecDirectionRow, standIns := [], harness := (true, "cdaac7442428a6e121d92800da24992189ebf46bb844f997236a566448a23867"), looks := false }, kinds := [], alts := [], laidByText := true, laidKinds := [.data], laidTests := true, laidLooks := .later }
def FnExactVecDirectionCardSaid : Prop := Claim7.holds Tryd.pinned (.plain (OpenSpec.ofChange fnExactVecDirectionSpec)) fnExactVecDirectionCard

/-- THE SECOND FORM's CARD OF 'laws.FnDirectionAll'. -/
def fnDirectionAllUptoCard : Claim7 := { stood := { row := fnDirectionAllUptoRow, standIns := [], harness := (true, "cdaac7442428a6e121d92800da24992189ebf46bb844f997236a566448a23867"), looks := false }, kinds := [], alts := [], laidByText := true, laidKinds := [.data], laidTests := true, laidLooks := .later }
def FnDirectionAllUptoCardSaid : Prop := Claim7.holds Tryd.pinned (.plain (OpenSpec.upto fnDirectionAllSpec)) fnDirectionAllUptoCard

/-- THE SECOND FORM's CARD OF 'laws.FnExactVecDirection'. -/
def fnExactVecDirectionUptoCard : Claim7 := { stood := { row := fnExactVecDirectionUptoRow, standIns := [], harness := (true, "cdaac7442428a6e121d92800da24992189ebf46bb844f997236a566448a23867"), looks := false }, kinds := [], alts := [], laidByText := true, laidKinds := [.data], laidTests := true, laidLooks := .later }
def FnExactVecDirectionUptoCardSaid : Prop := Claim7.holds Tryd.pinned (.plain (OpenSpec.upto fnExactVecDirectionSpec)) fnExactVecDirectionUptoCard
end Rows
end Go.Proofs.YtmnojoddapdaoabDoor
