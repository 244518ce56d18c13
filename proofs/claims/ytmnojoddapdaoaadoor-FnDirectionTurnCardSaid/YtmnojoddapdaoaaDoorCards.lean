/-
  DERIVED. GIVEN WITH THE SEED: THE CARDS: each row of YtmnojoddapdaoaaDoorRows.lean that lists a variable, with what it lists TIED to the program's text (the seventh form; the later family's looks); each row that meets fmt, with fmt's text TOLD by the authors' own Lean function (tested against real Go, not proved from fmt's source: count such statements apart). THE CARD IS WHAT COUNTS. Prove the row's statement (the work); the ties are given (YtmnojoddapdaoaaDoorTie.lean); close each card by the builder's one call (the guide's Derived/Test/ToyasCard.lean, 'card_holds'). Laid BY PROGRAM, IN A SANDBOX (cutbox-door.mjs). By AI agents, Wed Nov 11 2026. No macro, syntax, notation, axiom, sorry.
-/
import Derived.Test.YtmnojoddapdaoaaDoorRows
import GoSem.ClaimSeven
namespace Go.Proofs.YtmnojoddapdaoaaDoor
namespace Rows

/-- THE TIED CARD OF 'laws.FnDirection'. -/
def fnDirectionCard : Claim7 := { stood := { row := fnDirectionRow, standIns := [], harness := (true, "511ff810a857fc358d4adaf8dfddbd801db2a80de49f74a9784abd4f5e30681b"), looks := false }, kinds := [], alts := [], laidByText := true, laidKinds := [.data], laidTests := true, laidLooks := .later }
def FnDirectionCardSaid : Prop := Claim7.holds Tryd.pinned (.plain (OpenSpec.ofChange fnDirectionSpec)) fnDirectionCard

/-- THE TIED CARD OF 'laws.FnDirectionTurn'. -/
def fnDirectionTurnCard : Claim7 := { stood := { row := fnDirectionTurnRow, standIns := [], harness := (true, "511ff810a857fc358d4adaf8dfddbd801db2a80de49f74a9784abd4f5e30681b"), looks := false }, kinds := [], alts := [], laidByText := true, laidKinds := [.data], laidTests := true, laidLooks := .later }
def FnDirectionTurnCardSaid : Prop := Claim7.holds Tryd.pinned (.plain (OpenSpec.ofChange fnDirectionTurnSpec)) fnDirectionTurnCard

/-- THE SECOND FORM's CARD OF 'laws.FnDirection'. -/
def fnDirectionUptoCard : Claim7 := { stood := { row := fnDirectionUptoRow, standIns := [], harness := (true, "511ff810a857fc358d4adaf8dfddbd801db2a80de49f74a9784abd4f5e30681b"), looks := false }, kinds := [], alts := [], laidByText := true, laidKinds := [.data], laidTests := true, laidLooks := .later }
def FnDirectionUptoCardSaid : Prop := Claim7.holds Tryd.pinned (.plain (OpenSpec.upto fnDirectionSpec)) fnDirectionUptoCard

/-- THE SECOND FORM's CARD OF 'laws.FnDirectionTurn'. -/
def fnDirectionTurnUptoCard : Claim7 := { stood := { row := fnDirectionTurnUptoRow, standIns := [], harness := (true, "511ff810a857fc358d4adaf8dfddbd801db2a80de49f74a9784abd4f5e30681b"), looks := false }, kinds := [], alts := [], laidByText := true, laidKinds := [.data], laidTests := true, laidLooks := .later }
def FnDirectionTurnUptoCardSaid : Prop := Claim7.holds Tryd.pinned (.plain (OpenSpec.upto fnDirectionTurnSpec)) fnDirectionTurnUptoCard
end Rows
end Go.Proofs.YtmnojoddapdaoaaDoor
