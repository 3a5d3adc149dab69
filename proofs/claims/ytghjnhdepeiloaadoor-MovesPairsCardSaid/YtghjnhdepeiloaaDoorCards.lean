/-
  DERIVED. GIVEN WITH THE SEED: THE CARDS: each row of YtghjnhdepeiloaaDoorRows.lean that lists a variable, with what it lists TIED to the program's text (the seventh form; the later family's looks); each row that meets fmt, with fmt's text TOLD by the authors' own Lean function (tested against real Go, not proved from fmt's source: count such statements apart). THE CARD IS WHAT COUNTS. Prove the row's statement (the work); the ties are given (YtghjnhdepeiloaaDoorTie.lean); close each card by the builder's one call (the guide's Derived/Test/ToyasCard.lean, 'card_holds'). Laid BY PROGRAM, IN A SANDBOX (cutbox-door.mjs). By AI agents, Wed Nov 11 2026. No macro, syntax, notation, axiom, sorry.
-/
import Derived.Test.YtghjnhdepeiloaaDoorRows
import GoSem.ClaimSeven
namespace Go.Proofs.YtghjnhdepeiloaaDoor
namespace Rows

/-- THE TIED CARD OF 'liaisonlaw11.MovesSeats'. -/
def movesSeatsCard : Claim7 := { stood := { row := movesSeatsRow, standIns := [], harness := (true, "fede24a38e490acfef8d85086a087dc05ee109f1026687392eaaced60ec5d335"), looks := true }, kinds := [], alts := [], laidByText := true, laidKinds := [.sentinel, .sentinel, .sentinel, .sentinel, .sentinel, .sentinel, .sentinel, .sentinel, .sentinel, .sentinel, .sentinel, .sentinel, .sentinel, .sentinel], laidTests := true, laidLooks := .later }
def MovesSeatsCardSaid : Prop := Claim7.holds Tryd.pinned (.plain (OpenSpec.ofChange movesSeatsSpec)) movesSeatsCard

/-- THE TIED CARD OF 'liaisonlaw11.MovesPairs'. -/
def movesPairsCard : Claim7 := { stood := { row := movesPairsRow, standIns := [], harness := (true, "fede24a38e490acfef8d85086a087dc05ee109f1026687392eaaced60ec5d335"), looks := true }, kinds := [], alts := [], laidByText := true, laidKinds := [.sentinel, .sentinel, .sentinel, .sentinel, .sentinel, .sentinel, .sentinel, .sentinel, .sentinel, .sentinel, .sentinel, .sentinel, .sentinel, .sentinel], laidTests := true, laidLooks := .later }
def MovesPairsCardSaid : Prop := Claim7.holds Tryd.pinned (.plain (OpenSpec.ofChange movesPairsSpec)) movesPairsCard

/-- THE TIED CARD OF 'liaisonlaw11.MovesSafe'. -/
def movesSafeCard : Claim7 := { stood := { row := movesSafeRow, standIns := [], harness := (true, "fede24a38e490acfef8d85086a087dc05ee109f1026687392eaaced60ec5d335"), looks := true }, kinds := [], alts := [], laidByText := true, laidKinds := [.sentinel, .sentinel, .sentinel, .sentinel, .sentinel], laidTests := true, laidLooks := .later }
def MovesSafeCardSaid : Prop := Claim7.holds Tryd.pinned (.plain (OpenSpec.ofChange movesSafeSpec)) movesSafeCard

/-- THE TIED CARD OF 'liaisonlaw11.MovesWork'. -/
def movesWorkCard : Claim7 := { stood := { row := movesWorkRow, standIns := [], harness := (true, "fede24a38e490acfef8d85086a087dc05ee109f1026687392eaaced60ec5d335"), looks := true }, kinds := [], alts := [], laidByText := true, laidKinds := [.sentinel, .sentinel, .sentinel, .sentinel, .sentinel], laidTests := true, laidLooks := .later }
def MovesWorkCardSaid : Prop := Claim7.holds Tryd.pinned (.plain (OpenSpec.ofChange movesWorkSpec)) movesWorkCard

/-- THE TIED CARD OF 'liaisonlaw11.MovesEnd'. -/
def movesEndCard : Claim7 := { stood := { row := movesEndRow, standIns := [], harness := (true, "fede24a38e490acfef8d85086a087dc05ee109f1026687392eaaced60ec5d335"), looks := true }, kinds := [], alts := [], laidByText := true, laidKinds := [.sentinel, .sentinel, .sentinel, .sentinel, .sentinel], laidTests := true, laidLooks := .later }
def MovesEndCardSaid : Prop := Claim7.holds Tryd.pinned (.plain (OpenSpec.ofChange movesEndSpec)) movesEndCard

/-- THE TIED CARD OF 'liaisonlaw11.MovesNew'. -/
def movesNewCard : Claim7 := { stood := { row := movesNewRow, standIns := [], harness := (true, "fede24a38e490acfef8d85086a087dc05ee109f1026687392eaaced60ec5d335"), looks := true }, kinds := [], alts := [], laidByText := true, laidKinds := [.sentinel, .sentinel, .sentinel, .sentinel, .sentinel, .sentinel, .sentinel, .sentinel, .sentinel, .sentinel, .sentinel, .sentinel, .sentinel, .sentinel], laidTests := true, laidLooks := .later }
def MovesNewCardSaid : Prop := Claim7.holds Tryd.pinned (.plain (OpenSpec.ofChange movesNewSpec)) movesNewCard

/-- THE SECOND FORM's CARD OF 'liaisonlaw11.MovesSeats'. -/
def movesSeatsUptoCard : Claim7 := { stood := { row := movesSeatsUptoRow, standIns := [], harness := (true, "fede24a38e490acfef8d85086a087dc05ee109f1026687392eaaced60ec5d335"), looks := true }, kinds := [], alts := [], laidByText := true, laidKinds := [.sentinel, .sentinel, .sentinel, .sentinel, .sentinel, .sentinel, .sentinel, .sentinel, .sentinel, .sentinel, .sentinel, .sentinel, .sentinel, .sentinel], laidTests := true, laidLooks := .later }
def MovesSeatsUptoCardSaid : Prop := Claim7.holds Tryd.pinned (.plain (OpenSpec.upto movesSeatsSpec)) movesSeatsUptoCard

/-- THE SECOND FORM's CARD OF 'liaisonlaw11.MovesPairs'. -/
def movesPairsUptoCard : Claim7 := { stood := { row := movesPairsUptoRow, standIns := [], harness := (true, "fede24a38e490acfef8d85086a087dc05ee109f1026687392eaaced60ec5d335"), looks := true }, kinds := [], alts := [], laidByText := true, laidKinds := [.sentinel, .sentinel, .sentinel, .sentinel, .sentinel, .sentinel, .sentinel, .sentinel, .sentinel, .sentinel, .sentinel, .sentinel, .sentinel, .sentinel], laidTests := true, laidLooks := .later }
def MovesPairsUptoCardSaid : Prop := Claim7.holds Tryd.pinned (.plain (OpenSpec.upto movesPairsSpec)) movesPairsUptoCard

/-- THE SECOND FORM's CARD OF 'liaisonlaw11.MovesSafe'. -/
def movesSafeUptoCard : Claim7 := { stood := { row := movesSafeUptoRow, standIns := [], harness := (true, "fede24a38e490acfef8d85086a087dc05ee109f1026687392eaaced60ec5d335"), looks := true }, kinds := [], alts := [], laidByText := true, laidKinds := [.sentinel, .sentinel, .sentinel, .sentinel, .sentinel], laidTests := true, laidLooks := .later }
def MovesSafeUptoCardSaid : Prop := Claim7.holds Tryd.pinned (.plain (OpenSpec.upto movesSafeSpec)) movesSafeUptoCard

/-- THE SECOND FORM's CARD OF 'liaisonlaw11.MovesWork'. -/
def movesWorkUptoCard : Claim7 := { stood := { row := movesWorkUptoRow, standIns := [], harness := (true, "fede24a38e490acfef8d85086a087dc05ee109f1026687392eaaced60ec5d335"), looks := true }, kinds := [], alts := [], laidByText := true, laidKinds := [.sentinel, .sentinel, .sentinel, .sentinel, .sentinel], laidTests := true, laidLooks := .later }
def MovesWorkUptoCardSaid : Prop := Claim7.holds Tryd.pinned (.plain (OpenSpec.upto movesWorkSpec)) movesWorkUptoCard

/-- THE SECOND FORM's CARD OF 'liaisonlaw11.MovesEnd'. -/
def movesEndUptoCard : Claim7 := { stood := { row := movesEndUptoRow, standIns := [], harness := (true, "fede24a38e490acfef8d85086a087dc05ee109f1026687392eaaced60ec5d335"), looks := true }, kinds := [], alts := [], laidByText := true, laidKinds := [.sentinel, .sentinel, .sentinel, .sentinel, .sentinel], laidTests := true, laidLooks := .later }
def MovesEndUptoCardSaid : Prop := Claim7.holds Tryd.pinned (.plain (OpenSpec.upto movesEndSpec)) movesEndUptoCard

/-- THE SECOND FORM's CARD OF 'liaisonlaw11.MovesNew'. -/
def movesNewUptoCard : Claim7 := { stood := { row := movesNewUptoRow, standIns := [], harness := (true, "fede24a38e490acfef8d85086a087dc05ee109f1026687392eaaced60ec5d335"), looks := true }, kinds := [], alts := [], laidByText := true, laidKinds := [.sentinel, .sentinel, .sentinel, .sentinel, .sentinel, .sentinel, .sentinel, .sentinel, .sentinel, .sentinel, .sentinel, .sentinel, .sentinel, .sentinel], laidTests := true, laidLooks := .later }
def MovesNewUptoCardSaid : Prop := Claim7.holds Tryd.pinned (.plain (OpenSpec.upto movesNewSpec)) movesNewUptoCard
end Rows
end Go.Proofs.YtghjnhdepeiloaaDoor
