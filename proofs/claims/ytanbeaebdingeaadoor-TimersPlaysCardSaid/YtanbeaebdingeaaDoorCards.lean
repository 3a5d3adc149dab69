/-
  DERIVED. GIVEN WITH THE SEED: THE CARDS: each row of YtanbeaebdingeaaDoorRows.lean that lists a variable, with what it lists TIED to the program's text (the seventh form; the later family's looks); each row that meets fmt, with fmt's text TOLD by the authors' own Lean function (tested against real Go, not proved from fmt's source: count such statements apart). THE CARD IS WHAT COUNTS. Prove the row's statement (the work); the ties are given (YtanbeaebdingeaaDoorTie.lean); close each card by the builder's one call (the guide's Derived/Test/ToyasCard.lean, 'card_holds'). Laid BY PROGRAM, IN A SANDBOX (cutbox-door.mjs). By AI agents, Wed Nov 11 2026. No macro, syntax, notation, axiom, sorry.
-/
import Derived.Test.YtanbeaebdingeaaDoorRows
import GoSem.ClaimSeven
namespace Go.Proofs.YtanbeaebdingeaaDoor
namespace Rows

/-- THE TIED CARD OF 'liaisonlaw13.TimersPlays'. -/
def timersPlaysCard : Claim7 := { stood := { row := timersPlaysRow, standIns := [], harness := (true, "3a328ed4a9f5301af7c935d50f24fc2d39767a748d72a53b81ce6088ab815e13"), looks := true }, kinds := [], alts := [], laidByText := true, laidKinds := [.sentinel, .sentinel, .sentinel, .sentinel, .sentinel, .sentinel, .sentinel, .sentinel, .sentinel, .sentinel, .sentinel, .sentinel, .sentinel, .sentinel], laidTests := true, laidLooks := .later }
def TimersPlaysCardSaid : Prop := Claim7.holds Tryd.pinned (.plain (OpenSpec.ofChange timersPlaysSpec)) timersPlaysCard

/-- THE TIED CARD OF 'liaisonlaw13.TimersFull'. -/
def timersFullCard : Claim7 := { stood := { row := timersFullRow, standIns := [], harness := (true, "3a328ed4a9f5301af7c935d50f24fc2d39767a748d72a53b81ce6088ab815e13"), looks := true }, kinds := [], alts := [], laidByText := true, laidKinds := [.sentinel, .sentinel, .sentinel, .sentinel, .sentinel, .sentinel, .sentinel, .sentinel, .sentinel, .sentinel, .sentinel, .sentinel, .sentinel, .sentinel], laidTests := true, laidLooks := .later }
def TimersFullCardSaid : Prop := Claim7.holds Tryd.pinned (.plain (OpenSpec.ofChange timersFullSpec)) timersFullCard

/-- THE TIED CARD OF 'liaisonlaw13.TimersComes'. -/
def timersComesCard : Claim7 := { stood := { row := timersComesRow, standIns := [], harness := (true, "3a328ed4a9f5301af7c935d50f24fc2d39767a748d72a53b81ce6088ab815e13"), looks := true }, kinds := [], alts := [], laidByText := true, laidKinds := [.sentinel, .sentinel, .sentinel, .sentinel], laidTests := true, laidLooks := .later }
def TimersComesCardSaid : Prop := Claim7.holds Tryd.pinned (.plain (OpenSpec.ofChange timersComesSpec)) timersComesCard

/-- THE TIED CARD OF 'liaisonlaw13.TimersOrder'. -/
def timersOrderCard : Claim7 := { stood := { row := timersOrderRow, standIns := [], harness := (true, "3a328ed4a9f5301af7c935d50f24fc2d39767a748d72a53b81ce6088ab815e13"), looks := true }, kinds := [], alts := [], laidByText := true, laidKinds := [.sentinel, .sentinel, .sentinel, .sentinel], laidTests := true, laidLooks := .later }
def TimersOrderCardSaid : Prop := Claim7.holds Tryd.pinned (.plain (OpenSpec.ofChange timersOrderSpec)) timersOrderCard

/-- THE SECOND FORM's CARD OF 'liaisonlaw13.TimersPlays'. -/
def timersPlaysUptoCard : Claim7 := { stood := { row := timersPlaysUptoRow, standIns := [], harness := (true, "3a328ed4a9f5301af7c935d50f24fc2d39767a748d72a53b81ce6088ab815e13"), looks := true }, kinds := [], alts := [], laidByText := true, laidKinds := [.sentinel, .sentinel, .sentinel, .sentinel, .sentinel, .sentinel, .sentinel, .sentinel, .sentinel, .sentinel, .sentinel, .sentinel, .sentinel, .sentinel], laidTests := true, laidLooks := .later }
def TimersPlaysUptoCardSaid : Prop := Claim7.holds Tryd.pinned (.plain (OpenSpec.upto timersPlaysSpec)) timersPlaysUptoCard

/-- THE SECOND FORM's CARD OF 'liaisonlaw13.TimersFull'. -/
def timersFullUptoCard : Claim7 := { stood := { row := timersFullUptoRow, standIns := [], harness := (true, "3a328ed4a9f5301af7c935d50f24fc2d39767a748d72a53b81ce6088ab815e13"), looks := true }, kinds := [], alts := [], laidByText := true, laidKinds := [.sentinel, .sentinel, .sentinel, .sentinel, .sentinel, .sentinel, .sentinel, .sentinel, .sentinel, .sentinel, .sentinel, .sentinel, .sentinel, .sentinel], laidTests := true, laidLooks := .later }
def TimersFullUptoCardSaid : Prop := Claim7.holds Tryd.pinned (.plain (OpenSpec.upto timersFullSpec)) timersFullUptoCard

/-- THE SECOND FORM's CARD OF 'liaisonlaw13.TimersComes'. -/
def timersComesUptoCard : Claim7 := { stood := { row := timersComesUptoRow, standIns := [], harness := (true, "3a328ed4a9f5301af7c935d50f24fc2d39767a748d72a53b81ce6088ab815e13"), looks := true }, kinds := [], alts := [], laidByText := true, laidKinds := [.sentinel, .sentinel, .sentinel, .sentinel], laidTests := true, laidLooks := .later }
def TimersComesUptoCardSaid : Prop := Claim7.holds Tryd.pinned (.plain (OpenSpec.upto timersComesSpec)) timersComesUptoCard

/-- THE SECOND FORM's CARD OF 'liaisonlaw13.TimersOrder'. -/
def timersOrderUptoCard : Claim7 := { stood := { row := timersOrderUptoRow, standIns := [], harness := (true, "3a328ed4a9f5301af7c935d50f24fc2d39767a748d72a53b81ce6088ab815e13"), looks := true }, kinds := [], alts := [], laidByText := true, laidKinds := [.sentinel, .sentinel, .sentinel, .sentinel], laidTests := true, laidLooks := .later }
def TimersOrderUptoCardSaid : Prop := Claim7.holds Tryd.pinned (.plain (OpenSpec.upto timersOrderSpec)) timersOrderUptoCard
end Rows
end Go.Proofs.YtanbeaebdingeaaDoor
