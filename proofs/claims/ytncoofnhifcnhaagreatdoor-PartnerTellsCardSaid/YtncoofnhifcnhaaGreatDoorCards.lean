/-
  DERIVED. GIVEN WITH THE SEED: THE CARDS: each row of YtncoofnhifcnhaaGreatDoorRows.lean that lists a variable, with what it lists TIED to the program's text (the seventh form; the later family's looks); each row that meets fmt, with fmt's text TOLD by the authors' own Lean function (tested against real Go, not proved from fmt's source: count such statements apart). THE CARD IS WHAT COUNTS. Prove the row's statement (the work); the ties are given (YtncoofnhifcnhaaGreatDoorTie.lean); close each card by the builder's one call (the guide's Derived/Test/ToyasCard.lean, 'card_holds'). Laid BY PROGRAM, IN A SANDBOX (cutbox-door.mjs). By AI agents, Wed Nov 11 2026. No macro, syntax, notation, axiom, sorry.
-/
import Derived.Test.YtncoofnhifcnhaaGreatDoorRows
import GoSem.ClaimSeven
namespace Go.Proofs.YtncoofnhifcnhaaGreatDoor
namespace Rows

/-- THE TIED CARD OF 'liaisonlaw16.PartnerTells'. -/
def partnerTellsCard : Claim7 := { stood := { row := partnerTellsRow, standIns := [], harness := (true, "44e1306b38da4052233f7bf6e74c187a0386c2916251dcb94f6498fdda0f043d"), looks := true }, kinds := [], alts := [], laidByText := true, laidKinds := [.data, .data, .data, .sentinel, .sentinel, .sentinel, .sentinel, .sentinel, .sentinel, .sentinel, .sentinel, .sentinel, .sentinel, .sentinel, .sentinel, .sentinel, .sentinel], laidTests := true, laidLooks := .later }
def PartnerTellsCardSaid : Prop := Claim7.holds Tryz.pinned (.plain (OpenSpec.ofChange partnerTellsSpec)) partnerTellsCard

/-- THE TIED CARD OF 'liaisonlaw16.PartnerDoes'. -/
def partnerDoesCard : Claim7 := { stood := { row := partnerDoesRow, standIns := [], harness := (true, "44e1306b38da4052233f7bf6e74c187a0386c2916251dcb94f6498fdda0f043d"), looks := true }, kinds := [], alts := [], laidByText := true, laidKinds := [.data, .data, .data, .sentinel, .sentinel, .sentinel, .sentinel, .sentinel, .sentinel, .sentinel, .sentinel, .sentinel, .sentinel, .sentinel, .sentinel, .sentinel, .sentinel], laidTests := true, laidLooks := .later }
def PartnerDoesCardSaid : Prop := Claim7.holds Tryz.pinned (.plain (OpenSpec.ofChange partnerDoesSpec)) partnerDoesCard

/-- THE TIED CARD OF 'liaisonlaw16.PartnerJoins'. -/
def partnerJoinsCard : Claim7 := { stood := { row := partnerJoinsRow, standIns := [], harness := (true, "44e1306b38da4052233f7bf6e74c187a0386c2916251dcb94f6498fdda0f043d"), looks := true }, kinds := [], alts := [], laidByText := true, laidKinds := [.data, .data, .data, .sentinel, .sentinel, .sentinel, .sentinel, .sentinel, .sentinel, .sentinel, .sentinel, .sentinel, .sentinel, .sentinel, .sentinel, .sentinel, .sentinel], laidTests := true, laidLooks := .later }
def PartnerJoinsCardSaid : Prop := Claim7.holds Tryz.pinned (.plain (OpenSpec.ofChange partnerJoinsSpec)) partnerJoinsCard

/-- THE TIED CARD OF 'liaisonlaw16.PartnerOnce'. -/
def partnerOnceCard : Claim7 := { stood := { row := partnerOnceRow, standIns := [], harness := (true, "44e1306b38da4052233f7bf6e74c187a0386c2916251dcb94f6498fdda0f043d"), looks := true }, kinds := [], alts := [], laidByText := true, laidKinds := [.data, .data, .data, .sentinel, .sentinel, .sentinel, .sentinel, .sentinel, .sentinel, .sentinel, .sentinel, .sentinel, .sentinel, .sentinel, .sentinel, .sentinel, .sentinel], laidTests := true, laidLooks := .later }
def PartnerOnceCardSaid : Prop := Claim7.holds Tryz.pinned (.plain (OpenSpec.ofChange partnerOnceSpec)) partnerOnceCard

/-- THE TIED CARD OF 'liaisonlaw16.PartnerAnswers'. -/
def partnerAnswersCard : Claim7 := { stood := { row := partnerAnswersRow, standIns := [], harness := (true, "44e1306b38da4052233f7bf6e74c187a0386c2916251dcb94f6498fdda0f043d"), looks := true }, kinds := [], alts := [], laidByText := true, laidKinds := [.data, .data, .data, .sentinel, .sentinel, .sentinel, .sentinel, .sentinel, .sentinel, .sentinel, .sentinel, .sentinel, .sentinel, .sentinel, .sentinel, .sentinel, .sentinel], laidTests := true, laidLooks := .later }
def PartnerAnswersCardSaid : Prop := Claim7.holds Tryz.pinned (.plain (OpenSpec.ofChange partnerAnswersSpec)) partnerAnswersCard

/-- THE SECOND FORM's CARD OF 'liaisonlaw16.PartnerTells'. -/
def partnerTellsUptoCard : Claim7 := { stood := { row := partnerTellsUptoRow, standIns := [], harness := (true, "44e1306b38da4052233f7bf6e74c187a0386c2916251dcb94f6498fdda0f043d"), looks := true }, kinds := [], alts := [], laidByText := true, laidKinds := [.data, .data, .data, .sentinel, .sentinel, .sentinel, .sentinel, .sentinel, .sentinel, .sentinel, .sentinel, .sentinel, .sentinel, .sentinel, .sentinel, .sentinel, .sentinel], laidTests := true, laidLooks := .later }
def PartnerTellsUptoCardSaid : Prop := Claim7.holds Tryz.pinned (.plain (OpenSpec.upto partnerTellsSpec)) partnerTellsUptoCard

/-- THE SECOND FORM's CARD OF 'liaisonlaw16.PartnerDoes'. -/
def partnerDoesUptoCard : Claim7 := { stood := { row := partnerDoesUptoRow, standIns := [], harness := (true, "44e1306b38da4052233f7bf6e74c187a0386c2916251dcb94f6498fdda0f043d"), looks := true }, kinds := [], alts := [], laidByText := true, laidKinds := [.data, .data, .data, .sentinel, .sentinel, .sentinel, .sentinel, .sentinel, .sentinel, .sentinel, .sentinel, .sentinel, .sentinel, .sentinel, .sentinel, .sentinel, .sentinel], laidTests := true, laidLooks := .later }
def PartnerDoesUptoCardSaid : Prop := Claim7.holds Tryz.pinned (.plain (OpenSpec.upto partnerDoesSpec)) partnerDoesUptoCard

/-- THE SECOND FORM's CARD OF 'liaisonlaw16.PartnerJoins'. -/
def partnerJoinsUptoCard : Claim7 := { stood := { row := partnerJoinsUptoRow, standIns := [], harness := (true, "44e1306b38da4052233f7bf6e74c187a0386c2916251dcb94f6498fdda0f043d"), looks := true }, kinds := [], alts := [], laidByText := true, laidKinds := [.data, .data, .data, .sentinel, .sentinel, .sentinel, .sentinel, .sentinel, .sentinel, .sentinel, .sentinel, .sentinel, .sentinel, .sentinel, .sentinel, .sentinel, .sentinel], laidTests := true, laidLooks := .later }
def PartnerJoinsUptoCardSaid : Prop := Claim7.holds Tryz.pinned (.plain (OpenSpec.upto partnerJoinsSpec)) partnerJoinsUptoCard

/-- THE SECOND FORM's CARD OF 'liaisonlaw16.PartnerOnce'. -/
def partnerOnceUptoCard : Claim7 := { stood := { row := partnerOnceUptoRow, standIns := [], harness := (true, "44e1306b38da4052233f7bf6e74c187a0386c2916251dcb94f6498fdda0f043d"), looks := true }, kinds := [], alts := [], laidByText := true, laidKinds := [.data, .data, .data, .sentinel, .sentinel, .sentinel, .sentinel, .sentinel, .sentinel, .sentinel, .sentinel, .sentinel, .sentinel, .sentinel, .sentinel, .sentinel, .sentinel], laidTests := true, laidLooks := .later }
def PartnerOnceUptoCardSaid : Prop := Claim7.holds Tryz.pinned (.plain (OpenSpec.upto partnerOnceSpec)) partnerOnceUptoCard

/-- THE SECOND FORM's CARD OF 'liaisonlaw16.PartnerAnswers'. -/
def partnerAnswersUptoCard : Claim7 := { stood := { row := partnerAnswersUptoRow, standIns := [], harness := (true, "44e1306b38da4052233f7bf6e74c187a0386c2916251dcb94f6498fdda0f043d"), looks := true }, kinds := [], alts := [], laidByText := true, laidKinds := [.data, .data, .data, .sentinel, .sentinel, .sentinel, .sentinel, .sentinel, .sentinel, .sentinel, .sentinel, .sentinel, .sentinel, .sentinel, .sentinel, .sentinel, .sentinel], laidTests := true, laidLooks := .later }
def PartnerAnswersUptoCardSaid : Prop := Claim7.holds Tryz.pinned (.plain (OpenSpec.upto partnerAnswersSpec)) partnerAnswersUptoCard
end Rows
end Go.Proofs.YtncoofnhifcnhaaGreatDoor
