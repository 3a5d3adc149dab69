/-
  DERIVED. GIVEN WITH THE SEED: THE CARDS: each row of YtfginhckeogafaaDoorRows.lean that lists a variable, with what it lists TIED to the program's text (the seventh form; the later family's looks); each row that meets fmt, with fmt's text TOLD by the authors' own Lean function (tested against real Go, not proved from fmt's source: count such statements apart). THE CARD IS WHAT COUNTS. Prove the row's statement (the work); the ties are given (YtfginhckeogafaaDoorTie.lean); close each card by the builder's one call (the guide's Derived/Test/ToyasCard.lean, 'card_holds'). Laid BY PROGRAM, IN A SANDBOX (cutbox-door.mjs). By AI agents, Wed Nov 11 2026. No macro, syntax, notation, axiom, sorry.
-/
import Derived.Test.YtfginhckeogafaaDoorRows
import GoSem.ClaimSeven
namespace Go.Proofs.YtfginhckeogafaaDoor
namespace Rows

/-- THE TIED CARD OF 'liaisonlaw08.LetterEncodes'. -/
def letterEncodesCard : Claim7 := { stood := { row := letterEncodesRow, standIns := [], harness := (true, "dab889aa8eb1bf89d32c76e5ec3fe04e4e540aea558a0d1b44e1b3f60385e647"), looks := true }, kinds := [], alts := [], laidByText := true, laidKinds := [.data, .data, .data, .sentinel, .sentinel, .sentinel, .sentinel, .sentinel, .sentinel, .sentinel, .sentinel, .sentinel, .sentinel, .sentinel, .sentinel, .sentinel, .sentinel], laidTests := true, laidLooks := .later }
def LetterEncodesCardSaid : Prop := Claim7.holds Tryd.pinned (.plain (OpenSpec.ofChange letterEncodesSpec)) letterEncodesCard

/-- THE TIED CARD OF 'liaisonlaw08.LetterDecodes'. -/
def letterDecodesCard : Claim7 := { stood := { row := letterDecodesRow, standIns := [], harness := (true, "dab889aa8eb1bf89d32c76e5ec3fe04e4e540aea558a0d1b44e1b3f60385e647"), looks := true }, kinds := [], alts := [], laidByText := true, laidKinds := [.data, .data, .data, .sentinel, .sentinel, .sentinel, .sentinel, .sentinel, .sentinel, .sentinel, .sentinel, .sentinel, .sentinel, .sentinel, .sentinel, .sentinel, .sentinel], laidTests := true, laidLooks := .later }
def LetterDecodesCardSaid : Prop := Claim7.holds Tryd.pinned (.plain (OpenSpec.ofChange letterDecodesSpec)) letterDecodesCard

/-- THE TIED CARD OF 'liaisonlaw08.LetterAnswers'. -/
def letterAnswersCard : Claim7 := { stood := { row := letterAnswersRow, standIns := [], harness := (true, "dab889aa8eb1bf89d32c76e5ec3fe04e4e540aea558a0d1b44e1b3f60385e647"), looks := true }, kinds := [], alts := [], laidByText := true, laidKinds := [.data, .data, .data, .sentinel, .sentinel, .sentinel, .sentinel, .sentinel, .sentinel, .sentinel, .sentinel, .sentinel, .sentinel, .sentinel, .sentinel, .sentinel, .sentinel], laidTests := true, laidLooks := .later }
def LetterAnswersCardSaid : Prop := Claim7.holds Tryd.pinned (.plain (OpenSpec.ofChange letterAnswersSpec)) letterAnswersCard

/-- THE TIED CARD OF 'liaisonlaw08.LetterCut'. -/
def letterCutCard : Claim7 := { stood := { row := letterCutRow, standIns := [], harness := (true, "dab889aa8eb1bf89d32c76e5ec3fe04e4e540aea558a0d1b44e1b3f60385e647"), looks := true }, kinds := [], alts := [], laidByText := true, laidKinds := [.data, .data, .data, .sentinel, .sentinel, .sentinel, .sentinel, .sentinel, .sentinel, .sentinel, .sentinel, .sentinel, .sentinel, .sentinel, .sentinel, .sentinel, .sentinel], laidTests := true, laidLooks := .later }
def LetterCutCardSaid : Prop := Claim7.holds Tryd.pinned (.plain (OpenSpec.ofChange letterCutSpec)) letterCutCard

/-- THE TIED CARD OF 'liaisonlaw08.LetterUnlike'. -/
def letterUnlikeCard : Claim7 := { stood := { row := letterUnlikeRow, standIns := [], harness := (true, "dab889aa8eb1bf89d32c76e5ec3fe04e4e540aea558a0d1b44e1b3f60385e647"), looks := true }, kinds := [], alts := [], laidByText := true, laidKinds := [.data, .data, .data, .sentinel, .sentinel, .sentinel, .sentinel, .sentinel, .sentinel, .sentinel, .sentinel, .sentinel, .sentinel, .sentinel, .sentinel, .sentinel, .sentinel], laidTests := true, laidLooks := .later }
def LetterUnlikeCardSaid : Prop := Claim7.holds Tryd.pinned (.plain (OpenSpec.ofChange letterUnlikeSpec)) letterUnlikeCard

/-- THE SECOND FORM's CARD OF 'liaisonlaw08.LetterEncodes'. -/
def letterEncodesUptoCard : Claim7 := { stood := { row := letterEncodesUptoRow, standIns := [], harness := (true, "dab889aa8eb1bf89d32c76e5ec3fe04e4e540aea558a0d1b44e1b3f60385e647"), looks := true }, kinds := [], alts := [], laidByText := true, laidKinds := [.data, .data, .data, .sentinel, .sentinel, .sentinel, .sentinel, .sentinel, .sentinel, .sentinel, .sentinel, .sentinel, .sentinel, .sentinel, .sentinel, .sentinel, .sentinel], laidTests := true, laidLooks := .later }
def LetterEncodesUptoCardSaid : Prop := Claim7.holds Tryd.pinned (.plain (OpenSpec.upto letterEncodesSpec)) letterEncodesUptoCard

/-- THE SECOND FORM's CARD OF 'liaisonlaw08.LetterDecodes'. -/
def letterDecodesUptoCard : Claim7 := { stood := { row := letterDecodesUptoRow, standIns := [], harness := (true, "dab889aa8eb1bf89d32c76e5ec3fe04e4e540aea558a0d1b44e1b3f60385e647"), looks := true }, kinds := [], alts := [], laidByText := true, laidKinds := [.data, .data, .data, .sentinel, .sentinel, .sentinel, .sentinel, .sentinel, .sentinel, .sentinel, .sentinel, .sentinel, .sentinel, .sentinel, .sentinel, .sentinel, .sentinel], laidTests := true, laidLooks := .later }
def LetterDecodesUptoCardSaid : Prop := Claim7.holds Tryd.pinned (.plain (OpenSpec.upto letterDecodesSpec)) letterDecodesUptoCard

/-- THE SECOND FORM's CARD OF 'liaisonlaw08.LetterAnswers'. -/
def letterAnswersUptoCard : Claim7 := { stood := { row := letterAnswersUptoRow, standIns := [], harness := (true, "dab889aa8eb1bf89d32c76e5ec3fe04e4e540aea558a0d1b44e1b3f60385e647"), looks := true }, kinds := [], alts := [], laidByText := true, laidKinds := [.data, .data, .data, .sentinel, .sentinel, .sentinel, .sentinel, .sentinel, .sentinel, .sentinel, .sentinel, .sentinel, .sentinel, .sentinel, .sentinel, .sentinel, .sentinel], laidTests := true, laidLooks := .later }
def LetterAnswersUptoCardSaid : Prop := Claim7.holds Tryd.pinned (.plain (OpenSpec.upto letterAnswersSpec)) letterAnswersUptoCard

/-- THE SECOND FORM's CARD OF 'liaisonlaw08.LetterCut'. -/
def letterCutUptoCard : Claim7 := { stood := { row := letterCutUptoRow, standIns := [], harness := (true, "dab889aa8eb1bf89d32c76e5ec3fe04e4e540aea558a0d1b44e1b3f60385e647"), looks := true }, kinds := [], alts := [], laidByText := true, laidKinds := [.data, .data, .data, .sentinel, .sentinel, .sentinel, .sentinel, .sentinel, .sentinel, .sentinel, .sentinel, .sentinel, .sentinel, .sentinel, .sentinel, .sentinel, .sentinel], laidTests := true, laidLooks := .later }
def LetterCutUptoCardSaid : Prop := Claim7.holds Tryd.pinned (.plain (OpenSpec.upto letterCutSpec)) letterCutUptoCard

/-- THE SECOND FORM's CARD OF 'liaisonlaw08.LetterUnlike'. -/
def letterUnlikeUptoCard : Claim7 := { stood := { row := letterUnlikeUptoRow, standIns := [], harness := (true, "dab889aa8eb1bf89d32c76e5ec3fe04e4e540aea558a0d1b44e1b3f60385e647"), looks := true }, kinds := [], alts := [], laidByText := true, laidKinds := [.data, .data, .data, .sentinel, .sentinel, .sentinel, .sentinel, .sentinel, .sentinel, .sentinel, .sentinel, .sentinel, .sentinel, .sentinel, .sentinel, .sentinel, .sentinel], laidTests := true, laidLooks := .later }
def LetterUnlikeUptoCardSaid : Prop := Claim7.holds Tryd.pinned (.plain (OpenSpec.upto letterUnlikeSpec)) letterUnlikeUptoCard
end Rows
end Go.Proofs.YtfginhckeogafaaDoor
