/-
  DERIVED. GIVEN WITH THE SEED: THE CARDS: each row of YtfealdllicicnaaDoorRows.lean that lists a variable, with what it lists TIED to the program's text (the seventh form; the later family's looks); each row that meets fmt, with fmt's text TOLD by the authors' own Lean function (tested against real Go, not proved from fmt's source: count such statements apart). THE CARD IS WHAT COUNTS. Prove the row's statement (the work); the ties are given (YtfealdllicicnaaDoorTie.lean); close each card by the builder's one call (the guide's Derived/Test/ToyasCard.lean, 'card_holds'). Laid BY PROGRAM, IN A SANDBOX (cutbox-door.mjs). By AI agents, Wed Nov 11 2026. No macro, syntax, notation, axiom, sorry.
-/
import Derived.Test.YtfealdllicicnaaDoorRows
import GoSem.ClaimSeven
namespace Go.Proofs.YtfealdllicicnaaDoor
namespace Rows

/-- THE TIED CARD OF 'liaisonlaw03.FieldsJoin'. -/
def fieldsJoinCard : Claim7 := { stood := { row := fieldsJoinRow, standIns := [], harness := (true, "13f98af9a251c4becc2d5eaf5386b03171cc55cb545f6f03f1d50f4083ff7b16"), looks := true }, kinds := [], alts := [], laidByText := true, laidKinds := [.sentinel, .sentinel, .sentinel, .sentinel, .sentinel, .sentinel, .sentinel, .sentinel, .sentinel, .sentinel, .sentinel, .sentinel, .sentinel, .sentinel], laidTests := true, laidLooks := .later }
def FieldsJoinCardSaid : Prop := Claim7.holds Tryd.pinned (.plain (OpenSpec.ofChange fieldsJoinSpec)) fieldsJoinCard

/-- THE TIED CARD OF 'liaisonlaw03.FieldsSplit'. -/
def fieldsSplitCard : Claim7 := { stood := { row := fieldsSplitRow, standIns := [], harness := (true, "13f98af9a251c4becc2d5eaf5386b03171cc55cb545f6f03f1d50f4083ff7b16"), looks := true }, kinds := [], alts := [], laidByText := true, laidKinds := [.sentinel, .sentinel, .sentinel, .sentinel, .sentinel, .sentinel, .sentinel, .sentinel, .sentinel, .sentinel, .sentinel, .sentinel, .sentinel, .sentinel], laidTests := true, laidLooks := .later }
def FieldsSplitCardSaid : Prop := Claim7.holds Tryd.pinned (.plain (OpenSpec.ofChange fieldsSplitSpec)) fieldsSplitCard

/-- THE TIED CARD OF 'liaisonlaw03.FieldsNumbers'. -/
def fieldsNumbersCard : Claim7 := { stood := { row := fieldsNumbersRow, standIns := [], harness := (true, "13f98af9a251c4becc2d5eaf5386b03171cc55cb545f6f03f1d50f4083ff7b16"), looks := true }, kinds := [], alts := [], laidByText := true, laidKinds := [.sentinel, .sentinel, .sentinel, .sentinel, .sentinel, .sentinel, .sentinel, .sentinel, .sentinel, .sentinel, .sentinel, .sentinel, .sentinel, .sentinel], laidTests := true, laidLooks := .later }
def FieldsNumbersCardSaid : Prop := Claim7.holds Tryd.pinned (.plain (OpenSpec.ofChange fieldsNumbersSpec)) fieldsNumbersCard

/-- THE TIED CARD OF 'liaisonlaw03.FieldsFloats'. -/
def fieldsFloatsCard : Claim7 := { stood := { row := fieldsFloatsRow, standIns := [], harness := (true, "13f98af9a251c4becc2d5eaf5386b03171cc55cb545f6f03f1d50f4083ff7b16"), looks := true }, kinds := [], alts := [], laidByText := true, laidKinds := [.sentinel, .sentinel, .sentinel, .sentinel, .sentinel, .sentinel, .sentinel, .sentinel, .sentinel, .sentinel, .sentinel, .sentinel, .sentinel, .sentinel], laidTests := true, laidLooks := .later }
def FieldsFloatsCardSaid : Prop := Claim7.holds Tryd.pinned (.plain (OpenSpec.ofChange fieldsFloatsSpec)) fieldsFloatsCard

/-- THE TIED CARD OF 'liaisonlaw03.FieldsCut'. -/
def fieldsCutCard : Claim7 := { stood := { row := fieldsCutRow, standIns := [], harness := (true, "13f98af9a251c4becc2d5eaf5386b03171cc55cb545f6f03f1d50f4083ff7b16"), looks := true }, kinds := [], alts := [], laidByText := true, laidKinds := [.sentinel, .sentinel, .sentinel, .sentinel, .sentinel, .sentinel, .sentinel, .sentinel, .sentinel, .sentinel, .sentinel, .sentinel, .sentinel, .sentinel], laidTests := true, laidLooks := .later }
def FieldsCutCardSaid : Prop := Claim7.holds Tryd.pinned (.plain (OpenSpec.ofChange fieldsCutSpec)) fieldsCutCard

/-- THE TIED CARD OF 'liaisonlaw03.FieldsUnlike'. -/
def fieldsUnlikeCard : Claim7 := { stood := { row := fieldsUnlikeRow, standIns := [], harness := (true, "13f98af9a251c4becc2d5eaf5386b03171cc55cb545f6f03f1d50f4083ff7b16"), looks := true }, kinds := [], alts := [], laidByText := true, laidKinds := [.sentinel, .sentinel, .sentinel, .sentinel, .sentinel, .sentinel, .sentinel, .sentinel, .sentinel, .sentinel, .sentinel, .sentinel, .sentinel, .sentinel], laidTests := true, laidLooks := .later }
def FieldsUnlikeCardSaid : Prop := Claim7.holds Tryd.pinned (.plain (OpenSpec.ofChange fieldsUnlikeSpec)) fieldsUnlikeCard

/-- THE SECOND FORM's CARD OF 'liaisonlaw03.FieldsJoin'. -/
def fieldsJoinUptoCard : Claim7 := { stood := { row := fieldsJoinUptoRow, standIns := [], harness := (true, "13f98af9a251c4becc2d5eaf5386b03171cc55cb545f6f03f1d50f4083ff7b16"), looks := true }, kinds := [], alts := [], laidByText := true, laidKinds := [.sentinel, .sentinel, .sentinel, .sentinel, .sentinel, .sentinel, .sentinel, .sentinel, .sentinel, .sentinel, .sentinel, .sentinel, .sentinel, .sentinel], laidTests := true, laidLooks := .later }
def FieldsJoinUptoCardSaid : Prop := Claim7.holds Tryd.pinned (.plain (OpenSpec.upto fieldsJoinSpec)) fieldsJoinUptoCard

/-- THE SECOND FORM's CARD OF 'liaisonlaw03.FieldsSplit'. -/
def fieldsSplitUptoCard : Claim7 := { stood := { row := fieldsSplitUptoRow, standIns := [], harness := (true, "13f98af9a251c4becc2d5eaf5386b03171cc55cb545f6f03f1d50f4083ff7b16"), looks := true }, kinds := [], alts := [], laidByText := true, laidKinds := [.sentinel, .sentinel, .sentinel, .sentinel, .sentinel, .sentinel, .sentinel, .sentinel, .sentinel, .sentinel, .sentinel, .sentinel, .sentinel, .sentinel], laidTests := true, laidLooks := .later }
def FieldsSplitUptoCardSaid : Prop := Claim7.holds Tryd.pinned (.plain (OpenSpec.upto fieldsSplitSpec)) fieldsSplitUptoCard

/-- THE SECOND FORM's CARD OF 'liaisonlaw03.FieldsNumbers'. -/
def fieldsNumbersUptoCard : Claim7 := { stood := { row := fieldsNumbersUptoRow, standIns := [], harness := (true, "13f98af9a251c4becc2d5eaf5386b03171cc55cb545f6f03f1d50f4083ff7b16"), looks := true }, kinds := [], alts := [], laidByText := true, laidKinds := [.sentinel, .sentinel, .sentinel, .sentinel, .sentinel, .sentinel, .sentinel, .sentinel, .sentinel, .sentinel, .sentinel, .sentinel, .sentinel, .sentinel], laidTests := true, laidLooks := .later }
def FieldsNumbersUptoCardSaid : Prop := Claim7.holds Tryd.pinned (.plain (OpenSpec.upto fieldsNumbersSpec)) fieldsNumbersUptoCard

/-- THE SECOND FORM's CARD OF 'liaisonlaw03.FieldsFloats'. -/
def fieldsFloatsUptoCard : Claim7 := { stood := { row := fieldsFloatsUptoRow, standIns := [], harness := (true, "13f98af9a251c4becc2d5eaf5386b03171cc55cb545f6f03f1d50f4083ff7b16"), looks := true }, kinds := [], alts := [], laidByText := true, laidKinds := [.sentinel, .sentinel, .sentinel, .sentinel, .sentinel, .sentinel, .sentinel, .sentinel, .sentinel, .sentinel, .sentinel, .sentinel, .sentinel, .sentinel], laidTests := true, laidLooks := .later }
def FieldsFloatsUptoCardSaid : Prop := Claim7.holds Tryd.pinned (.plain (OpenSpec.upto fieldsFloatsSpec)) fieldsFloatsUptoCard

/-- THE SECOND FORM's CARD OF 'liaisonlaw03.FieldsCut'. -/
def fieldsCutUptoCard : Claim7 := { stood := { row := fieldsCutUptoRow, standIns := [], harness := (true, "13f98af9a251c4becc2d5eaf5386b03171cc55cb545f6f03f1d50f4083ff7b16"), looks := true }, kinds := [], alts := [], laidByText := true, laidKinds := [.sentinel, .sentinel, .sentinel, .sentinel, .sentinel, .sentinel, .sentinel, .sentinel, .sentinel, .sentinel, .sentinel, .sentinel, .sentinel, .sentinel], laidTests := true, laidLooks := .later }
def FieldsCutUptoCardSaid : Prop := Claim7.holds Tryd.pinned (.plain (OpenSpec.upto fieldsCutSpec)) fieldsCutUptoCard

/-- THE SECOND FORM's CARD OF 'liaisonlaw03.FieldsUnlike'. -/
def fieldsUnlikeUptoCard : Claim7 := { stood := { row := fieldsUnlikeUptoRow, standIns := [], harness := (true, "13f98af9a251c4becc2d5eaf5386b03171cc55cb545f6f03f1d50f4083ff7b16"), looks := true }, kinds := [], alts := [], laidByText := true, laidKinds := [.sentinel, .sentinel, .sentinel, .sentinel, .sentinel, .sentinel, .sentinel, .sentinel, .sentinel, .sentinel, .sentinel, .sentinel, .sentinel, .sentinel], laidTests := true, laidLooks := .later }
def FieldsUnlikeUptoCardSaid : Prop := Claim7.holds Tryd.pinned (.plain (OpenSpec.upto fieldsUnlikeSpec)) fieldsUnlikeUptoCard
end Rows
end Go.Proofs.YtfealdllicicnaaDoor
