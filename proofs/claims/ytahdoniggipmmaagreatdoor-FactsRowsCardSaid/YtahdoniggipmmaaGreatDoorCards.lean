/-
  DERIVED. GIVEN WITH THE SEED: THE CARDS: each row of YtahdoniggipmmaaGreatDoorRows.lean that lists a variable, with what it lists TIED to the program's text (the seventh form; the later family's looks); each row that meets fmt, with fmt's text TOLD by the authors' own Lean function (tested against real Go, not proved from fmt's source: count such statements apart). THE CARD IS WHAT COUNTS. Prove the row's statement (the work); the ties are given (YtahdoniggipmmaaGreatDoorTie.lean); close each card by the builder's one call (the guide's Derived/Test/ToyasCard.lean, 'card_holds'). Laid BY PROGRAM, IN A SANDBOX (cutbox-door.mjs). By AI agents, Wed Nov 11 2026. No macro, syntax, notation, axiom, sorry.
-/
import Derived.Test.YtahdoniggipmmaaGreatDoorRows
import GoSem.ClaimSeven
namespace Go.Proofs.YtahdoniggipmmaaGreatDoor
namespace Rows

/-- THE TIED CARD OF 'liaisonlaw14.FactsBytes'. -/
def factsBytesCard : Claim7 := { stood := { row := factsBytesRow, standIns := [], harness := (true, "c409f4ca501cc690b3bbe630fc4070db3e5ca618a1d94cdb344338bcd9d887d3"), looks := true }, kinds := [], alts := [], laidByText := true, laidKinds := [.data, .data, .data, .sentinel, .sentinel, .sentinel, .sentinel, .sentinel, .sentinel, .sentinel, .sentinel, .sentinel, .sentinel, .sentinel, .sentinel, .sentinel, .sentinel], laidTests := true, laidLooks := .later }
def FactsBytesCardSaid : Prop := Claim7.holds Tryz.pinned (.plain (OpenSpec.ofChange factsBytesSpec)) factsBytesCard

/-- THE TIED CARD OF 'liaisonlaw14.FactsReads'. -/
def factsReadsCard : Claim7 := { stood := { row := factsReadsRow, standIns := [], harness := (true, "c409f4ca501cc690b3bbe630fc4070db3e5ca618a1d94cdb344338bcd9d887d3"), looks := true }, kinds := [], alts := [], laidByText := true, laidKinds := [.data, .data, .data, .sentinel, .sentinel, .sentinel, .sentinel, .sentinel, .sentinel, .sentinel, .sentinel, .sentinel, .sentinel, .sentinel, .sentinel, .sentinel, .sentinel], laidTests := true, laidLooks := .later }
def FactsReadsCardSaid : Prop := Claim7.holds Tryz.pinned (.plain (OpenSpec.ofChange factsReadsSpec)) factsReadsCard

/-- THE TIED CARD OF 'liaisonlaw14.FactsRows'. -/
def factsRowsCard : Claim7 := { stood := { row := factsRowsRow, standIns := [], harness := (true, "c409f4ca501cc690b3bbe630fc4070db3e5ca618a1d94cdb344338bcd9d887d3"), looks := true }, kinds := [], alts := [], laidByText := true, laidKinds := [.data, .data, .data, .sentinel, .sentinel, .sentinel, .sentinel, .sentinel, .sentinel, .sentinel, .sentinel, .sentinel, .sentinel, .sentinel, .sentinel, .sentinel, .sentinel], laidTests := true, laidLooks := .later }
def FactsRowsCardSaid : Prop := Claim7.holds Tryz.pinned (.plain (OpenSpec.ofChange factsRowsSpec)) factsRowsCard

/-- THE TIED CARD OF 'liaisonlaw14.FactsUnlike'. -/
def factsUnlikeCard : Claim7 := { stood := { row := factsUnlikeRow, standIns := [], harness := (true, "c409f4ca501cc690b3bbe630fc4070db3e5ca618a1d94cdb344338bcd9d887d3"), looks := true }, kinds := [], alts := [], laidByText := true, laidKinds := [.data, .data, .data, .sentinel, .sentinel, .sentinel, .sentinel, .sentinel, .sentinel, .sentinel, .sentinel, .sentinel, .sentinel, .sentinel, .sentinel, .sentinel, .sentinel], laidTests := true, laidLooks := .later }
def FactsUnlikeCardSaid : Prop := Claim7.holds Tryz.pinned (.plain (OpenSpec.ofChange factsUnlikeSpec)) factsUnlikeCard

/-- THE SECOND FORM's CARD OF 'liaisonlaw14.FactsBytes'. -/
def factsBytesUptoCard : Claim7 := { stood := { row := factsBytesUptoRow, standIns := [], harness := (true, "c409f4ca501cc690b3bbe630fc4070db3e5ca618a1d94cdb344338bcd9d887d3"), looks := true }, kinds := [], alts := [], laidByText := true, laidKinds := [.data, .data, .data, .sentinel, .sentinel, .sentinel, .sentinel, .sentinel, .sentinel, .sentinel, .sentinel, .sentinel, .sentinel, .sentinel, .sentinel, .sentinel, .sentinel], laidTests := true, laidLooks := .later }
def FactsBytesUptoCardSaid : Prop := Claim7.holds Tryz.pinned (.plain (OpenSpec.upto factsBytesSpec)) factsBytesUptoCard

/-- THE SECOND FORM's CARD OF 'liaisonlaw14.FactsReads'. -/
def factsReadsUptoCard : Claim7 := { stood := { row := factsReadsUptoRow, standIns := [], harness := (true, "c409f4ca501cc690b3bbe630fc4070db3e5ca618a1d94cdb344338bcd9d887d3"), looks := true }, kinds := [], alts := [], laidByText := true, laidKinds := [.data, .data, .data, .sentinel, .sentinel, .sentinel, .sentinel, .sentinel, .sentinel, .sentinel, .sentinel, .sentinel, .sentinel, .sentinel, .sentinel, .sentinel, .sentinel], laidTests := true, laidLooks := .later }
def FactsReadsUptoCardSaid : Prop := Claim7.holds Tryz.pinned (.plain (OpenSpec.upto factsReadsSpec)) factsReadsUptoCard

/-- THE SECOND FORM's CARD OF 'liaisonlaw14.FactsRows'. -/
def factsRowsUptoCard : Claim7 := { stood := { row := factsRowsUptoRow, standIns := [], harness := (true, "c409f4ca501cc690b3bbe630fc4070db3e5ca618a1d94cdb344338bcd9d887d3"), looks := true }, kinds := [], alts := [], laidByText := true, laidKinds := [.data, .data, .data, .sentinel, .sentinel, .sentinel, .sentinel, .sentinel, .sentinel, .sentinel, .sentinel, .sentinel, .sentinel, .sentinel, .sentinel, .sentinel, .sentinel], laidTests := true, laidLooks := .later }
def FactsRowsUptoCardSaid : Prop := Claim7.holds Tryz.pinned (.plain (OpenSpec.upto factsRowsSpec)) factsRowsUptoCard

/-- THE SECOND FORM's CARD OF 'liaisonlaw14.FactsUnlike'. -/
def factsUnlikeUptoCard : Claim7 := { stood := { row := factsUnlikeUptoRow, standIns := [], harness := (true, "c409f4ca501cc690b3bbe630fc4070db3e5ca618a1d94cdb344338bcd9d887d3"), looks := true }, kinds := [], alts := [], laidByText := true, laidKinds := [.data, .data, .data, .sentinel, .sentinel, .sentinel, .sentinel, .sentinel, .sentinel, .sentinel, .sentinel, .sentinel, .sentinel, .sentinel, .sentinel, .sentinel, .sentinel], laidTests := true, laidLooks := .later }
def FactsUnlikeUptoCardSaid : Prop := Claim7.holds Tryz.pinned (.plain (OpenSpec.upto factsUnlikeSpec)) factsUnlikeUptoCard
end Rows
end Go.Proofs.YtahdoniggipmmaaGreatDoor
