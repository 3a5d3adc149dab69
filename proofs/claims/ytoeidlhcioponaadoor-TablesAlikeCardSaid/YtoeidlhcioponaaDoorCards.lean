/-
  DERIVED. GIVEN WITH THE SEED: THE CARDS: each row of YtoeidlhcioponaaDoorRows.lean that lists a variable, with what it lists TIED to the program's text (the seventh form; the later family's looks); each row that meets fmt, with fmt's text TOLD by the authors' own Lean function (tested against real Go, not proved from fmt's source: count such statements apart). THE CARD IS WHAT COUNTS. Prove the row's statement (the work); the ties are given (YtoeidlhcioponaaDoorTie.lean); close each card by the builder's one call (the guide's Derived/Test/ToyasCard.lean, 'card_holds'). Laid BY PROGRAM, IN A SANDBOX (cutbox-door.mjs). By AI agents, Wed Nov 11 2026. No macro, syntax, notation, axiom, sorry.
-/
import Derived.Test.YtoeidlhcioponaaDoorRows
import GoSem.ClaimSeven
namespace Go.Proofs.YtoeidlhcioponaaDoor
namespace Rows

/-- THE TIED CARD OF 'liaisonlaw10.TablesLook'. -/
def tablesLookCard : Claim7 := { stood := { row := tablesLookRow, standIns := [], harness := (true, "d344e28982503575e6d6ccf8af74b11b2be2088561c18dade8743b1299d7f3e3"), looks := true }, kinds := [], alts := [], laidByText := true, laidKinds := [.sentinel, .sentinel, .sentinel, .sentinel, .sentinel, .sentinel, .sentinel, .sentinel, .sentinel, .sentinel, .sentinel, .sentinel, .sentinel, .sentinel], laidTests := true, laidLooks := .later }
def TablesLookCardSaid : Prop := Claim7.holds Tryd.pinned (.plain (OpenSpec.ofChange tablesLookSpec)) tablesLookCard

/-- THE TIED CARD OF 'liaisonlaw10.TablesSteps'. -/
def tablesStepsCard : Claim7 := { stood := { row := tablesStepsRow, standIns := [], harness := (true, "d344e28982503575e6d6ccf8af74b11b2be2088561c18dade8743b1299d7f3e3"), looks := true }, kinds := [], alts := [], laidByText := true, laidKinds := [.sentinel, .sentinel, .sentinel, .sentinel, .sentinel, .sentinel, .sentinel, .sentinel, .sentinel, .sentinel, .sentinel, .sentinel, .sentinel, .sentinel], laidTests := true, laidLooks := .later }
def TablesStepsCardSaid : Prop := Claim7.holds Tryd.pinned (.plain (OpenSpec.ofChange tablesStepsSpec)) tablesStepsCard

/-- THE TIED CARD OF 'liaisonlaw10.TablesWaits'. -/
def tablesWaitsCard : Claim7 := { stood := { row := tablesWaitsRow, standIns := [], harness := (true, "d344e28982503575e6d6ccf8af74b11b2be2088561c18dade8743b1299d7f3e3"), looks := true }, kinds := [], alts := [], laidByText := true, laidKinds := [.sentinel, .sentinel, .sentinel, .sentinel, .sentinel, .sentinel, .sentinel, .sentinel, .sentinel, .sentinel, .sentinel, .sentinel, .sentinel, .sentinel], laidTests := true, laidLooks := .later }
def TablesWaitsCardSaid : Prop := Claim7.holds Tryd.pinned (.plain (OpenSpec.ofChange tablesWaitsSpec)) tablesWaitsCard

/-- THE TIED CARD OF 'liaisonlaw10.TablesLists'. -/
def tablesListsCard : Claim7 := { stood := { row := tablesListsRow, standIns := [], harness := (true, "d344e28982503575e6d6ccf8af74b11b2be2088561c18dade8743b1299d7f3e3"), looks := true }, kinds := [], alts := [], laidByText := true, laidKinds := [.sentinel, .sentinel, .sentinel, .sentinel, .sentinel, .sentinel, .sentinel, .sentinel, .sentinel, .sentinel, .sentinel, .sentinel, .sentinel, .sentinel], laidTests := true, laidLooks := .later }
def TablesListsCardSaid : Prop := Claim7.holds Tryd.pinned (.plain (OpenSpec.ofChange tablesListsSpec)) tablesListsCard

/-- THE TIED CARD OF 'liaisonlaw10.TablesEnd'. -/
def tablesEndCard : Claim7 := { stood := { row := tablesEndRow, standIns := [], harness := (true, "d344e28982503575e6d6ccf8af74b11b2be2088561c18dade8743b1299d7f3e3"), looks := true }, kinds := [], alts := [], laidByText := true, laidKinds := [.sentinel, .sentinel, .sentinel, .sentinel], laidTests := true, laidLooks := .later }
def TablesEndCardSaid : Prop := Claim7.holds Tryd.pinned (.plain (OpenSpec.ofChange tablesEndSpec)) tablesEndCard

/-- THE TIED CARD OF 'liaisonlaw10.TablesMeet'. -/
def tablesMeetCard : Claim7 := { stood := { row := tablesMeetRow, standIns := [], harness := (true, "d344e28982503575e6d6ccf8af74b11b2be2088561c18dade8743b1299d7f3e3"), looks := true }, kinds := [], alts := [], laidByText := true, laidKinds := [.sentinel, .sentinel, .sentinel], laidTests := true, laidLooks := .later }
def TablesMeetCardSaid : Prop := Claim7.holds Tryd.pinned (.plain (OpenSpec.ofChange tablesMeetSpec)) tablesMeetCard

/-- THE TIED CARD OF 'liaisonlaw10.TablesAlike'. -/
def tablesAlikeCard : Claim7 := { stood := { row := tablesAlikeRow, standIns := [], harness := (true, "d344e28982503575e6d6ccf8af74b11b2be2088561c18dade8743b1299d7f3e3"), looks := true }, kinds := [], alts := [], laidByText := true, laidKinds := [.sentinel, .sentinel, .sentinel], laidTests := true, laidLooks := .later }
def TablesAlikeCardSaid : Prop := Claim7.holds Tryd.pinned (.plain (OpenSpec.ofChange tablesAlikeSpec)) tablesAlikeCard

/-- THE SECOND FORM's CARD OF 'liaisonlaw10.TablesLook'. -/
def tablesLookUptoCard : Claim7 := { stood := { row := tablesLookUptoRow, standIns := [], harness := (true, "d344e28982503575e6d6ccf8af74b11b2be2088561c18dade8743b1299d7f3e3"), looks := true }, kinds := [], alts := [], laidByText := true, laidKinds := [.sentinel, .sentinel, .sentinel, .sentinel, .sentinel, .sentinel, .sentinel, .sentinel, .sentinel, .sentinel, .sentinel, .sentinel, .sentinel, .sentinel], laidTests := true, laidLooks := .later }
def TablesLookUptoCardSaid : Prop := Claim7.holds Tryd.pinned (.plain (OpenSpec.upto tablesLookSpec)) tablesLookUptoCard

/-- THE SECOND FORM's CARD OF 'liaisonlaw10.TablesSteps'. -/
def tablesStepsUptoCard : Claim7 := { stood := { row := tablesStepsUptoRow, standIns := [], harness := (true, "d344e28982503575e6d6ccf8af74b11b2be2088561c18dade8743b1299d7f3e3"), looks := true }, kinds := [], alts := [], laidByText := true, laidKinds := [.sentinel, .sentinel, .sentinel, .sentinel, .sentinel, .sentinel, .sentinel, .sentinel, .sentinel, .sentinel, .sentinel, .sentinel, .sentinel, .sentinel], laidTests := true, laidLooks := .later }
def TablesStepsUptoCardSaid : Prop := Claim7.holds Tryd.pinned (.plain (OpenSpec.upto tablesStepsSpec)) tablesStepsUptoCard

/-- THE SECOND FORM's CARD OF 'liaisonlaw10.TablesWaits'. -/
def tablesWaitsUptoCard : Claim7 := { stood := { row := tablesWaitsUptoRow, standIns := [], harness := (true, "d344e28982503575e6d6ccf8af74b11b2be2088561c18dade8743b1299d7f3e3"), looks := true }, kinds := [], alts := [], laidByText := true, laidKinds := [.sentinel, .sentinel, .sentinel, .sentinel, .sentinel, .sentinel, .sentinel, .sentinel, .sentinel, .sentinel, .sentinel, .sentinel, .sentinel, .sentinel], laidTests := true, laidLooks := .later }
def TablesWaitsUptoCardSaid : Prop := Claim7.holds Tryd.pinned (.plain (OpenSpec.upto tablesWaitsSpec)) tablesWaitsUptoCard

/-- THE SECOND FORM's CARD OF 'liaisonlaw10.TablesLists'. -/
def tablesListsUptoCard : Claim7 := { stood := { row := tablesListsUptoRow, standIns := [], harness := (true, "d344e28982503575e6d6ccf8af74b11b2be2088561c18dade8743b1299d7f3e3"), looks := true }, kinds := [], alts := [], laidByText := true, laidKinds := [.sentinel, .sentinel, .sentinel, .sentinel, .sentinel, .sentinel, .sentinel, .sentinel, .sentinel, .sentinel, .sentinel, .sentinel, .sentinel, .sentinel], laidTests := true, laidLooks := .later }
def TablesListsUptoCardSaid : Prop := Claim7.holds Tryd.pinned (.plain (OpenSpec.upto tablesListsSpec)) tablesListsUptoCard

/-- THE SECOND FORM's CARD OF 'liaisonlaw10.TablesEnd'. -/
def tablesEndUptoCard : Claim7 := { stood := { row := tablesEndUptoRow, standIns := [], harness := (true, "d344e28982503575e6d6ccf8af74b11b2be2088561c18dade8743b1299d7f3e3"), looks := true }, kinds := [], alts := [], laidByText := true, laidKinds := [.sentinel, .sentinel, .sentinel, .sentinel], laidTests := true, laidLooks := .later }
def TablesEndUptoCardSaid : Prop := Claim7.holds Tryd.pinned (.plain (OpenSpec.upto tablesEndSpec)) tablesEndUptoCard

/-- THE SECOND FORM's CARD OF 'liaisonlaw10.TablesMeet'. -/
def tablesMeetUptoCard : Claim7 := { stood := { row := tablesMeetUptoRow, standIns := [], harness := (true, "d344e28982503575e6d6ccf8af74b11b2be2088561c18dade8743b1299d7f3e3"), looks := true }, kinds := [], alts := [], laidByText := true, laidKinds := [.sentinel, .sentinel, .sentinel], laidTests := true, laidLooks := .later }
def TablesMeetUptoCardSaid : Prop := Claim7.holds Tryd.pinned (.plain (OpenSpec.upto tablesMeetSpec)) tablesMeetUptoCard

/-- THE SECOND FORM's CARD OF 'liaisonlaw10.TablesAlike'. -/
def tablesAlikeUptoCard : Claim7 := { stood := { row := tablesAlikeUptoRow, standIns := [], harness := (true, "d344e28982503575e6d6ccf8af74b11b2be2088561c18dade8743b1299d7f3e3"), looks := true }, kinds := [], alts := [], laidByText := true, laidKinds := [.sentinel, .sentinel, .sentinel], laidTests := true, laidLooks := .later }
def TablesAlikeUptoCardSaid : Prop := Claim7.holds Tryd.pinned (.plain (OpenSpec.upto tablesAlikeSpec)) tablesAlikeUptoCard
end Rows
end Go.Proofs.YtoeidlhcioponaaDoor
