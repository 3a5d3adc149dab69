/-
  DERIVED. GIVEN WITH THE SEED: THE CARDS: each row of YtcgcliglcdfijaaDoorRows.lean that lists a variable, with what it lists TIED to the program's text (the seventh form; the later family's looks); each row that meets fmt, with fmt's text TOLD by the authors' own Lean function (tested against real Go, not proved from fmt's source: count such statements apart). THE CARD IS WHAT COUNTS. Prove the row's statement (the work); the ties are given (YtcgcliglcdfijaaDoorTie.lean); close each card by the builder's one call (the guide's Derived/Test/ToyasCard.lean, 'card_holds'). Laid BY PROGRAM, IN A SANDBOX (cutbox-door.mjs). By AI agents, Wed Nov 11 2026. No macro, syntax, notation, axiom, sorry.
-/
import Derived.Test.YtcgcliglcdfijaaDoorRows
import GoSem.ClaimSeven
namespace Go.Proofs.YtcgcliglcdfijaaDoor
namespace Rows

/-- THE TIED CARD OF 'liaisonlaw02.CatchTries'. -/
def catchTriesCard : Claim7 := { stood := { row := catchTriesRow, standIns := [], harness := (true, "c2a031c67beb55a7ae15c265601000f47e98b2726a50857b9458b646f879544c"), looks := true }, kinds := [], alts := [], laidByText := true, laidKinds := [.data, .data, .data, .sentinel, .sentinel, .sentinel, .sentinel, .sentinel, .sentinel, .sentinel, .sentinel, .sentinel, .sentinel, .sentinel, .sentinel, .sentinel, .sentinel, .sentinel, .sentinel], laidTests := true, laidLooks := .later }
def CatchTriesCardSaid : Prop := Claim7.holds Tryd.pinned (.plain (OpenSpec.ofChange catchTriesSpec)) catchTriesCard

/-- THE TIED CARD OF 'liaisonlaw02.CatchAll'. -/
def catchAllCard : Claim7 := { stood := { row := catchAllRow, standIns := [], harness := (true, "c2a031c67beb55a7ae15c265601000f47e98b2726a50857b9458b646f879544c"), looks := true }, kinds := [], alts := [], laidByText := true, laidKinds := [.data, .data, .data, .sentinel, .sentinel, .sentinel, .sentinel, .sentinel, .sentinel, .sentinel, .sentinel, .sentinel, .sentinel, .sentinel, .sentinel, .sentinel, .sentinel, .sentinel, .sentinel], laidTests := true, laidLooks := .later }
def CatchAllCardSaid : Prop := Claim7.holds Tryd.pinned (.plain (OpenSpec.ofChange catchAllSpec)) catchAllCard

/-- THE TIED CARD OF 'liaisonlaw02.CatchMust'. -/
def catchMustCard : Claim7 := { stood := { row := catchMustRow, standIns := [], harness := (true, "c2a031c67beb55a7ae15c265601000f47e98b2726a50857b9458b646f879544c"), looks := true }, kinds := [], alts := [], laidByText := true, laidKinds := [.sentinel, .sentinel, .sentinel, .sentinel, .sentinel, .sentinel, .sentinel, .sentinel, .sentinel, .sentinel, .sentinel, .sentinel, .sentinel, .sentinel], laidTests := true, laidLooks := .later }
def CatchMustCardSaid : Prop := Claim7.holds Tryd.pinned (.plain (OpenSpec.ofChange catchMustSpec)) catchMustCard

/-- THE TIED CARD OF 'liaisonlaw02.CatchGoes'. -/
def catchGoesCard : Claim7 := { stood := { row := catchGoesRow, standIns := [], harness := (true, "c2a031c67beb55a7ae15c265601000f47e98b2726a50857b9458b646f879544c"), looks := true }, kinds := [], alts := [], laidByText := true, laidKinds := [.data, .data, .data, .sentinel, .sentinel, .sentinel, .sentinel, .sentinel, .sentinel, .sentinel, .sentinel, .sentinel, .sentinel, .sentinel, .sentinel, .sentinel, .sentinel, .sentinel, .sentinel], laidTests := true, laidLooks := .later }
def CatchGoesCardSaid : Prop := Claim7.holds Tryd.pinned (.plain (OpenSpec.ofChange catchGoesSpec)) catchGoesCard

/-- THE TIED CARD OF 'liaisonlaw02.CatchWithin'. -/
def catchWithinCard : Claim7 := { stood := { row := catchWithinRow, standIns := [], harness := (true, "c2a031c67beb55a7ae15c265601000f47e98b2726a50857b9458b646f879544c"), looks := true }, kinds := [], alts := [], laidByText := true, laidKinds := [.data, .data, .data, .sentinel, .sentinel, .sentinel, .sentinel, .sentinel, .sentinel, .sentinel, .sentinel, .sentinel, .sentinel, .sentinel, .sentinel, .sentinel, .sentinel, .sentinel, .sentinel], laidTests := true, laidLooks := .later }
def CatchWithinCardSaid : Prop := Claim7.holds Tryd.pinned (.plain (OpenSpec.ofChange catchWithinSpec)) catchWithinCard

/-- THE SECOND FORM's CARD OF 'liaisonlaw02.CatchTries'. -/
def catchTriesUptoCard : Claim7 := { stood := { row := catchTriesUptoRow, standIns := [], harness := (true, "c2a031c67beb55a7ae15c265601000f47e98b2726a50857b9458b646f879544c"), looks := true }, kinds := [], alts := [], laidByText := true, laidKinds := [.data, .data, .data, .sentinel, .sentinel, .sentinel, .sentinel, .sentinel, .sentinel, .sentinel, .sentinel, .sentinel, .sentinel, .sentinel, .sentinel, .sentinel, .sentinel, .sentinel, .sentinel], laidTests := true, laidLooks := .later }
def CatchTriesUptoCardSaid : Prop := Claim7.holds Tryd.pinned (.plain (OpenSpec.upto catchTriesSpec)) catchTriesUptoCard

/-- THE SECOND FORM's CARD OF 'liaisonlaw02.CatchAll'. -/
def catchAllUptoCard : Claim7 := { stood := { row := catchAllUptoRow, standIns := [], harness := (true, "c2a031c67beb55a7ae15c265601000f47e98b2726a50857b9458b646f879544c"), looks := true }, kinds := [], alts := [], laidByText := true, laidKinds := [.data, .data, .data, .sentinel, .sentinel, .sentinel, .sentinel, .sentinel, .sentinel, .sentinel, .sentinel, .sentinel, .sentinel, .sentinel, .sentinel, .sentinel, .sentinel, .sentinel, .sentinel], laidTests := true, laidLooks := .later }
def CatchAllUptoCardSaid : Prop := Claim7.holds Tryd.pinned (.plain (OpenSpec.upto catchAllSpec)) catchAllUptoCard

/-- THE SECOND FORM's CARD OF 'liaisonlaw02.CatchMust'. -/
def catchMustUptoCard : Claim7 := { stood := { row := catchMustUptoRow, standIns := [], harness := (true, "c2a031c67beb55a7ae15c265601000f47e98b2726a50857b9458b646f879544c"), looks := true }, kinds := [], alts := [], laidByText := true, laidKinds := [.sentinel, .sentinel, .sentinel, .sentinel, .sentinel, .sentinel, .sentinel, .sentinel, .sentinel, .sentinel, .sentinel, .sentinel, .sentinel, .sentinel], laidTests := true, laidLooks := .later }
def CatchMustUptoCardSaid : Prop := Claim7.holds Tryd.pinned (.plain (OpenSpec.upto catchMustSpec)) catchMustUptoCard

/-- THE SECOND FORM's CARD OF 'liaisonlaw02.CatchGoes'. -/
def catchGoesUptoCard : Claim7 := { stood := { row := catchGoesUptoRow, standIns := [], harness := (true, "c2a031c67beb55a7ae15c265601000f47e98b2726a50857b9458b646f879544c"), looks := true }, kinds := [], alts := [], laidByText := true, laidKinds := [.data, .data, .data, .sentinel, .sentinel, .sentinel, .sentinel, .sentinel, .sentinel, .sentinel, .sentinel, .sentinel, .sentinel, .sentinel, .sentinel, .sentinel, .sentinel, .sentinel, .sentinel], laidTests := true, laidLooks := .later }
def CatchGoesUptoCardSaid : Prop := Claim7.holds Tryd.pinned (.plain (OpenSpec.upto catchGoesSpec)) catchGoesUptoCard

/-- THE SECOND FORM's CARD OF 'liaisonlaw02.CatchWithin'. -/
def catchWithinUptoCard : Claim7 := { stood := { row := catchWithinUptoRow, standIns := [], harness := (true, "c2a031c67beb55a7ae15c265601000f47e98b2726a50857b9458b646f879544c"), looks := true }, kinds := [], alts := [], laidByText := true, laidKinds := [.data, .data, .data, .sentinel, .sentinel, .sentinel, .sentinel, .sentinel, .sentinel, .sentinel, .sentinel, .sentinel, .sentinel, .sentinel, .sentinel, .sentinel, .sentinel, .sentinel, .sentinel], laidTests := true, laidLooks := .later }
def CatchWithinUptoCardSaid : Prop := Claim7.holds Tryd.pinned (.plain (OpenSpec.upto catchWithinSpec)) catchWithinUptoCard
end Rows
end Go.Proofs.YtcgcliglcdfijaaDoor
