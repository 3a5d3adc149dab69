/-
  DERIVED. GIVEN WITH THE SEED: THE CARDS: each row of YtlmlmhmhgdjhnaaGreatDoorRows.lean that lists a variable, with what it lists TIED to the program's text (the seventh form; the later family's looks); each row that meets fmt, with fmt's text TOLD by the authors' own Lean function (tested against real Go, not proved from fmt's source: count such statements apart). THE CARD IS WHAT COUNTS. Prove the row's statement (the work); the ties are given (YtlmlmhmhgdjhnaaGreatDoorTie.lean); close each card by the builder's one call (the guide's Derived/Test/ToyasCard.lean, 'card_holds'). Laid BY PROGRAM, IN A SANDBOX (cutbox-door.mjs). By AI agents, Wed Nov 11 2026. No macro, syntax, notation, axiom, sorry.
-/
import Derived.Test.YtlmlmhmhgdjhnaaGreatDoorRows
import GoSem.ClaimSeven
namespace Go.Proofs.YtlmlmhmhgdjhnaaGreatDoor
namespace Rows

/-- THE TIED CARD OF 'liaisonlaw17.LeadOpens'. -/
def leadOpensCard : Claim7 := { stood := { row := leadOpensRow, standIns := [], harness := (true, "86c67286e2d999c602c0e137c36124a4a83342414f5545e99bf263678f635537"), looks := true }, kinds := [], alts := [], laidByText := true, laidKinds := [.data, .data, .data, .sentinel, .sentinel, .sentinel, .sentinel, .sentinel, .sentinel, .sentinel, .sentinel, .sentinel, .sentinel, .sentinel, .sentinel, .sentinel, .sentinel], laidTests := true, laidLooks := .later }
def LeadOpensCardSaid : Prop := Claim7.holds Tryz.pinned (.plain (OpenSpec.ofChange leadOpensSpec)) leadOpensCard

/-- THE TIED CARD OF 'liaisonlaw17.LeadDirects'. -/
def leadDirectsCard : Claim7 := { stood := { row := leadDirectsRow, standIns := [], harness := (true, "86c67286e2d999c602c0e137c36124a4a83342414f5545e99bf263678f635537"), looks := true }, kinds := [], alts := [], laidByText := true, laidKinds := [.data, .data, .data, .sentinel, .sentinel, .sentinel, .sentinel, .sentinel, .sentinel, .sentinel, .sentinel, .sentinel, .sentinel, .sentinel, .sentinel, .sentinel, .sentinel], laidTests := true, laidLooks := .later }
def LeadDirectsCardSaid : Prop := Claim7.holds Tryz.pinned (.plain (OpenSpec.ofChange leadDirectsSpec)) leadDirectsCard

/-- THE TIED CARD OF 'liaisonlaw17.LeadOnce'. -/
def leadOnceCard : Claim7 := { stood := { row := leadOnceRow, standIns := [], harness := (true, "86c67286e2d999c602c0e137c36124a4a83342414f5545e99bf263678f635537"), looks := true }, kinds := [], alts := [], laidByText := true, laidKinds := [.data, .data, .data, .sentinel, .sentinel, .sentinel, .sentinel, .sentinel, .sentinel, .sentinel, .sentinel, .sentinel, .sentinel, .sentinel, .sentinel, .sentinel, .sentinel], laidTests := true, laidLooks := .later }
def LeadOnceCardSaid : Prop := Claim7.holds Tryz.pinned (.plain (OpenSpec.ofChange leadOnceSpec)) leadOnceCard

/-- THE TIED CARD OF 'liaisonlaw17.LeadAnswers'. -/
def leadAnswersCard : Claim7 := { stood := { row := leadAnswersRow, standIns := [], harness := (true, "86c67286e2d999c602c0e137c36124a4a83342414f5545e99bf263678f635537"), looks := true }, kinds := [], alts := [], laidByText := true, laidKinds := [.data, .data, .data, .sentinel, .sentinel, .sentinel, .sentinel, .sentinel, .sentinel, .sentinel, .sentinel, .sentinel, .sentinel, .sentinel, .sentinel, .sentinel, .sentinel], laidTests := true, laidLooks := .later }
def LeadAnswersCardSaid : Prop := Claim7.holds Tryz.pinned (.plain (OpenSpec.ofChange leadAnswersSpec)) leadAnswersCard

/-- THE SECOND FORM's CARD OF 'liaisonlaw17.LeadOpens'. -/
def leadOpensUptoCard : Claim7 := { stood := { row := leadOpensUptoRow, standIns := [], harness := (true, "86c67286e2d999c602c0e137c36124a4a83342414f5545e99bf263678f635537"), looks := true }, kinds := [], alts := [], laidByText := true, laidKinds := [.data, .data, .data, .sentinel, .sentinel, .sentinel, .sentinel, .sentinel, .sentinel, .sentinel, .sentinel, .sentinel, .sentinel, .sentinel, .sentinel, .sentinel, .sentinel], laidTests := true, laidLooks := .later }
def LeadOpensUptoCardSaid : Prop := Claim7.holds Tryz.pinned (.plain (OpenSpec.upto leadOpensSpec)) leadOpensUptoCard

/-- THE SECOND FORM's CARD OF 'liaisonlaw17.LeadDirects'. -/
def leadDirectsUptoCard : Claim7 := { stood := { row := leadDirectsUptoRow, standIns := [], harness := (true, "86c67286e2d999c602c0e137c36124a4a83342414f5545e99bf263678f635537"), looks := true }, kinds := [], alts := [], laidByText := true, laidKinds := [.data, .data, .data, .sentinel, .sentinel, .sentinel, .sentinel, .sentinel, .sentinel, .sentinel, .sentinel, .sentinel, .sentinel, .sentinel, .sentinel, .sentinel, .sentinel], laidTests := true, laidLooks := .later }
def LeadDirectsUptoCardSaid : Prop := Claim7.holds Tryz.pinned (.plain (OpenSpec.upto leadDirectsSpec)) leadDirectsUptoCard

/-- THE SECOND FORM's CARD OF 'liaisonlaw17.LeadOnce'. -/
def leadOnceUptoCard : Claim7 := { stood := { row := leadOnceUptoRow, standIns := [], harness := (true, "86c67286e2d999c602c0e137c36124a4a83342414f5545e99bf263678f635537"), looks := true }, kinds := [], alts := [], laidByText := true, laidKinds := [.data, .data, .data, .sentinel, .sentinel, .sentinel, .sentinel, .sentinel, .sentinel, .sentinel, .sentinel, .sentinel, .sentinel, .sentinel, .sentinel, .sentinel, .sentinel], laidTests := true, laidLooks := .later }
def LeadOnceUptoCardSaid : Prop := Claim7.holds Tryz.pinned (.plain (OpenSpec.upto leadOnceSpec)) leadOnceUptoCard

/-- THE SECOND FORM's CARD OF 'liaisonlaw17.LeadAnswers'. -/
def leadAnswersUptoCard : Claim7 := { stood := { row := leadAnswersUptoRow, standIns := [], harness := (true, "86c67286e2d999c602c0e137c36124a4a83342414f5545e99bf263678f635537"), looks := true }, kinds := [], alts := [], laidByText := true, laidKinds := [.data, .data, .data, .sentinel, .sentinel, .sentinel, .sentinel, .sentinel, .sentinel, .sentinel, .sentinel, .sentinel, .sentinel, .sentinel, .sentinel, .sentinel, .sentinel], laidTests := true, laidLooks := .later }
def LeadAnswersUptoCardSaid : Prop := Claim7.holds Tryz.pinned (.plain (OpenSpec.upto leadAnswersSpec)) leadAnswersUptoCard
end Rows
end Go.Proofs.YtlmlmhmhgdjhnaaGreatDoor
