/-
  DERIVED. GIVEN WITH THE SEED: THE CARDS: each row of YtldamfpoemgkpaaGreatDoorRows.lean that lists a variable, with what it lists TIED to the program's text (the seventh form; the later family's looks); each row that meets fmt, with fmt's text TOLD by the authors' own Lean function (tested against real Go, not proved from fmt's source: count such statements apart). THE CARD IS WHAT COUNTS. Prove the row's statement (the work); the ties are given (YtldamfpoemgkpaaGreatDoorTie.lean); close each card by the builder's one call (the guide's Derived/Test/ToyasCard.lean, 'card_holds'). Laid BY PROGRAM, IN A SANDBOX (cutbox-door.mjs). By AI agents, Wed Nov 11 2026. No macro, syntax, notation, axiom, sorry.
-/
import Derived.Test.YtldamfpoemgkpaaGreatDoorRows
import GoSem.ClaimSeven
namespace Go.Proofs.YtldamfpoemgkpaaGreatDoor
namespace Rows

/-- THE TIED CARD OF 'liaisonlaw09.ScopeBytes'. -/
def scopeBytesCard : Claim7 := { stood := { row := scopeBytesRow, standIns := [], harness := (true, "9b66a6932da26cfec537dd36c306e65b8fa4af7c90069c85bbf89f7168d7407d"), looks := true }, kinds := [], alts := [], laidByText := true, laidKinds := [.data, .data, .data, .sentinel, .sentinel, .sentinel, .sentinel, .sentinel, .sentinel, .sentinel, .sentinel, .sentinel, .sentinel, .sentinel, .sentinel, .sentinel, .sentinel], laidTests := true, laidLooks := .later }
def ScopeBytesCardSaid : Prop := Claim7.holds Tryz.pinned (.plain (OpenSpec.ofChange scopeBytesSpec)) scopeBytesCard

/-- THE SECOND FORM's CARD OF 'liaisonlaw09.ScopeBytes'. -/
def scopeBytesUptoCard : Claim7 := { stood := { row := scopeBytesUptoRow, standIns := [], harness := (true, "9b66a6932da26cfec537dd36c306e65b8fa4af7c90069c85bbf89f7168d7407d"), looks := true }, kinds := [], alts := [], laidByText := true, laidKinds := [.data, .data, .data, .sentinel, .sentinel, .sentinel, .sentinel, .sentinel, .sentinel, .sentinel, .sentinel, .sentinel, .sentinel, .sentinel, .sentinel, .sentinel, .sentinel], laidTests := true, laidLooks := .later }
def ScopeBytesUptoCardSaid : Prop := Claim7.holds Tryz.pinned (.plain (OpenSpec.upto scopeBytesSpec)) scopeBytesUptoCard
end Rows
end Go.Proofs.YtldamfpoemgkpaaGreatDoor
