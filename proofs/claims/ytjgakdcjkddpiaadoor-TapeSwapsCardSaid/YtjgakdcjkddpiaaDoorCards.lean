/-
  DERIVED. GIVEN WITH THE SEED: THE CARDS: each row of YtjgakdcjkddpiaaDoorRows.lean that lists a variable, with what it lists TIED to the program's text (the seventh form; the later family's looks); each row that meets fmt, with fmt's text TOLD by the authors' own Lean function (tested against real Go, not proved from fmt's source: count such statements apart). THE CARD IS WHAT COUNTS. Prove the row's statement (the work); the ties are given (YtjgakdcjkddpiaaDoorTie.lean); close each card by the builder's one call (the guide's Derived/Test/ToyasCard.lean, 'card_holds'). Laid BY PROGRAM, IN A SANDBOX (cutbox-door.mjs). By AI agents, Wed Nov 11 2026. No macro, syntax, notation, axiom, sorry.
-/
import Derived.Test.YtjgakdcjkddpiaaDoorRows
import GoSem.ClaimSeven
namespace Go.Proofs.YtjgakdcjkddpiaaDoor
namespace Rows

/-- THE TIED CARD OF 'liaisonlaw06.TapePlays'. -/
def tapePlaysCard : Claim7 := { stood := { row := tapePlaysRow, standIns := [], harness := (true, "5d78ebc9e49b14b5ad66dcfc89602e52f3c16644903c27d93a2089df8ff019be"), looks := true }, kinds := [], alts := [], laidByText := true, laidKinds := [.sentinel, .sentinel, .sentinel, .sentinel, .sentinel, .sentinel, .sentinel, .sentinel, .sentinel, .sentinel, .sentinel, .sentinel, .sentinel, .sentinel], laidTests := true, laidLooks := .later }
def TapePlaysCardSaid : Prop := Claim7.holds Tryd.pinned (.plain (OpenSpec.ofChange tapePlaysSpec)) tapePlaysCard

/-- THE TIED CARD OF 'liaisonlaw06.TapeKeeps'. -/
def tapeKeepsCard : Claim7 := { stood := { row := tapeKeepsRow, standIns := [], harness := (true, "5d78ebc9e49b14b5ad66dcfc89602e52f3c16644903c27d93a2089df8ff019be"), looks := true }, kinds := [], alts := [], laidByText := true, laidKinds := [.sentinel, .sentinel, .sentinel], laidTests := true, laidLooks := .later }
def TapeKeepsCardSaid : Prop := Claim7.holds Tryd.pinned (.plain (OpenSpec.ofChange tapeKeepsSpec)) tapeKeepsCard

/-- THE TIED CARD OF 'liaisonlaw06.TapePower'. -/
def tapePowerCard : Claim7 := { stood := { row := tapePowerRow, standIns := [], harness := (true, "5d78ebc9e49b14b5ad66dcfc89602e52f3c16644903c27d93a2089df8ff019be"), looks := true }, kinds := [], alts := [], laidByText := true, laidKinds := [.sentinel, .sentinel, .sentinel, .sentinel, .sentinel, .sentinel, .sentinel, .sentinel, .sentinel, .sentinel, .sentinel, .sentinel, .sentinel, .sentinel], laidTests := true, laidLooks := .later }
def TapePowerCardSaid : Prop := Claim7.holds Tryd.pinned (.plain (OpenSpec.ofChange tapePowerSpec)) tapePowerCard

/-- THE TIED CARD OF 'liaisonlaw06.TapeSwaps'. -/
def tapeSwapsCard : Claim7 := { stood := { row := tapeSwapsRow, standIns := [], harness := (true, "5d78ebc9e49b14b5ad66dcfc89602e52f3c16644903c27d93a2089df8ff019be"), looks := true }, kinds := [], alts := [], laidByText := true, laidKinds := [.sentinel, .sentinel, .sentinel], laidTests := true, laidLooks := .later }
def TapeSwapsCardSaid : Prop := Claim7.holds Tryd.pinned (.plain (OpenSpec.ofChange tapeSwapsSpec)) tapeSwapsCard

/-- THE SECOND FORM's CARD OF 'liaisonlaw06.TapePlays'. -/
def tapePlaysUptoCard : Claim7 := { stood := { row := tapePlaysUptoRow, standIns := [], harness := (true, "5d78ebc9e49b14b5ad66dcfc89602e52f3c16644903c27d93a2089df8ff019be"), looks := true }, kinds := [], alts := [], laidByText := true, laidKinds := [.sentinel, .sentinel, .sentinel, .sentinel, .sentinel, .sentinel, .sentinel, .sentinel, .sentinel, .sentinel, .sentinel, .sentinel, .sentinel, .sentinel], laidTests := true, laidLooks := .later }
def TapePlaysUptoCardSaid : Prop := Claim7.holds Tryd.pinned (.plain (OpenSpec.upto tapePlaysSpec)) tapePlaysUptoCard

/-- THE SECOND FORM's CARD OF 'liaisonlaw06.TapeKeeps'. -/
def tapeKeepsUptoCard : Claim7 := { stood := { row := tapeKeepsUptoRow, standIns := [], harness := (true, "5d78ebc9e49b14b5ad66dcfc89602e52f3c16644903c27d93a2089df8ff019be"), looks := true }, kinds := [], alts := [], laidByText := true, laidKinds := [.sentinel, .sentinel, .sentinel], laidTests := true, laidLooks := .later }
def TapeKeepsUptoCardSaid : Prop := Claim7.holds Tryd.pinned (.plain (OpenSpec.upto tapeKeepsSpec)) tapeKeepsUptoCard

/-- THE SECOND FORM's CARD OF 'liaisonlaw06.TapePower'. -/
def tapePowerUptoCard : Claim7 := { stood := { row := tapePowerUptoRow, standIns := [], harness := (true, "5d78ebc9e49b14b5ad66dcfc89602e52f3c16644903c27d93a2089df8ff019be"), looks := true }, kinds := [], alts := [], laidByText := true, laidKinds := [.sentinel, .sentinel, .sentinel, .sentinel, .sentinel, .sentinel, .sentinel, .sentinel, .sentinel, .sentinel, .sentinel, .sentinel, .sentinel, .sentinel], laidTests := true, laidLooks := .later }
def TapePowerUptoCardSaid : Prop := Claim7.holds Tryd.pinned (.plain (OpenSpec.upto tapePowerSpec)) tapePowerUptoCard

/-- THE SECOND FORM's CARD OF 'liaisonlaw06.TapeSwaps'. -/
def tapeSwapsUptoCard : Claim7 := { stood := { row := tapeSwapsUptoRow, standIns := [], harness := (true, "5d78ebc9e49b14b5ad66dcfc89602e52f3c16644903c27d93a2089df8ff019be"), looks := true }, kinds := [], alts := [], laidByText := true, laidKinds := [.sentinel, .sentinel, .sentinel], laidTests := true, laidLooks := .later }
def TapeSwapsUptoCardSaid : Prop := Claim7.holds Tryd.pinned (.plain (OpenSpec.upto tapeSwapsSpec)) tapeSwapsUptoCard
end Rows
end Go.Proofs.YtjgakdcjkddpiaaDoor
