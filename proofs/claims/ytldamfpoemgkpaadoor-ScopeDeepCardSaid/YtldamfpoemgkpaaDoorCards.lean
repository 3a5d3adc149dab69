/-
  DERIVED. GIVEN WITH THE SEED: THE CARDS: each row of YtldamfpoemgkpaaDoorRows.lean that lists a variable, with what it lists TIED to the program's text (the seventh form; the later family's looks); each row that meets fmt, with fmt's text TOLD by the authors' own Lean function (tested against real Go, not proved from fmt's source: count such statements apart). THE CARD IS WHAT COUNTS. Prove the row's statement (the work); the ties are given (YtldamfpoemgkpaaDoorTie.lean); close each card by the builder's one call (the guide's Derived/Test/ToyasCard.lean, 'card_holds'). Laid BY PROGRAM, IN A SANDBOX (cutbox-door.mjs). By AI agents, Wed Nov 11 2026. No macro, syntax, notation, axiom, sorry.
-/
import Derived.Test.YtldamfpoemgkpaaDoorRows
import GoSem.ClaimSeven
namespace Go.Proofs.YtldamfpoemgkpaaDoor
namespace Rows

/-- THE TIED CARD OF 'liaisonlaw09.ScopeNews'. -/
def scopeNewsCard : Claim7 := { stood := { row := scopeNewsRow, standIns := [], harness := (true, "09429c8e56de195b9542919a5f0c779b5f648c445930e5cade352c5abf89c1fa"), looks := true }, kinds := [], alts := [], laidByText := true, laidKinds := [.data, .data, .data, .sentinel, .sentinel, .sentinel, .sentinel, .sentinel, .sentinel, .sentinel, .sentinel, .sentinel, .sentinel, .sentinel, .sentinel, .sentinel, .sentinel], laidTests := true, laidLooks := .later }
def ScopeNewsCardSaid : Prop := Claim7.holds Tryd.pinned (.plain (OpenSpec.ofChange scopeNewsSpec)) scopeNewsCard

/-- THE TIED CARD OF 'liaisonlaw09.ScopeChildren'. -/
def scopeChildrenCard : Claim7 := { stood := { row := scopeChildrenRow, standIns := [], harness := (true, "09429c8e56de195b9542919a5f0c779b5f648c445930e5cade352c5abf89c1fa"), looks := true }, kinds := [], alts := [], laidByText := true, laidKinds := [.data, .data, .data, .sentinel, .sentinel, .sentinel, .sentinel, .sentinel, .sentinel, .sentinel, .sentinel, .sentinel, .sentinel, .sentinel, .sentinel, .sentinel, .sentinel], laidTests := true, laidLooks := .later }
def ScopeChildrenCardSaid : Prop := Claim7.holds Tryd.pinned (.plain (OpenSpec.ofChange scopeChildrenSpec)) scopeChildrenCard

/-- THE TIED CARD OF 'liaisonlaw09.ScopeDeep'. -/
def scopeDeepCard : Claim7 := { stood := { row := scopeDeepRow, standIns := [], harness := (true, "09429c8e56de195b9542919a5f0c779b5f648c445930e5cade352c5abf89c1fa"), looks := true }, kinds := [], alts := [], laidByText := true, laidKinds := [.data, .data, .data, .sentinel, .sentinel, .sentinel, .sentinel, .sentinel, .sentinel, .sentinel, .sentinel, .sentinel, .sentinel, .sentinel, .sentinel, .sentinel, .sentinel], laidTests := true, laidLooks := .later }
def ScopeDeepCardSaid : Prop := Claim7.holds Tryd.pinned (.plain (OpenSpec.ofChange scopeDeepSpec)) scopeDeepCard

/-- THE TIED CARD OF 'liaisonlaw09.ScopeOnce'. -/
def scopeOnceCard : Claim7 := { stood := { row := scopeOnceRow, standIns := [], harness := (true, "09429c8e56de195b9542919a5f0c779b5f648c445930e5cade352c5abf89c1fa"), looks := true }, kinds := [], alts := [], laidByText := true, laidKinds := [.data, .data, .data, .sentinel, .sentinel, .sentinel, .sentinel, .sentinel, .sentinel, .sentinel, .sentinel, .sentinel, .sentinel, .sentinel, .sentinel, .sentinel, .sentinel], laidTests := true, laidLooks := .later }
def ScopeOnceCardSaid : Prop := Claim7.holds Tryd.pinned (.plain (OpenSpec.ofChange scopeOnceSpec)) scopeOnceCard

/-- THE SECOND FORM's CARD OF 'liaisonlaw09.ScopeNews'. -/
def scopeNewsUptoCard : Claim7 := { stood := { row := scopeNewsUptoRow, standIns := [], harness := (true, "09429c8e56de195b9542919a5f0c779b5f648c445930e5cade352c5abf89c1fa"), looks := true }, kinds := [], alts := [], laidByText := true, laidKinds := [.data, .data, .data, .sentinel, .sentinel, .sentinel, .sentinel, .sentinel, .sentinel, .sentinel, .sentinel, .sentinel, .sentinel, .sentinel, .sentinel, .sentinel, .sentinel], laidTests := true, laidLooks := .later }
def ScopeNewsUptoCardSaid : Prop := Claim7.holds Tryd.pinned (.plain (OpenSpec.upto scopeNewsSpec)) scopeNewsUptoCard

/-- THE SECOND FORM's CARD OF 'liaisonlaw09.ScopeChildren'. -/
def scopeChildrenUptoCard : Claim7 := { stood := { row := scopeChildrenUptoRow, standIns := [], harness := (true, "09429c8e56de195b9542919a5f0c779b5f648c445930e5cade352c5abf89c1fa"), looks := true }, kinds := [], alts := [], laidByText := true, laidKinds := [.data, .data, .data, .sentinel, .sentinel, .sentinel, .sentinel, .sentinel, .sentinel, .sentinel, .sentinel, .sentinel, .sentinel, .sentinel, .sentinel, .sentinel, .sentinel], laidTests := true, laidLooks := .later }
def ScopeChildrenUptoCardSaid : Prop := Claim7.holds Tryd.pinned (.plain (OpenSpec.upto scopeChildrenSpec)) scopeChildrenUptoCard

/-- THE SECOND FORM's CARD OF 'liaisonlaw09.ScopeDeep'. -/
def scopeDeepUptoCard : Claim7 := { stood := { row := scopeDeepUptoRow, standIns := [], harness := (true, "09429c8e56de195b9542919a5f0c779b5f648c445930e5cade352c5abf89c1fa"), looks := true }, kinds := [], alts := [], laidByText := true, laidKinds := [.data, .data, .data, .sentinel, .sentinel, .sentinel, .sentinel, .sentinel, .sentinel, .sentinel, .sentinel, .sentinel, .sentinel, .sentinel, .sentinel, .sentinel, .sentinel], laidTests := true, laidLooks := .later }
def ScopeDeepUptoCardSaid : Prop := Claim7.holds Tryd.pinned (.plain (OpenSpec.upto scopeDeepSpec)) scopeDeepUptoCard

/-- THE SECOND FORM's CARD OF 'liaisonlaw09.ScopeOnce'. -/
def scopeOnceUptoCard : Claim7 := { stood := { row := scopeOnceUptoRow, standIns := [], harness := (true, "09429c8e56de195b9542919a5f0c779b5f648c445930e5cade352c5abf89c1fa"), looks := true }, kinds := [], alts := [], laidByText := true, laidKinds := [.data, .data, .data, .sentinel, .sentinel, .sentinel, .sentinel, .sentinel, .sentinel, .sentinel, .sentinel, .sentinel, .sentinel, .sentinel, .sentinel, .sentinel, .sentinel], laidTests := true, laidLooks := .later }
def ScopeOnceUptoCardSaid : Prop := Claim7.holds Tryd.pinned (.plain (OpenSpec.upto scopeOnceSpec)) scopeOnceUptoCard
end Rows
end Go.Proofs.YtldamfpoemgkpaaDoor
