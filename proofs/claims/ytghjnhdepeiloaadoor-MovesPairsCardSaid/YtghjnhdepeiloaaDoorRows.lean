/-
  NARROWER THAN 'FOR EVERY INPUT', by the rows' own cells (each row's printed sentence says how): MovesSeats: laid · MovesPairs: laid · MovesSafe: laid · MovesWork: laid · MovesEnd: laid · MovesNew: laid.
  DERIVED. THE GIVEN ROWS OF THIS SEAT. 6 by the template 'for every input the law returns true; each argument reads behind the call as it read before'; 0 by the template 'total and deterministic' (their statements: YtghjnhdepeiloaaDoorTotals.lean).
  GIVEN WITH THE SEED: the statements are not yours to turn. If you find one false, say at which input.
  Laid BY PROGRAM, IN A SANDBOX (cutbox-rows.mjs): the forced cells as the released guide's own fill.sh prints them over the translation 0b4fbf255a7b32a6… (all of the seat's roots in one cut). By AI agents, Wed Nov 11 2026. No macro, syntax, notation, axiom, sorry.
-/
import Derived.Test.YtghjnhdepeiloaaDoorChecked
import GoSem.Claim
import GoSem.ClaimJoined
import GoSem.ClaimMapViews
import Derived.JoinedTies
import Derived.KernelRfl
namespace Go.Proofs.YtghjnhdepeiloaaDoor
/- THE CELL 'sum', in the pinned program and in every row, IS THE sha256 OF THE DUMP (.gsa) THAT YtghjnhdepeiloaaDoorProg.lean LOADS. Nothing in Lean hashes anything: it is a label: what it is worth is what the hold of that sum in a sandbox is worth. -/
noncomputable def Tryd.pinned : Pinned := { name := "ytghjnhdepeiloaadoor", sum := "0b4fbf255a7b32a656611292258a3a2443b070d6a247c84e7bc32f6c551d2e24", checked := Tryd.checked }
namespace Rows
def none {H : Type} : Left H := { results := [], args := [] }

/- WHAT THE LISTED PACKAGE-LEVEL VARIABLES READ AS WHEN THE CALL BEGINS. Each datum BY PROGRAM (the guide's laid-datum.mjs) off the statement by which the dump's own 'gosem.cut.vars' lays the variable. In a bare row this is a premise. The card (YtghjnhdepeiloaaDoorCards.lean) ties it to the program's text. -/
def laid_liaison_api_ErrRange {H : Type} : DataW H := .iface "*errors.errorString" (.ptr (.agg [.lit (.string [108, 105, 97, 105, 115, 111, 110, 58, 32, 114, 97, 110, 103, 101])]))
def laid_liaison_api_ErrShort {H : Type} : DataW H := .iface "*errors.errorString" (.ptr (.agg [.lit (.string [108, 105, 97, 105, 115, 111, 110, 58, 32, 115, 104, 111, 114, 116])]))
def laid_liaison_api_ErrLong {H : Type} : DataW H := .iface "*errors.errorString" (.ptr (.agg [.lit (.string [108, 105, 97, 105, 115, 111, 110, 58, 32, 108, 111, 110, 103])]))
def laid_liaison_api_ErrForm {H : Type} : DataW H := .iface "*errors.errorString" (.ptr (.agg [.lit (.string [108, 105, 97, 105, 115, 111, 110, 58, 32, 102, 111, 114, 109])]))
def laid_liaison_api_ErrCheck {H : Type} : DataW H := .iface "*errors.errorString" (.ptr (.agg [.lit (.string [108, 105, 97, 105, 115, 111, 110, 58, 32, 99, 104, 101, 99, 107])]))
def laid_liaison_api_ErrFull {H : Type} : DataW H := .iface "*errors.errorString" (.ptr (.agg [.lit (.string [108, 105, 97, 105, 115, 111, 110, 58, 32, 102, 117, 108, 108])]))
def laid_liaison_api_ErrPower {H : Type} : DataW H := .iface "*errors.errorString" (.ptr (.agg [.lit (.string [108, 105, 97, 105, 115, 111, 110, 58, 32, 112, 111, 119, 101, 114])]))
def laid_liaison_api_ErrNone {H : Type} : DataW H := .iface "*errors.errorString" (.ptr (.agg [.lit (.string [108, 105, 97, 105, 115, 111, 110, 58, 32, 110, 111, 110, 101])]))
def laid_liaison_api_ErrState {H : Type} : DataW H := .iface "*errors.errorString" (.ptr (.agg [.lit (.string [108, 105, 97, 105, 115, 111, 110, 58, 32, 115, 116, 97, 116, 101])]))
def laid_liaison_api_ErrTwice {H : Type} : DataW H := .iface "*errors.errorString" (.ptr (.agg [.lit (.string [108, 105, 97, 105, 115, 111, 110, 58, 32, 116, 119, 105, 99, 101])]))
def laid_liaison_api_ErrDepth {H : Type} : DataW H := .iface "*errors.errorString" (.ptr (.agg [.lit (.string [108, 105, 97, 105, 115, 111, 110, 58, 32, 100, 101, 112, 116, 104])]))
def laid_liaison_api_ErrExpired {H : Type} : DataW H := .iface "*errors.errorString" (.ptr (.agg [.lit (.string [108, 105, 97, 105, 115, 111, 110, 58, 32, 101, 120, 112, 105, 114, 101, 100])]))
def laid_liaison_api_ErrPanic {H : Type} : DataW H := .iface "*errors.errorString" (.ptr (.agg [.lit (.string [108, 105, 97, 105, 115, 111, 110, 58, 32, 112, 97, 110, 105, 99])]))
def laid_liaison_api_ErrProtocol {H : Type} : DataW H := .iface "*errors.errorString" (.ptr (.agg [.lit (.string [108, 105, 97, 105, 115, 111, 110, 58, 32, 112, 114, 111, 116, 111, 99, 111, 108])]))

/-- 'liaisonlaw11.MovesSeats': WHATEVER THE INPUT: true; the input reads as it did. -/
def movesSeatsSpec : ChangeSpec := { name := "movesSeats", fn := fun _ => fun
  | [d1, d2] => { results := [.lit (.bool true)], args := [d1, d2] }
  | _ => none }
def movesSeatsRow : OpenClaim := { program := "ytghjnhdepeiloaadoor", sum := "0b4fbf255a7b32a656611292258a3a2443b070d6a247c84e7bc32f6c551d2e24", func := "liaison/liaisonlaw11.MovesSeats", spec := "movesSeats", inPlace := ["internal/reflectlite.TypeOf"], unfollowed := true, recurses := true, named := ["liaison/api.ErrProtocol", "liaison/api.ErrRange", "liaison/api.ErrFull", "liaison/api.ErrForm", "liaison/api.ErrState", "liaison/api.ErrShort", "liaison/api.ErrLong", "liaison/api.ErrCheck", "liaison/api.ErrPower", "liaison/api.ErrNone", "liaison/api.ErrTwice", "liaison/api.ErrDepth", "liaison/api.ErrExpired", "liaison/api.ErrPanic"], apart := false, laid := [("liaison/api.ErrRange", laid_liaison_api_ErrRange), ("liaison/api.ErrShort", laid_liaison_api_ErrShort), ("liaison/api.ErrLong", laid_liaison_api_ErrLong), ("liaison/api.ErrForm", laid_liaison_api_ErrForm), ("liaison/api.ErrCheck", laid_liaison_api_ErrCheck), ("liaison/api.ErrFull", laid_liaison_api_ErrFull), ("liaison/api.ErrPower", laid_liaison_api_ErrPower), ("liaison/api.ErrNone", laid_liaison_api_ErrNone), ("liaison/api.ErrState", laid_liaison_api_ErrState), ("liaison/api.ErrTwice", laid_liaison_api_ErrTwice), ("liaison/api.ErrDepth", laid_liaison_api_ErrDepth), ("liaison/api.ErrExpired", laid_liaison_api_ErrExpired), ("liaison/api.ErrPanic", laid_liaison_api_ErrPanic), ("liaison/api.ErrProtocol", laid_liaison_api_ErrProtocol)] }
def MovesSeatsSaid : Prop := movesSeatsRow.holds Tryd.pinned (OpenSpec.ofChange movesSeatsSpec)

/-- ITS FALSE NEIGHBOUR: 'it returns false'. Refute it at one input. -/
def movesSeatsWrong : ChangeSpec := { name := "movesSeats", fn := fun _ => fun
  | [d1, d2] => { results := [.lit (.bool false)], args := [d1, d2] }
  | _ => none }
def MovesSeatsWrongFalsely : Prop := movesSeatsRow.holds Tryd.pinned (OpenSpec.ofChange movesSeatsWrong)

/-- 'liaisonlaw11.MovesPairs': WHATEVER THE INPUT: true; the input reads as it did. -/
def movesPairsSpec : ChangeSpec := { name := "movesPairs", fn := fun _ => fun
  | [d1, d2] => { results := [.lit (.bool true)], args := [d1, d2] }
  | _ => none }
def movesPairsRow : OpenClaim := { program := "ytghjnhdepeiloaadoor", sum := "0b4fbf255a7b32a656611292258a3a2443b070d6a247c84e7bc32f6c551d2e24", func := "liaison/liaisonlaw11.MovesPairs", spec := "movesPairs", inPlace := ["internal/reflectlite.TypeOf"], unfollowed := true, recurses := true, named := ["liaison/api.ErrProtocol", "liaison/api.ErrRange", "liaison/api.ErrFull", "liaison/api.ErrForm", "liaison/api.ErrState", "liaison/api.ErrShort", "liaison/api.ErrLong", "liaison/api.ErrCheck", "liaison/api.ErrPower", "liaison/api.ErrNone", "liaison/api.ErrTwice", "liaison/api.ErrDepth", "liaison/api.ErrExpired", "liaison/api.ErrPanic"], apart := false, laid := [("liaison/api.ErrRange", laid_liaison_api_ErrRange), ("liaison/api.ErrShort", laid_liaison_api_ErrShort), ("liaison/api.ErrLong", laid_liaison_api_ErrLong), ("liaison/api.ErrForm", laid_liaison_api_ErrForm), ("liaison/api.ErrCheck", laid_liaison_api_ErrCheck), ("liaison/api.ErrFull", laid_liaison_api_ErrFull), ("liaison/api.ErrPower", laid_liaison_api_ErrPower), ("liaison/api.ErrNone", laid_liaison_api_ErrNone), ("liaison/api.ErrState", laid_liaison_api_ErrState), ("liaison/api.ErrTwice", laid_liaison_api_ErrTwice), ("liaison/api.ErrDepth", laid_liaison_api_ErrDepth), ("liaison/api.ErrExpired", laid_liaison_api_ErrExpired), ("liaison/api.ErrPanic", laid_liaison_api_ErrPanic), ("liaison/api.ErrProtocol", laid_liaison_api_ErrProtocol)] }
def MovesPairsSaid : Prop := movesPairsRow.holds Tryd.pinned (OpenSpec.ofChange movesPairsSpec)

/-- ITS FALSE NEIGHBOUR: 'it returns false'. Refute it at one input. -/
def movesPairsWrong : ChangeSpec := { name := "movesPairs", fn := fun _ => fun
  | [d1, d2] => { results := [.lit (.bool false)], args := [d1, d2] }
  | _ => none }
def MovesPairsWrongFalsely : Prop := movesPairsRow.holds Tryd.pinned (OpenSpec.ofChange movesPairsWrong)

/-- 'liaisonlaw11.MovesSafe': WHATEVER THE INPUT: true; the input reads as it did. -/
def movesSafeSpec : ChangeSpec := { name := "movesSafe", fn := fun _ => fun
  | [d1, d2] => { results := [.lit (.bool true)], args := [d1, d2] }
  | _ => none }
def movesSafeRow : OpenClaim := { program := "ytghjnhdepeiloaadoor", sum := "0b4fbf255a7b32a656611292258a3a2443b070d6a247c84e7bc32f6c551d2e24", func := "liaison/liaisonlaw11.MovesSafe", spec := "movesSafe", named := ["liaison/api.ErrProtocol", "liaison/api.ErrRange", "liaison/api.ErrFull", "liaison/api.ErrForm", "liaison/api.ErrState"], apart := false, laid := [("liaison/api.ErrRange", laid_liaison_api_ErrRange), ("liaison/api.ErrForm", laid_liaison_api_ErrForm), ("liaison/api.ErrFull", laid_liaison_api_ErrFull), ("liaison/api.ErrState", laid_liaison_api_ErrState), ("liaison/api.ErrProtocol", laid_liaison_api_ErrProtocol)] }
def MovesSafeSaid : Prop := movesSafeRow.holds Tryd.pinned (OpenSpec.ofChange movesSafeSpec)

/-- ITS FALSE NEIGHBOUR: 'it returns false'. Refute it at one input. -/
def movesSafeWrong : ChangeSpec := { name := "movesSafe", fn := fun _ => fun
  | [d1, d2] => { results := [.lit (.bool false)], args := [d1, d2] }
  | _ => none }
def MovesSafeWrongFalsely : Prop := movesSafeRow.holds Tryd.pinned (OpenSpec.ofChange movesSafeWrong)

/-- 'liaisonlaw11.MovesWork': WHATEVER THE INPUT: true; the input reads as it did. -/
def movesWorkSpec : ChangeSpec := { name := "movesWork", fn := fun _ => fun
  | [d1, d2] => { results := [.lit (.bool true)], args := [d1, d2] }
  | _ => none }
def movesWorkRow : OpenClaim := { program := "ytghjnhdepeiloaadoor", sum := "0b4fbf255a7b32a656611292258a3a2443b070d6a247c84e7bc32f6c551d2e24", func := "liaison/liaisonlaw11.MovesWork", spec := "movesWork", named := ["liaison/api.ErrProtocol", "liaison/api.ErrRange", "liaison/api.ErrFull", "liaison/api.ErrForm", "liaison/api.ErrState"], apart := false, laid := [("liaison/api.ErrRange", laid_liaison_api_ErrRange), ("liaison/api.ErrForm", laid_liaison_api_ErrForm), ("liaison/api.ErrFull", laid_liaison_api_ErrFull), ("liaison/api.ErrState", laid_liaison_api_ErrState), ("liaison/api.ErrProtocol", laid_liaison_api_ErrProtocol)] }
def MovesWorkSaid : Prop := movesWorkRow.holds Tryd.pinned (OpenSpec.ofChange movesWorkSpec)

/-- ITS FALSE NEIGHBOUR: 'it returns false'. Refute it at one input. -/
def movesWorkWrong : ChangeSpec := { name := "movesWork", fn := fun _ => fun
  | [d1, d2] => { results := [.lit (.bool false)], args := [d1, d2] }
  | _ => none }
def MovesWorkWrongFalsely : Prop := movesWorkRow.holds Tryd.pinned (OpenSpec.ofChange movesWorkWrong)

/-- 'liaisonlaw11.MovesEnd': WHATEVER THE INPUT: true; the input reads as it did. -/
def movesEndSpec : ChangeSpec := { name := "movesEnd", fn := fun _ => fun
  | [d1, d2, d3] => { results := [.lit (.bool true)], args := [d1, d2, d3] }
  | _ => none }
def movesEndRow : OpenClaim := { program := "ytghjnhdepeiloaadoor", sum := "0b4fbf255a7b32a656611292258a3a2443b070d6a247c84e7bc32f6c551d2e24", func := "liaison/liaisonlaw11.MovesEnd", spec := "movesEnd", named := ["liaison/api.ErrProtocol", "liaison/api.ErrRange", "liaison/api.ErrFull", "liaison/api.ErrForm", "liaison/api.ErrState"], apart := false, laid := [("liaison/api.ErrRange", laid_liaison_api_ErrRange), ("liaison/api.ErrForm", laid_liaison_api_ErrForm), ("liaison/api.ErrFull", laid_liaison_api_ErrFull), ("liaison/api.ErrState", laid_liaison_api_ErrState), ("liaison/api.ErrProtocol", laid_liaison_api_ErrProtocol)] }
def MovesEndSaid : Prop := movesEndRow.holds Tryd.pinned (OpenSpec.ofChange movesEndSpec)

/-- ITS FALSE NEIGHBOUR: 'it returns false'. Refute it at one input. -/
def movesEndWrong : ChangeSpec := { name := "movesEnd", fn := fun _ => fun
  | [d1, d2, d3] => { results := [.lit (.bool false)], args := [d1, d2, d3] }
  | _ => none }
def MovesEndWrongFalsely : Prop := movesEndRow.holds Tryd.pinned (OpenSpec.ofChange movesEndWrong)

/-- 'liaisonlaw11.MovesNew': WHATEVER THE INPUT: true; the input reads as it did. -/
def movesNewSpec : ChangeSpec := { name := "movesNew", fn := fun _ => fun
  | [d1, d2, d3] => { results := [.lit (.bool true)], args := [d1, d2, d3] }
  | _ => none }
def movesNewRow : OpenClaim := { program := "ytghjnhdepeiloaadoor", sum := "0b4fbf255a7b32a656611292258a3a2443b070d6a247c84e7bc32f6c551d2e24", func := "liaison/liaisonlaw11.MovesNew", spec := "movesNew", inPlace := ["internal/reflectlite.TypeOf"], unfollowed := true, recurses := true, named := ["liaison/api.ErrProtocol", "liaison/api.ErrRange", "liaison/api.ErrFull", "liaison/api.ErrForm", "liaison/api.ErrState", "liaison/api.ErrShort", "liaison/api.ErrLong", "liaison/api.ErrCheck", "liaison/api.ErrPower", "liaison/api.ErrNone", "liaison/api.ErrTwice", "liaison/api.ErrDepth", "liaison/api.ErrExpired", "liaison/api.ErrPanic"], apart := false, laid := [("liaison/api.ErrRange", laid_liaison_api_ErrRange), ("liaison/api.ErrShort", laid_liaison_api_ErrShort), ("liaison/api.ErrLong", laid_liaison_api_ErrLong), ("liaison/api.ErrForm", laid_liaison_api_ErrForm), ("liaison/api.ErrCheck", laid_liaison_api_ErrCheck), ("liaison/api.ErrFull", laid_liaison_api_ErrFull), ("liaison/api.ErrPower", laid_liaison_api_ErrPower), ("liaison/api.ErrNone", laid_liaison_api_ErrNone), ("liaison/api.ErrState", laid_liaison_api_ErrState), ("liaison/api.ErrTwice", laid_liaison_api_ErrTwice), ("liaison/api.ErrDepth", laid_liaison_api_ErrDepth), ("liaison/api.ErrExpired", laid_liaison_api_ErrExpired), ("liaison/api.ErrPanic", laid_liaison_api_ErrPanic), ("liaison/api.ErrProtocol", laid_liaison_api_ErrProtocol)] }
def MovesNewSaid : Prop := movesNewRow.holds Tryd.pinned (OpenSpec.ofChange movesNewSpec)

/-- ITS FALSE NEIGHBOUR: 'it returns false'. Refute it at one input. -/
def movesNewWrong : ChangeSpec := { name := "movesNew", fn := fun _ => fun
  | [d1, d2, d3] => { results := [.lit (.bool false)], args := [d1, d2, d3] }
  | _ => none }
def MovesNewWrongFalsely : Prop := movesNewRow.holds Tryd.pinned (OpenSpec.ofChange movesNewWrong)

/- THE SECOND FORM. 'bulk': how many values and letters a reading holds, each counted each time it is reached (what is shared counts as often as it is met; a slice's spare places count too). A statement '..UptoSaid' is the law's where the arguments, and the package variables that the reading takes, are together of bulk at most 1048576: NARROWER than '..Said'. Prove '..Said' where nothing that the law and all that it calls make is longer than what came in: it says more and counts as full. Else prove '..UptoSaid'. A law counts once. -/
mutual
def uptoBulk {H : Type} : DataW H → Nat
  | .lit (.string bytes) => bytes.length + 1
  | .lit _ => 1
  | .nil => 1
  | .ptr d => uptoBulk d + 1
  | .slice elems spare => uptoBulkAll elems + uptoBulkAll spare + 1
  | .agg parts => uptoBulkAll parts + 1
  | .iface _ d => uptoBulk d + 1
  | .map entries => uptoBulkEntries entries + 1
  | .held _ => 1
def uptoBulkAll {H : Type} : List (DataW H) → Nat
  | [] => 0
  | d :: r => uptoBulk d + uptoBulkAll r
def uptoBulkEntries {H : Type} : List (Lit × DataW H) → Nat
  | [] => 0
  | x :: r => uptoBulkEntry x + uptoBulkEntries r
def uptoBulkEntry {H : Type} : Lit × DataW H → Nat
  | (.string bytes, d) => bytes.length + uptoBulk d + 1
  | (_, d) => uptoBulk d + 1
 end
def uptoSmall : (H : Type) → List (DataW H) → Bool := fun _ ds => decide (uptoBulkAll ds ≤ 1048576)
def OpenSpec.upto (s : _root_.Go.ChangeSpec) : _root_.Go.OpenSpec := { _root_.Go.OpenSpec.ofChange s with cond := some uptoSmall }

/-- 'liaisonlaw11.MovesSeats', WHERE WHAT IT READS IS OF BULK AT MOST 1048576: true; the input reads as it did. -/
def movesSeatsUptoRow : OpenClaim := { program := "ytghjnhdepeiloaadoor", sum := "0b4fbf255a7b32a656611292258a3a2443b070d6a247c84e7bc32f6c551d2e24", func := "liaison/liaisonlaw11.MovesSeats", spec := "movesSeats", inPlace := ["internal/reflectlite.TypeOf"], unfollowed := true, recurses := true, named := ["liaison/api.ErrProtocol", "liaison/api.ErrRange", "liaison/api.ErrFull", "liaison/api.ErrForm", "liaison/api.ErrState", "liaison/api.ErrShort", "liaison/api.ErrLong", "liaison/api.ErrCheck", "liaison/api.ErrPower", "liaison/api.ErrNone", "liaison/api.ErrTwice", "liaison/api.ErrDepth", "liaison/api.ErrExpired", "liaison/api.ErrPanic"], apart := false, laid := [("liaison/api.ErrRange", laid_liaison_api_ErrRange), ("liaison/api.ErrShort", laid_liaison_api_ErrShort), ("liaison/api.ErrLong", laid_liaison_api_ErrLong), ("liaison/api.ErrForm", laid_liaison_api_ErrForm), ("liaison/api.ErrCheck", laid_liaison_api_ErrCheck), ("liaison/api.ErrFull", laid_liaison_api_ErrFull), ("liaison/api.ErrPower", laid_liaison_api_ErrPower), ("liaison/api.ErrNone", laid_liaison_api_ErrNone), ("liaison/api.ErrState", laid_liaison_api_ErrState), ("liaison/api.ErrTwice", laid_liaison_api_ErrTwice), ("liaison/api.ErrDepth", laid_liaison_api_ErrDepth), ("liaison/api.ErrExpired", laid_liaison_api_ErrExpired), ("liaison/api.ErrPanic", laid_liaison_api_ErrPanic), ("liaison/api.ErrProtocol", laid_liaison_api_ErrProtocol)], narrowed := true }
def MovesSeatsUptoSaid : Prop := movesSeatsUptoRow.holds Tryd.pinned (OpenSpec.upto movesSeatsSpec)

/-- 'liaisonlaw11.MovesPairs', WHERE WHAT IT READS IS OF BULK AT MOST 1048576: true; the input reads as it did. -/
def movesPairsUptoRow : OpenClaim := { program := "ytghjnhdepeiloaadoor", sum := "0b4fbf255a7b32a656611292258a3a2443b070d6a247c84e7bc32f6c551d2e24", func := "liaison/liaisonlaw11.MovesPairs", spec := "movesPairs", inPlace := ["internal/reflectlite.TypeOf"], unfollowed := true, recurses := true, named := ["liaison/api.ErrProtocol", "liaison/api.ErrRange", "liaison/api.ErrFull", "liaison/api.ErrForm", "liaison/api.ErrState", "liaison/api.ErrShort", "liaison/api.ErrLong", "liaison/api.ErrCheck", "liaison/api.ErrPower", "liaison/api.ErrNone", "liaison/api.ErrTwice", "liaison/api.ErrDepth", "liaison/api.ErrExpired", "liaison/api.ErrPanic"], apart := false, laid := [("liaison/api.ErrRange", laid_liaison_api_ErrRange), ("liaison/api.ErrShort", laid_liaison_api_ErrShort), ("liaison/api.ErrLong", laid_liaison_api_ErrLong), ("liaison/api.ErrForm", laid_liaison_api_ErrForm), ("liaison/api.ErrCheck", laid_liaison_api_ErrCheck), ("liaison/api.ErrFull", laid_liaison_api_ErrFull), ("liaison/api.ErrPower", laid_liaison_api_ErrPower), ("liaison/api.ErrNone", laid_liaison_api_ErrNone), ("liaison/api.ErrState", laid_liaison_api_ErrState), ("liaison/api.ErrTwice", laid_liaison_api_ErrTwice), ("liaison/api.ErrDepth", laid_liaison_api_ErrDepth), ("liaison/api.ErrExpired", laid_liaison_api_ErrExpired), ("liaison/api.ErrPanic", laid_liaison_api_ErrPanic), ("liaison/api.ErrProtocol", laid_liaison_api_ErrProtocol)], narrowed := true }
def MovesPairsUptoSaid : Prop := movesPairsUptoRow.holds Tryd.pinned (OpenSpec.upto movesPairsSpec)

/-- 'liaisonlaw11.MovesSafe', WHERE WHAT IT READS IS OF BULK AT MOST 1048576: true; the input reads as it did. -/
def movesSafeUptoRow : OpenClaim := { program := "ytghjnhdepeiloaadoor", sum := "0b4fbf255a7b32a656611292258a3a2443b070d6a247c84e7bc32f6c551d2e24", func := "liaison/liaisonlaw11.MovesSafe", spec := "movesSafe", named := ["liaison/api.ErrProtocol", "liaison/api.ErrRange", "liaison/api.ErrFull", "liaison/api.ErrForm", "liaison/api.ErrState"], apart := false, laid := [("liaison/api.ErrRange", laid_liaison_api_ErrRange), ("liaison/api.ErrForm", laid_liaison_api_ErrForm), ("liaison/api.ErrFull", laid_liaison_api_ErrFull), ("liaison/api.ErrState", laid_liaison_api_ErrState), ("liaison/api.ErrProtocol", laid_liaison_api_ErrProtocol)], narrowed := true }
def MovesSafeUptoSaid : Prop := movesSafeUptoRow.holds Tryd.pinned (OpenSpec.upto movesSafeSpec)

/-- 'liaisonlaw11.MovesWork', WHERE WHAT IT READS IS OF BULK AT MOST 1048576: true; the input reads as it did. -/
def movesWorkUptoRow : OpenClaim := { program := "ytghjnhdepeiloaadoor", sum := "0b4fbf255a7b32a656611292258a3a2443b070d6a247c84e7bc32f6c551d2e24", func := "liaison/liaisonlaw11.MovesWork", spec := "movesWork", named := ["liaison/api.ErrProtocol", "liaison/api.ErrRange", "liaison/api.ErrFull", "liaison/api.ErrForm", "liaison/api.ErrState"], apart := false, laid := [("liaison/api.ErrRange", laid_liaison_api_ErrRange), ("liaison/api.ErrForm", laid_liaison_api_ErrForm), ("liaison/api.ErrFull", laid_liaison_api_ErrFull), ("liaison/api.ErrState", laid_liaison_api_ErrState), ("liaison/api.ErrProtocol", laid_liaison_api_ErrProtocol)], narrowed := true }
def MovesWorkUptoSaid : Prop := movesWorkUptoRow.holds Tryd.pinned (OpenSpec.upto movesWorkSpec)

/-- 'liaisonlaw11.MovesEnd', WHERE WHAT IT READS IS OF BULK AT MOST 1048576: true; the input reads as it did. -/
def movesEndUptoRow : OpenClaim := { program := "ytghjnhdepeiloaadoor", sum := "0b4fbf255a7b32a656611292258a3a2443b070d6a247c84e7bc32f6c551d2e24", func := "liaison/liaisonlaw11.MovesEnd", spec := "movesEnd", named := ["liaison/api.ErrProtocol", "liaison/api.ErrRange", "liaison/api.ErrFull", "liaison/api.ErrForm", "liaison/api.ErrState"], apart := false, laid := [("liaison/api.ErrRange", laid_liaison_api_ErrRange), ("liaison/api.ErrForm", laid_liaison_api_ErrForm), ("liaison/api.ErrFull", laid_liaison_api_ErrFull), ("liaison/api.ErrState", laid_liaison_api_ErrState), ("liaison/api.ErrProtocol", laid_liaison_api_ErrProtocol)], narrowed := true }
def MovesEndUptoSaid : Prop := movesEndUptoRow.holds Tryd.pinned (OpenSpec.upto movesEndSpec)

/-- 'liaisonlaw11.MovesNew', WHERE WHAT IT READS IS OF BULK AT MOST 1048576: true; the input reads as it did. -/
def movesNewUptoRow : OpenClaim := { program := "ytghjnhdepeiloaadoor", sum := "0b4fbf255a7b32a656611292258a3a2443b070d6a247c84e7bc32f6c551d2e24", func := "liaison/liaisonlaw11.MovesNew", spec := "movesNew", inPlace := ["internal/reflectlite.TypeOf"], unfollowed := true, recurses := true, named := ["liaison/api.ErrProtocol", "liaison/api.ErrRange", "liaison/api.ErrFull", "liaison/api.ErrForm", "liaison/api.ErrState", "liaison/api.ErrShort", "liaison/api.ErrLong", "liaison/api.ErrCheck", "liaison/api.ErrPower", "liaison/api.ErrNone", "liaison/api.ErrTwice", "liaison/api.ErrDepth", "liaison/api.ErrExpired", "liaison/api.ErrPanic"], apart := false, laid := [("liaison/api.ErrRange", laid_liaison_api_ErrRange), ("liaison/api.ErrShort", laid_liaison_api_ErrShort), ("liaison/api.ErrLong", laid_liaison_api_ErrLong), ("liaison/api.ErrForm", laid_liaison_api_ErrForm), ("liaison/api.ErrCheck", laid_liaison_api_ErrCheck), ("liaison/api.ErrFull", laid_liaison_api_ErrFull), ("liaison/api.ErrPower", laid_liaison_api_ErrPower), ("liaison/api.ErrNone", laid_liaison_api_ErrNone), ("liaison/api.ErrState", laid_liaison_api_ErrState), ("liaison/api.ErrTwice", laid_liaison_api_ErrTwice), ("liaison/api.ErrDepth", laid_liaison_api_ErrDepth), ("liaison/api.ErrExpired", laid_liaison_api_ErrExpired), ("liaison/api.ErrPanic", laid_liaison_api_ErrPanic), ("liaison/api.ErrProtocol", laid_liaison_api_ErrProtocol)], narrowed := true }
def MovesNewUptoSaid : Prop := movesNewUptoRow.holds Tryd.pinned (OpenSpec.upto movesNewSpec)

end Rows
end Go.Proofs.YtghjnhdepeiloaaDoor
