/-
  NARROWER THAN 'FOR EVERY INPUT', by the rows' own cells (each row's printed sentence says how): TimersPlays: laid · TimersFull: laid · TimersComes: laid · TimersOrder: laid.
  DERIVED. THE GIVEN ROWS OF THIS SEAT. 4 by the template 'for every input the law returns true; each argument reads behind the call as it read before'; 0 by the template 'total and deterministic' (their statements: YtanbeaebdingeaaDoorTotals.lean).
  GIVEN WITH THE SEED: the statements are not yours to turn. If you find one false, say at which input.
  Laid BY PROGRAM, IN A SANDBOX (cutbox-rows.mjs): the forced cells as the released guide's own fill.sh prints them over the translation be69a9d44b9c6da8… (all of the seat's roots in one cut). By AI agents, Wed Nov 11 2026. No macro, syntax, notation, axiom, sorry.
-/
import Derived.Test.YtanbeaebdingeaaDoorChecked
import GoSem.Claim
import GoSem.ClaimJoined
import GoSem.ClaimMapViews
import Derived.JoinedTies
import Derived.KernelRfl
namespace Go.Proofs.YtanbeaebdingeaaDoor
/- THE CELL 'sum', in the pinned program and in every row, IS THE sha256 OF THE DUMP (.gsa) THAT YtanbeaebdingeaaDoorProg.lean LOADS. Nothing in Lean hashes anything: it is a label: what it is worth is what the hold of that sum in a sandbox is worth. -/
noncomputable def Tryd.pinned : Pinned := { name := "ytanbeaebdingeaadoor", sum := "be69a9d44b9c6da8b0a1a94aa3a10d2f3cd60bce0553e24702fefc046f7980a9", checked := Tryd.checked }
namespace Rows
def none {H : Type} : Left H := { results := [], args := [] }

/- WHAT THE LISTED PACKAGE-LEVEL VARIABLES READ AS WHEN THE CALL BEGINS. Each datum BY PROGRAM (the guide's laid-datum.mjs) off the statement by which the dump's own 'gosem.cut.vars' lays the variable. In a bare row this is a premise. The card (YtanbeaebdingeaaDoorCards.lean) ties it to the program's text. -/
def laid_liaison_api_ErrRange {H : Type} : DataW H := .iface "*errors.errorString" (.ptr (.agg [.lit (.string [108, 105, 97, 105, 115, 111, 110, 58, 32, 114, 97, 110, 103, 101])]))
def laid_liaison_api_ErrShort {H : Type} : DataW H := .iface "*errors.errorString" (.ptr (.agg [.lit (.string [108, 105, 97, 105, 115, 111, 110, 58, 32, 115, 104, 111, 114, 116])]))
def laid_liaison_api_ErrLong {H : Type} : DataW H := .iface "*errors.errorString" (.ptr (.agg [.lit (.string [108, 105, 97, 105, 115, 111, 110, 58, 32, 108, 111, 110, 103])]))
def laid_liaison_api_ErrForm {H : Type} : DataW H := .iface "*errors.errorString" (.ptr (.agg [.lit (.string [108, 105, 97, 105, 115, 111, 110, 58, 32, 102, 111, 114, 109])]))
def laid_liaison_api_ErrCheck {H : Type} : DataW H := .iface "*errors.errorString" (.ptr (.agg [.lit (.string [108, 105, 97, 105, 115, 111, 110, 58, 32, 99, 104, 101, 99, 107])]))
def laid_liaison_api_ErrFull {H : Type} : DataW H := .iface "*errors.errorString" (.ptr (.agg [.lit (.string [108, 105, 97, 105, 115, 111, 110, 58, 32, 102, 117, 108, 108])]))
def laid_liaison_api_ErrPower {H : Type} : DataW H := .iface "*errors.errorString" (.ptr (.agg [.lit (.string [108, 105, 97, 105, 115, 111, 110, 58, 32, 112, 111, 119, 101, 114])]))
def laid_liaison_api_ErrNone {H : Type} : DataW H := .iface "*errors.errorString" (.ptr (.agg [.lit (.string [108, 105, 97, 105, 115, 111, 110, 58, 32, 110, 111, 110, 101])]))
def laid_liaison_api_ErrState {H : Type} : DataW H := .iface "*errors.errorString" (.ptr (.agg [.lit (.string [108, 105, 97, 105, 115, 111, 110, 58, 32, 115, 116, 97, 116, 101])]))
def laid_liaison_api_ErrTwice {H : Type} : DataW H := .iface "*errors.errorString" (.ptr (.agg [.lit (.string [108, 105, 97, 105, 115, 111, 110, 58, 32, 116, 119, 105, 99, 101])]))
def laid_liaison_api_ErrDepth {H : Type} : DataW H := .iface "*errors.errorString" (.ptr (.agg [.lit (.string [108, 105, 97, 105, 115, 111, 110, 58, 32, 100, 101, 112, 116, 104])]))
def laid_liaison_api_ErrExpired {H : Type} : DataW H := .iface "*errors.errorString" (.ptr (.agg [.lit (.string [108, 105, 97, 105, 115, 111, 110, 58, 32, 101, 120, 112, 105, 114, 101, 100])]))
def laid_liaison_api_ErrPanic {H : Type} : DataW H := .iface "*errors.errorString" (.ptr (.agg [.lit (.string [108, 105, 97, 105, 115, 111, 110, 58, 32, 112, 97, 110, 105, 99])]))
def laid_liaison_api_ErrProtocol {H : Type} : DataW H := .iface "*errors.errorString" (.ptr (.agg [.lit (.string [108, 105, 97, 105, 115, 111, 110, 58, 32, 112, 114, 111, 116, 111, 99, 111, 108])]))

/-- 'liaisonlaw13.TimersPlays': WHATEVER THE INPUT: true; the input reads as it did. -/
def timersPlaysSpec : ChangeSpec := { name := "timersPlays", fn := fun _ => fun
  | [d] => { results := [.lit (.bool true)], args := [d] }
  | _ => none }
def timersPlaysRow : OpenClaim := { program := "ytanbeaebdingeaadoor", sum := "be69a9d44b9c6da8b0a1a94aa3a10d2f3cd60bce0553e24702fefc046f7980a9", func := "liaison/liaisonlaw13.TimersPlays", spec := "timersPlays", inPlace := ["math.Float64frombits", "math.Float64bits", "internal/reflectlite.TypeOf"], unfollowed := true, recurses := true, named := ["liaison/api.ErrFull", "liaison/api.ErrForm", "liaison/api.ErrRange", "liaison/api.ErrNone", "liaison/api.ErrShort", "liaison/api.ErrLong", "liaison/api.ErrCheck", "liaison/api.ErrPower", "liaison/api.ErrState", "liaison/api.ErrTwice", "liaison/api.ErrDepth", "liaison/api.ErrExpired", "liaison/api.ErrPanic", "liaison/api.ErrProtocol"], apart := false, laid := [("liaison/api.ErrRange", laid_liaison_api_ErrRange), ("liaison/api.ErrShort", laid_liaison_api_ErrShort), ("liaison/api.ErrLong", laid_liaison_api_ErrLong), ("liaison/api.ErrForm", laid_liaison_api_ErrForm), ("liaison/api.ErrCheck", laid_liaison_api_ErrCheck), ("liaison/api.ErrFull", laid_liaison_api_ErrFull), ("liaison/api.ErrPower", laid_liaison_api_ErrPower), ("liaison/api.ErrNone", laid_liaison_api_ErrNone), ("liaison/api.ErrState", laid_liaison_api_ErrState), ("liaison/api.ErrTwice", laid_liaison_api_ErrTwice), ("liaison/api.ErrDepth", laid_liaison_api_ErrDepth), ("liaison/api.ErrExpired", laid_liaison_api_ErrExpired), ("liaison/api.ErrPanic", laid_liaison_api_ErrPanic), ("liaison/api.ErrProtocol", laid_liaison_api_ErrProtocol)] }
def TimersPlaysSaid : Prop := timersPlaysRow.holds Tryd.pinned (OpenSpec.ofChange timersPlaysSpec)

/-- ITS FALSE NEIGHBOUR: 'it returns false'. Refute it at one input. -/
def timersPlaysWrong : ChangeSpec := { name := "timersPlays", fn := fun _ => fun
  | [d] => { results := [.lit (.bool false)], args := [d] }
  | _ => none }
def TimersPlaysWrongFalsely : Prop := timersPlaysRow.holds Tryd.pinned (OpenSpec.ofChange timersPlaysWrong)

/-- 'liaisonlaw13.TimersFull': WHATEVER THE INPUT: true; the input reads as it did. -/
def timersFullSpec : ChangeSpec := { name := "timersFull", fn := fun _ => fun
  | [d] => { results := [.lit (.bool true)], args := [d] }
  | _ => none }
def timersFullRow : OpenClaim := { program := "ytanbeaebdingeaadoor", sum := "be69a9d44b9c6da8b0a1a94aa3a10d2f3cd60bce0553e24702fefc046f7980a9", func := "liaison/liaisonlaw13.TimersFull", spec := "timersFull", inPlace := ["math.Float64frombits", "math.Float64bits", "internal/reflectlite.TypeOf"], unfollowed := true, recurses := true, named := ["liaison/api.ErrFull", "liaison/api.ErrForm", "liaison/api.ErrRange", "liaison/api.ErrNone", "liaison/api.ErrShort", "liaison/api.ErrLong", "liaison/api.ErrCheck", "liaison/api.ErrPower", "liaison/api.ErrState", "liaison/api.ErrTwice", "liaison/api.ErrDepth", "liaison/api.ErrExpired", "liaison/api.ErrPanic", "liaison/api.ErrProtocol"], apart := false, laid := [("liaison/api.ErrRange", laid_liaison_api_ErrRange), ("liaison/api.ErrShort", laid_liaison_api_ErrShort), ("liaison/api.ErrLong", laid_liaison_api_ErrLong), ("liaison/api.ErrForm", laid_liaison_api_ErrForm), ("liaison/api.ErrCheck", laid_liaison_api_ErrCheck), ("liaison/api.ErrFull", laid_liaison_api_ErrFull), ("liaison/api.ErrPower", laid_liaison_api_ErrPower), ("liaison/api.ErrNone", laid_liaison_api_ErrNone), ("liaison/api.ErrState", laid_liaison_api_ErrState), ("liaison/api.ErrTwice", laid_liaison_api_ErrTwice), ("liaison/api.ErrDepth", laid_liaison_api_ErrDepth), ("liaison/api.ErrExpired", laid_liaison_api_ErrExpired), ("liaison/api.ErrPanic", laid_liaison_api_ErrPanic), ("liaison/api.ErrProtocol", laid_liaison_api_ErrProtocol)] }
def TimersFullSaid : Prop := timersFullRow.holds Tryd.pinned (OpenSpec.ofChange timersFullSpec)

/-- ITS FALSE NEIGHBOUR: 'it returns false'. Refute it at one input. -/
def timersFullWrong : ChangeSpec := { name := "timersFull", fn := fun _ => fun
  | [d] => { results := [.lit (.bool false)], args := [d] }
  | _ => none }
def TimersFullWrongFalsely : Prop := timersFullRow.holds Tryd.pinned (OpenSpec.ofChange timersFullWrong)

/-- 'liaisonlaw13.TimersComes': WHATEVER THE INPUT: true; the input reads as it did. -/
def timersComesSpec : ChangeSpec := { name := "timersComes", fn := fun _ => fun
  | [d1, d2, d3] => { results := [.lit (.bool true)], args := [d1, d2, d3] }
  | _ => none }
def timersComesRow : OpenClaim := { program := "ytanbeaebdingeaadoor", sum := "be69a9d44b9c6da8b0a1a94aa3a10d2f3cd60bce0553e24702fefc046f7980a9", func := "liaison/liaisonlaw13.TimersComes", spec := "timersComes", inPlace := ["math.Float64frombits", "math.Float64bits"], unfollowed := true, recurses := true, named := ["liaison/api.ErrFull", "liaison/api.ErrForm", "liaison/api.ErrRange", "liaison/api.ErrNone"], apart := false, laid := [("liaison/api.ErrRange", laid_liaison_api_ErrRange), ("liaison/api.ErrForm", laid_liaison_api_ErrForm), ("liaison/api.ErrFull", laid_liaison_api_ErrFull), ("liaison/api.ErrNone", laid_liaison_api_ErrNone)] }
def TimersComesSaid : Prop := timersComesRow.holds Tryd.pinned (OpenSpec.ofChange timersComesSpec)

/-- ITS FALSE NEIGHBOUR: 'it returns false'. Refute it at one input. -/
def timersComesWrong : ChangeSpec := { name := "timersComes", fn := fun _ => fun
  | [d1, d2, d3] => { results := [.lit (.bool false)], args := [d1, d2, d3] }
  | _ => none }
def TimersComesWrongFalsely : Prop := timersComesRow.holds Tryd.pinned (OpenSpec.ofChange timersComesWrong)

/-- 'liaisonlaw13.TimersOrder': WHATEVER THE INPUT: true; the input reads as it did. -/
def timersOrderSpec : ChangeSpec := { name := "timersOrder", fn := fun _ => fun
  | [d1, d2] => { results := [.lit (.bool true)], args := [d1, d2] }
  | _ => none }
def timersOrderRow : OpenClaim := { program := "ytanbeaebdingeaadoor", sum := "be69a9d44b9c6da8b0a1a94aa3a10d2f3cd60bce0553e24702fefc046f7980a9", func := "liaison/liaisonlaw13.TimersOrder", spec := "timersOrder", inPlace := ["math.Float64frombits", "math.Float64bits"], unfollowed := true, recurses := true, named := ["liaison/api.ErrFull", "liaison/api.ErrForm", "liaison/api.ErrRange", "liaison/api.ErrNone"], apart := false, laid := [("liaison/api.ErrRange", laid_liaison_api_ErrRange), ("liaison/api.ErrForm", laid_liaison_api_ErrForm), ("liaison/api.ErrFull", laid_liaison_api_ErrFull), ("liaison/api.ErrNone", laid_liaison_api_ErrNone)] }
def TimersOrderSaid : Prop := timersOrderRow.holds Tryd.pinned (OpenSpec.ofChange timersOrderSpec)

/-- ITS FALSE NEIGHBOUR: 'it returns false'. Refute it at one input. -/
def timersOrderWrong : ChangeSpec := { name := "timersOrder", fn := fun _ => fun
  | [d1, d2] => { results := [.lit (.bool false)], args := [d1, d2] }
  | _ => none }
def TimersOrderWrongFalsely : Prop := timersOrderRow.holds Tryd.pinned (OpenSpec.ofChange timersOrderWrong)

/- THE SECOND FORM. 'bulk': how many values and letters a reading holds, each counted each time it is reached (what is shared counts as often as it is met; a slice's spare places count too). A statement '..UptoSaid' is the law's where the arguments, and the package variables that the reading takes, are together of bulk at most 1048576: NARROWER than '..Said'. Prove '..Said' where nothing that the law and all that it calls make is longer than what came in: it says more and counts as full. Else prove '..UptoSaid'. A law counts once. -/
mutual
def uptoBulk {H : Type} : DataW H → Nat
  | .lit (.string bytes) => bytes.length + 1
  | .lit _ => 1
  | .nil => 1
  | .ptr d => uptoBulk d + 1
  | .slice elems spare => uptoBulkAll elems + uptoBulkAll spare + 1
  | .agg parts => uptoBulkAll parts + 1
  | .iface _ d => uptoBulk d + 1
  | .map entries => uptoBulkEntries entries + 1
  | .held _ => 1
def uptoBulkAll {H : Type} : List (DataW H) → Nat
  | [] => 0
  | d :: r => uptoBulk d + uptoBulkAll r
def uptoBulkEntries {H : Type} : List (Lit × DataW H) → Nat
  | [] => 0
  | x :: r => uptoBulkEntry x + uptoBulkEntries r
def uptoBulkEntry {H : Type} : Lit × DataW H → Nat
  | (.string bytes, d) => bytes.length + uptoBulk d + 1
  | (_, d) => uptoBulk d + 1
 end
def uptoSmall : (H : Type) → List (DataW H) → Bool := fun _ ds => decide (uptoBulkAll ds ≤ 1048576)
def OpenSpec.upto (s : _root_.Go.ChangeSpec) : _root_.Go.OpenSpec := { _root_.Go.OpenSpec.ofChange s with cond := some uptoSmall }

/-- 'liaisonlaw13.TimersPlays', WHERE WHAT IT READS IS OF BULK AT MOST 1048576: true; the input reads as it did. -/
def timersPlaysUptoRow : OpenClaim := { program := "ytanbeaebdingeaadoor", sum := "be69a9d44b9c6da8b0a1a94aa3a10d2f3cd60bce0553e24702fefc046f7980a9", func := "liaison/liaisonlaw13.TimersPlays", spec := "timersPlays", inPlace := ["math.Float64frombits", "math.Float64bits", "internal/reflectlite.TypeOf"], unfollowed := true, recurses := true, named := ["liaison/api.ErrFull", "liaison/api.ErrForm", "liaison/api.ErrRange", "liaison/api.ErrNone", "liaison/api.ErrShort", "liaison/api.ErrLong", "liaison/api.ErrCheck", "liaison/api.ErrPower", "liaison/api.ErrState", "liaison/api.ErrTwice", "liaison/api.ErrDepth", "liaison/api.ErrExpired", "liaison/api.ErrPanic", "liaison/api.ErrProtocol"], apart := false, laid := [("liaison/api.ErrRange", laid_liaison_api_ErrRange), ("liaison/api.ErrShort", laid_liaison_api_ErrShort), ("liaison/api.ErrLong", laid_liaison_api_ErrLong), ("liaison/api.ErrForm", laid_liaison_api_ErrForm), ("liaison/api.ErrCheck", laid_liaison_api_ErrCheck), ("liaison/api.ErrFull", laid_liaison_api_ErrFull), ("liaison/api.ErrPower", laid_liaison_api_ErrPower), ("liaison/api.ErrNone", laid_liaison_api_ErrNone), ("liaison/api.ErrState", laid_liaison_api_ErrState), ("liaison/api.ErrTwice", laid_liaison_api_ErrTwice), ("liaison/api.ErrDepth", laid_liaison_api_ErrDepth), ("liaison/api.ErrExpired", laid_liaison_api_ErrExpired), ("liaison/api.ErrPanic", laid_liaison_api_ErrPanic), ("liaison/api.ErrProtocol", laid_liaison_api_ErrProtocol)], narrowed := true }
def TimersPlaysUptoSaid : Prop := timersPlaysUptoRow.holds Tryd.pinned (OpenSpec.upto timersPlaysSpec)

/-- 'liaisonlaw13.TimersFull', WHERE WHAT IT READS IS OF BULK AT MOST 1048576: true; the input reads as it did. -/
def timersFullUptoRow : OpenClaim := { program := "ytanbeaebdingeaadoor", sum := "be69a9d44b9c6da8b0a1a94aa3a10d2f3cd60bce0553e24702fefc046f7980a9", func := "liaison/liaisonlaw13.TimersFull", spec := "timersFull", inPlace := ["math.Float64frombits", "math.Float64bits", "internal/reflectlite.TypeOf"], unfollowed := true, recurses := true, named := ["liaison/api.ErrFull", "liaison/api.ErrForm", "liaison/api.ErrRange", "liaison/api.ErrNone", "liaison/api.ErrShort", "liaison/api.ErrLong", "liaison/api.ErrCheck", "liaison/api.ErrPower", "liaison/api.ErrState", "liaison/api.ErrTwice", "liaison/api.ErrDepth", "liaison/api.ErrExpired", "liaison/api.ErrPanic", "liaison/api.ErrProtocol"], apart := false, laid := [("liaison/api.ErrRange", laid_liaison_api_ErrRange), ("liaison/api.ErrShort", laid_liaison_api_ErrShort), ("liaison/api.ErrLong", laid_liaison_api_ErrLong), ("liaison/api.ErrForm", laid_liaison_api_ErrForm), ("liaison/api.ErrCheck", laid_liaison_api_ErrCheck), ("liaison/api.ErrFull", laid_liaison_api_ErrFull), ("liaison/api.ErrPower", laid_liaison_api_ErrPower), ("liaison/api.ErrNone", laid_liaison_api_ErrNone), ("liaison/api.ErrState", laid_liaison_api_ErrState), ("liaison/api.ErrTwice", laid_liaison_api_ErrTwice), ("liaison/api.ErrDepth", laid_liaison_api_ErrDepth), ("liaison/api.ErrExpired", laid_liaison_api_ErrExpired), ("liaison/api.ErrPanic", laid_liaison_api_ErrPanic), ("liaison/api.ErrProtocol", laid_liaison_api_ErrProtocol)], narrowed := true }
def TimersFullUptoSaid : Prop := timersFullUptoRow.holds Tryd.pinned (OpenSpec.upto timersFullSpec)

/-- 'liaisonlaw13.TimersComes', WHERE WHAT IT READS IS OF BULK AT MOST 1048576: true; the input reads as it did. -/
def timersComesUptoRow : OpenClaim := { program := "ytanbeaebdingeaadoor", sum := "be69a9d44b9c6da8b0a1a94aa3a10d2f3cd60bce0553e24702fefc046f7980a9", func := "liaison/liaisonlaw13.TimersComes", spec := "timersComes", inPlace := ["math.Float64frombits", "math.Float64bits"], unfollowed := true, recurses := true, named := ["liaison/api.ErrFull", "liaison/api.ErrForm", "liaison/api.ErrRange", "liaison/api.ErrNone"], apart := false, laid := [("liaison/api.ErrRange", laid_liaison_api_ErrRange), ("liaison/api.ErrForm", laid_liaison_api_ErrForm), ("liaison/api.ErrFull", laid_liaison_api_ErrFull), ("liaison/api.ErrNone", laid_liaison_api_ErrNone)], narrowed := true }
def TimersComesUptoSaid : Prop := timersComesUptoRow.holds Tryd.pinned (OpenSpec.upto timersComesSpec)

/-- 'liaisonlaw13.TimersOrder', WHERE WHAT IT READS IS OF BULK AT MOST 1048576: true; the input reads as it did. -/
def timersOrderUptoRow : OpenClaim := { program := "ytanbeaebdingeaadoor", sum := "be69a9d44b9c6da8b0a1a94aa3a10d2f3cd60bce0553e24702fefc046f7980a9", func := "liaison/liaisonlaw13.TimersOrder", spec := "timersOrder", inPlace := ["math.Float64frombits", "math.Float64bits"], unfollowed := true, recurses := true, named := ["liaison/api.ErrFull", "liaison/api.ErrForm", "liaison/api.ErrRange", "liaison/api.ErrNone"], apart := false, laid := [("liaison/api.ErrRange", laid_liaison_api_ErrRange), ("liaison/api.ErrForm", laid_liaison_api_ErrForm), ("liaison/api.ErrFull", laid_liaison_api_ErrFull), ("liaison/api.ErrNone", laid_liaison_api_ErrNone)], narrowed := true }
def TimersOrderUptoSaid : Prop := timersOrderUptoRow.holds Tryd.pinned (OpenSpec.upto timersOrderSpec)

end Rows
end Go.Proofs.YtanbeaebdingeaaDoor
