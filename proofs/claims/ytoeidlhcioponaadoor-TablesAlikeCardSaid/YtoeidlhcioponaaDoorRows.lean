/-
  NARROWER THAN 'FOR EVERY INPUT', by the rows' own cells (each row's printed sentence says how): TablesLook: laid · TablesSteps: laid · TablesWaits: laid · TablesLists: laid · TablesEnd: laid · TablesMeet: laid · TablesAlike: laid.
  DERIVED. THE GIVEN ROWS OF THIS SEAT. 7 by the template 'for every input the law returns true; each argument reads behind the call as it read before'; 0 by the template 'total and deterministic' (their statements: YtoeidlhcioponaaDoorTotals.lean).
  GIVEN WITH THE SEED: the statements are not yours to turn. If you find one false, say at which input.
  Laid BY PROGRAM, IN A SANDBOX (cutbox-rows.mjs): the forced cells as the released guide's own fill.sh prints them over the translation 479667e10cd619aa… (all of the seat's roots in one cut). By AI agents, Wed Nov 11 2026. No macro, syntax, notation, axiom, sorry.
-/
import Derived.Test.YtoeidlhcioponaaDoorChecked
import GoSem.Claim
import GoSem.ClaimJoined
import GoSem.ClaimMapViews
import Derived.JoinedTies
import Derived.KernelRfl
namespace Go.Proofs.YtoeidlhcioponaaDoor
/- THE CELL 'sum', in the pinned program and in every row, IS THE sha256 OF THE DUMP (.gsa) THAT YtoeidlhcioponaaDoorProg.lean LOADS. Nothing in Lean hashes anything: it is a label: what it is worth is what the hold of that sum in a sandbox is worth. -/
noncomputable def Tryd.pinned : Pinned := { name := "ytoeidlhcioponaadoor", sum := "479667e10cd619aa957ef61ee2da84137cc796f872264971076c051aa7f7862f", checked := Tryd.checked }
namespace Rows
def none {H : Type} : Left H := { results := [], args := [] }

/- WHAT THE LISTED PACKAGE-LEVEL VARIABLES READ AS WHEN THE CALL BEGINS. Each datum BY PROGRAM (the guide's laid-datum.mjs) off the statement by which the dump's own 'gosem.cut.vars' lays the variable. In a bare row this is a premise. The card (YtoeidlhcioponaaDoorCards.lean) ties it to the program's text. -/
def laid_liaison_api_ErrRange {H : Type} : DataW H := .iface "*errors.errorString" (.ptr (.agg [.lit (.string [108, 105, 97, 105, 115, 111, 110, 58, 32, 114, 97, 110, 103, 101])]))
def laid_liaison_api_ErrShort {H : Type} : DataW H := .iface "*errors.errorString" (.ptr (.agg [.lit (.string [108, 105, 97, 105, 115, 111, 110, 58, 32, 115, 104, 111, 114, 116])]))
def laid_liaison_api_ErrLong {H : Type} : DataW H := .iface "*errors.errorString" (.ptr (.agg [.lit (.string [108, 105, 97, 105, 115, 111, 110, 58, 32, 108, 111, 110, 103])]))
def laid_liaison_api_ErrForm {H : Type} : DataW H := .iface "*errors.errorString" (.ptr (.agg [.lit (.string [108, 105, 97, 105, 115, 111, 110, 58, 32, 102, 111, 114, 109])]))
def laid_liaison_api_ErrCheck {H : Type} : DataW H := .iface "*errors.errorString" (.ptr (.agg [.lit (.string [108, 105, 97, 105, 115, 111, 110, 58, 32, 99, 104, 101, 99, 107])]))
def laid_liaison_api_ErrFull {H : Type} : DataW H := .iface "*errors.errorString" (.ptr (.agg [.lit (.string [108, 105, 97, 105, 115, 111, 110, 58, 32, 102, 117, 108, 108])]))
def laid_liaison_api_ErrPower {H : Type} : DataW H := .iface "*errors.errorString" (.ptr (.agg [.lit (.string [108, 105, 97, 105, 115, 111, 110, 58, 32, 112, 111, 119, 101, 114])]))
def laid_liaison_api_ErrNone {H : Type} : DataW H := .iface "*errors.errorString" (.ptr (.agg [.lit (.string [108, 105, 97, 105, 115, 111, 110, 58, 32, 110, 111, 110, 101])]))
def laid_liaison_api_ErrState {H : Type} : DataW H := .iface "*errors.errorString" (.ptr (.agg [.lit (.string [108, 105, 97, 105, 115, 111, 110, 58, 32, 115, 116, 97, 116, 101])]))
def laid_liaison_api_ErrTwice {H : Type} : DataW H := .iface "*errors.errorString" (.ptr (.agg [.lit (.string [108, 105, 97, 105, 115, 111, 110, 58, 32, 116, 119, 105, 99, 101])]))
def laid_liaison_api_ErrDepth {H : Type} : DataW H := .iface "*errors.errorString" (.ptr (.agg [.lit (.string [108, 105, 97, 105, 115, 111, 110, 58, 32, 100, 101, 112, 116, 104])]))
def laid_liaison_api_ErrExpired {H : Type} : DataW H := .iface "*errors.errorString" (.ptr (.agg [.lit (.string [108, 105, 97, 105, 115, 111, 110, 58, 32, 101, 120, 112, 105, 114, 101, 100])]))
def laid_liaison_api_ErrPanic {H : Type} : DataW H := .iface "*errors.errorString" (.ptr (.agg [.lit (.string [108, 105, 97, 105, 115, 111, 110, 58, 32, 112, 97, 110, 105, 99])]))
def laid_liaison_api_ErrProtocol {H : Type} : DataW H := .iface "*errors.errorString" (.ptr (.agg [.lit (.string [108, 105, 97, 105, 115, 111, 110, 58, 32, 112, 114, 111, 116, 111, 99, 111, 108])]))

/-- 'liaisonlaw10.TablesLook': WHATEVER THE INPUT: true; the input reads as it did. -/
def tablesLookSpec : ChangeSpec := { name := "tablesLook", fn := fun _ => fun
  | [d1, d2, d3] => { results := [.lit (.bool true)], args := [d1, d2, d3] }
  | _ => none }
def tablesLookRow : OpenClaim := { program := "ytoeidlhcioponaadoor", sum := "479667e10cd619aa957ef61ee2da84137cc796f872264971076c051aa7f7862f", func := "liaison/liaisonlaw10.TablesLook", spec := "tablesLook", inPlace := ["internal/reflectlite.TypeOf"], unfollowed := true, recurses := true, named := ["liaison/api.ErrProtocol", "liaison/api.ErrForm", "liaison/api.ErrRange", "liaison/api.ErrShort", "liaison/api.ErrLong", "liaison/api.ErrCheck", "liaison/api.ErrFull", "liaison/api.ErrPower", "liaison/api.ErrNone", "liaison/api.ErrState", "liaison/api.ErrTwice", "liaison/api.ErrDepth", "liaison/api.ErrExpired", "liaison/api.ErrPanic"], apart := false, laid := [("liaison/api.ErrRange", laid_liaison_api_ErrRange), ("liaison/api.ErrShort", laid_liaison_api_ErrShort), ("liaison/api.ErrLong", laid_liaison_api_ErrLong), ("liaison/api.ErrForm", laid_liaison_api_ErrForm), ("liaison/api.ErrCheck", laid_liaison_api_ErrCheck), ("liaison/api.ErrFull", laid_liaison_api_ErrFull), ("liaison/api.ErrPower", laid_liaison_api_ErrPower), ("liaison/api.ErrNone", laid_liaison_api_ErrNone), ("liaison/api.ErrState", laid_liaison_api_ErrState), ("liaison/api.ErrTwice", laid_liaison_api_ErrTwice), ("liaison/api.ErrDepth", laid_liaison_api_ErrDepth), ("liaison/api.ErrExpired", laid_liaison_api_ErrExpired), ("liaison/api.ErrPanic", laid_liaison_api_ErrPanic), ("liaison/api.ErrProtocol", laid_liaison_api_ErrProtocol)] }
def TablesLookSaid : Prop := tablesLookRow.holds Tryd.pinned (OpenSpec.ofChange tablesLookSpec)

/-- ITS FALSE NEIGHBOUR: 'it returns false'. Refute it at one input. -/
def tablesLookWrong : ChangeSpec := { name := "tablesLook", fn := fun _ => fun
  | [d1, d2, d3] => { results := [.lit (.bool false)], args := [d1, d2, d3] }
  | _ => none }
def TablesLookWrongFalsely : Prop := tablesLookRow.holds Tryd.pinned (OpenSpec.ofChange tablesLookWrong)

/-- 'liaisonlaw10.TablesSteps': WHATEVER THE INPUT: true; the input reads as it did. -/
def tablesStepsSpec : ChangeSpec := { name := "tablesSteps", fn := fun _ => fun
  | [d1, d2, d3] => { results := [.lit (.bool true)], args := [d1, d2, d3] }
  | _ => none }
def tablesStepsRow : OpenClaim := { program := "ytoeidlhcioponaadoor", sum := "479667e10cd619aa957ef61ee2da84137cc796f872264971076c051aa7f7862f", func := "liaison/liaisonlaw10.TablesSteps", spec := "tablesSteps", inPlace := ["internal/reflectlite.TypeOf"], unfollowed := true, recurses := true, named := ["liaison/api.ErrProtocol", "liaison/api.ErrForm", "liaison/api.ErrRange", "liaison/api.ErrState", "liaison/api.ErrShort", "liaison/api.ErrLong", "liaison/api.ErrCheck", "liaison/api.ErrFull", "liaison/api.ErrPower", "liaison/api.ErrNone", "liaison/api.ErrTwice", "liaison/api.ErrDepth", "liaison/api.ErrExpired", "liaison/api.ErrPanic"], apart := false, laid := [("liaison/api.ErrRange", laid_liaison_api_ErrRange), ("liaison/api.ErrShort", laid_liaison_api_ErrShort), ("liaison/api.ErrLong", laid_liaison_api_ErrLong), ("liaison/api.ErrForm", laid_liaison_api_ErrForm), ("liaison/api.ErrCheck", laid_liaison_api_ErrCheck), ("liaison/api.ErrFull", laid_liaison_api_ErrFull), ("liaison/api.ErrPower", laid_liaison_api_ErrPower), ("liaison/api.ErrNone", laid_liaison_api_ErrNone), ("liaison/api.ErrState", laid_liaison_api_ErrState), ("liaison/api.ErrTwice", laid_liaison_api_ErrTwice), ("liaison/api.ErrDepth", laid_liaison_api_ErrDepth), ("liaison/api.ErrExpired", laid_liaison_api_ErrExpired), ("liaison/api.ErrPanic", laid_liaison_api_ErrPanic), ("liaison/api.ErrProtocol", laid_liaison_api_ErrProtocol)] }
def TablesStepsSaid : Prop := tablesStepsRow.holds Tryd.pinned (OpenSpec.ofChange tablesStepsSpec)

/-- ITS FALSE NEIGHBOUR: 'it returns false'. Refute it at one input. -/
def tablesStepsWrong : ChangeSpec := { name := "tablesSteps", fn := fun _ => fun
  | [d1, d2, d3] => { results := [.lit (.bool false)], args := [d1, d2, d3] }
  | _ => none }
def TablesStepsWrongFalsely : Prop := tablesStepsRow.holds Tryd.pinned (OpenSpec.ofChange tablesStepsWrong)

/-- 'liaisonlaw10.TablesWaits': WHATEVER THE INPUT: true; the input reads as it did. -/
def tablesWaitsSpec : ChangeSpec := { name := "tablesWaits", fn := fun _ => fun
  | [d1, d2] => { results := [.lit (.bool true)], args := [d1, d2] }
  | _ => none }
def tablesWaitsRow : OpenClaim := { program := "ytoeidlhcioponaadoor", sum := "479667e10cd619aa957ef61ee2da84137cc796f872264971076c051aa7f7862f", func := "liaison/liaisonlaw10.TablesWaits", spec := "tablesWaits", inPlace := ["internal/reflectlite.TypeOf"], unfollowed := true, recurses := true, named := ["liaison/api.ErrProtocol", "liaison/api.ErrForm", "liaison/api.ErrRange", "liaison/api.ErrShort", "liaison/api.ErrLong", "liaison/api.ErrCheck", "liaison/api.ErrFull", "liaison/api.ErrPower", "liaison/api.ErrNone", "liaison/api.ErrState", "liaison/api.ErrTwice", "liaison/api.ErrDepth", "liaison/api.ErrExpired", "liaison/api.ErrPanic"], apart := false, laid := [("liaison/api.ErrRange", laid_liaison_api_ErrRange), ("liaison/api.ErrShort", laid_liaison_api_ErrShort), ("liaison/api.ErrLong", laid_liaison_api_ErrLong), ("liaison/api.ErrForm", laid_liaison_api_ErrForm), ("liaison/api.ErrCheck", laid_liaison_api_ErrCheck), ("liaison/api.ErrFull", laid_liaison_api_ErrFull), ("liaison/api.ErrPower", laid_liaison_api_ErrPower), ("liaison/api.ErrNone", laid_liaison_api_ErrNone), ("liaison/api.ErrState", laid_liaison_api_ErrState), ("liaison/api.ErrTwice", laid_liaison_api_ErrTwice), ("liaison/api.ErrDepth", laid_liaison_api_ErrDepth), ("liaison/api.ErrExpired", laid_liaison_api_ErrExpired), ("liaison/api.ErrPanic", laid_liaison_api_ErrPanic), ("liaison/api.ErrProtocol", laid_liaison_api_ErrProtocol)] }
def TablesWaitsSaid : Prop := tablesWaitsRow.holds Tryd.pinned (OpenSpec.ofChange tablesWaitsSpec)

/-- ITS FALSE NEIGHBOUR: 'it returns false'. Refute it at one input. -/
def tablesWaitsWrong : ChangeSpec := { name := "tablesWaits", fn := fun _ => fun
  | [d1, d2] => { results := [.lit (.bool false)], args := [d1, d2] }
  | _ => none }
def TablesWaitsWrongFalsely : Prop := tablesWaitsRow.holds Tryd.pinned (OpenSpec.ofChange tablesWaitsWrong)

/-- 'liaisonlaw10.TablesLists': WHATEVER THE INPUT: true; the input reads as it did. -/
def tablesListsSpec : ChangeSpec := { name := "tablesLists", fn := fun _ => fun
  | [d] => { results := [.lit (.bool true)], args := [d] }
  | _ => none }
def tablesListsRow : OpenClaim := { program := "ytoeidlhcioponaadoor", sum := "479667e10cd619aa957ef61ee2da84137cc796f872264971076c051aa7f7862f", func := "liaison/liaisonlaw10.TablesLists", spec := "tablesLists", inPlace := ["internal/reflectlite.TypeOf"], unfollowed := true, recurses := true, named := ["liaison/api.ErrProtocol", "liaison/api.ErrForm", "liaison/api.ErrRange", "liaison/api.ErrShort", "liaison/api.ErrLong", "liaison/api.ErrCheck", "liaison/api.ErrFull", "liaison/api.ErrPower", "liaison/api.ErrNone", "liaison/api.ErrState", "liaison/api.ErrTwice", "liaison/api.ErrDepth", "liaison/api.ErrExpired", "liaison/api.ErrPanic"], apart := false, laid := [("liaison/api.ErrRange", laid_liaison_api_ErrRange), ("liaison/api.ErrShort", laid_liaison_api_ErrShort), ("liaison/api.ErrLong", laid_liaison_api_ErrLong), ("liaison/api.ErrForm", laid_liaison_api_ErrForm), ("liaison/api.ErrCheck", laid_liaison_api_ErrCheck), ("liaison/api.ErrFull", laid_liaison_api_ErrFull), ("liaison/api.ErrPower", laid_liaison_api_ErrPower), ("liaison/api.ErrNone", laid_liaison_api_ErrNone), ("liaison/api.ErrState", laid_liaison_api_ErrState), ("liaison/api.ErrTwice", laid_liaison_api_ErrTwice), ("liaison/api.ErrDepth", laid_liaison_api_ErrDepth), ("liaison/api.ErrExpired", laid_liaison_api_ErrExpired), ("liaison/api.ErrPanic", laid_liaison_api_ErrPanic), ("liaison/api.ErrProtocol", laid_liaison_api_ErrProtocol)] }
def TablesListsSaid : Prop := tablesListsRow.holds Tryd.pinned (OpenSpec.ofChange tablesListsSpec)

/-- ITS FALSE NEIGHBOUR: 'it returns false'. Refute it at one input. -/
def tablesListsWrong : ChangeSpec := { name := "tablesLists", fn := fun _ => fun
  | [d] => { results := [.lit (.bool false)], args := [d] }
  | _ => none }
def TablesListsWrongFalsely : Prop := tablesListsRow.holds Tryd.pinned (OpenSpec.ofChange tablesListsWrong)

/-- 'liaisonlaw10.TablesEnd': WHATEVER THE INPUT: true; the input reads as it did. -/
def tablesEndSpec : ChangeSpec := { name := "tablesEnd", fn := fun _ => fun
  | [d1, d2] => { results := [.lit (.bool true)], args := [d1, d2] }
  | _ => none }
def tablesEndRow : OpenClaim := { program := "ytoeidlhcioponaadoor", sum := "479667e10cd619aa957ef61ee2da84137cc796f872264971076c051aa7f7862f", func := "liaison/liaisonlaw10.TablesEnd", spec := "tablesEnd", unfollowed := true, recurses := true, named := ["liaison/api.ErrProtocol", "liaison/api.ErrForm", "liaison/api.ErrRange", "liaison/api.ErrState"], apart := false, laid := [("liaison/api.ErrRange", laid_liaison_api_ErrRange), ("liaison/api.ErrForm", laid_liaison_api_ErrForm), ("liaison/api.ErrState", laid_liaison_api_ErrState), ("liaison/api.ErrProtocol", laid_liaison_api_ErrProtocol)] }
def TablesEndSaid : Prop := tablesEndRow.holds Tryd.pinned (OpenSpec.ofChange tablesEndSpec)

/-- ITS FALSE NEIGHBOUR: 'it returns false'. Refute it at one input. -/
def tablesEndWrong : ChangeSpec := { name := "tablesEnd", fn := fun _ => fun
  | [d1, d2] => { results := [.lit (.bool false)], args := [d1, d2] }
  | _ => none }
def TablesEndWrongFalsely : Prop := tablesEndRow.holds Tryd.pinned (OpenSpec.ofChange tablesEndWrong)

/-- 'liaisonlaw10.TablesMeet': WHATEVER THE INPUT: true; the input reads as it did. -/
def tablesMeetSpec : ChangeSpec := { name := "tablesMeet", fn := fun _ => fun
  | [d1, d2] => { results := [.lit (.bool true)], args := [d1, d2] }
  | _ => none }
def tablesMeetRow : OpenClaim := { program := "ytoeidlhcioponaadoor", sum := "479667e10cd619aa957ef61ee2da84137cc796f872264971076c051aa7f7862f", func := "liaison/liaisonlaw10.TablesMeet", spec := "tablesMeet", unfollowed := true, recurses := true, named := ["liaison/api.ErrProtocol", "liaison/api.ErrForm", "liaison/api.ErrRange"], apart := false, laid := [("liaison/api.ErrRange", laid_liaison_api_ErrRange), ("liaison/api.ErrForm", laid_liaison_api_ErrForm), ("liaison/api.ErrProtocol", laid_liaison_api_ErrProtocol)] }
def TablesMeetSaid : Prop := tablesMeetRow.holds Tryd.pinned (OpenSpec.ofChange tablesMeetSpec)

/-- ITS FALSE NEIGHBOUR: 'it returns false'. Refute it at one input. -/
def tablesMeetWrong : ChangeSpec := { name := "tablesMeet", fn := fun _ => fun
  | [d1, d2] => { results := [.lit (.bool false)], args := [d1, d2] }
  | _ => none }
def TablesMeetWrongFalsely : Prop := tablesMeetRow.holds Tryd.pinned (OpenSpec.ofChange tablesMeetWrong)

/-- 'liaisonlaw10.TablesAlike': WHATEVER THE INPUT: true; the input reads as it did. -/
def tablesAlikeSpec : ChangeSpec := { name := "tablesAlike", fn := fun _ => fun
  | [d1, d2, d3] => { results := [.lit (.bool true)], args := [d1, d2, d3] }
  | _ => none }
def tablesAlikeRow : OpenClaim := { program := "ytoeidlhcioponaadoor", sum := "479667e10cd619aa957ef61ee2da84137cc796f872264971076c051aa7f7862f", func := "liaison/liaisonlaw10.TablesAlike", spec := "tablesAlike", named := ["liaison/api.ErrProtocol", "liaison/api.ErrForm", "liaison/api.ErrRange"], apart := false, laid := [("liaison/api.ErrRange", laid_liaison_api_ErrRange), ("liaison/api.ErrForm", laid_liaison_api_ErrForm), ("liaison/api.ErrProtocol", laid_liaison_api_ErrProtocol)] }
def TablesAlikeSaid : Prop := tablesAlikeRow.holds Tryd.pinned (OpenSpec.ofChange tablesAlikeSpec)

/-- ITS FALSE NEIGHBOUR: 'it returns false'. Refute it at one input. -/
def tablesAlikeWrong : ChangeSpec := { name := "tablesAlike", fn := fun _ => fun
  | [d1, d2, d3] => { results := [.lit (.bool false)], args := [d1, d2, d3] }
  | _ => none }
def TablesAlikeWrongFalsely : Prop := tablesAlikeRow.holds Tryd.pinned (OpenSpec.ofChange tablesAlikeWrong)

/- THE SECOND FORM. 'bulk': how many values and letters a reading holds, each counted each time it is reached (what is shared counts as often as it is met; a slice's spare places count too). A statement '..UptoSaid' is the law's where the arguments, and the package variables that the reading takes, are together of bulk at most 1048576: NARROWER than '..Said'. Prove '..Said' where nothing that the law and all that it calls make is longer than what came in: it says more and counts as full. Else prove '..UptoSaid'. A law counts once. -/
mutual
def uptoBulk {H : Type} : DataW H → Nat
  | .lit (.string bytes) => bytes.length + 1
  | .lit _ => 1
  | .nil => 1
  | .ptr d => uptoBulk d + 1
  | .slice elems spare => uptoBulkAll elems + uptoBulkAll spare + 1
  | .agg parts => uptoBulkAll parts + 1
  | .iface _ d => uptoBulk d + 1
  | .map entries => uptoBulkEntries entries + 1
  | .held _ => 1
def uptoBulkAll {H : Type} : List (DataW H) → Nat
  | [] => 0
  | d :: r => uptoBulk d + uptoBulkAll r
def uptoBulkEntries {H : Type} : List (Lit × DataW H) → Nat
  | [] => 0
  | x :: r => uptoBulkEntry x + uptoBulkEntries r
def uptoBulkEntry {H : Type} : Lit × DataW H → Nat
  | (.string bytes, d) => bytes.length + uptoBulk d + 1
  | (_, d) => uptoBulk d + 1
 end
def uptoSmall : (H : Type) → List (DataW H) → Bool := fun _ ds => decide (uptoBulkAll ds ≤ 1048576)
def OpenSpec.upto (s : _root_.Go.ChangeSpec) : _root_.Go.OpenSpec := { _root_.Go.OpenSpec.ofChange s with cond := some uptoSmall }

/-- 'liaisonlaw10.TablesLook', WHERE WHAT IT READS IS OF BULK AT MOST 1048576: true; the input reads as it did. -/
def tablesLookUptoRow : OpenClaim := { program := "ytoeidlhcioponaadoor", sum := "479667e10cd619aa957ef61ee2da84137cc796f872264971076c051aa7f7862f", func := "liaison/liaisonlaw10.TablesLook", spec := "tablesLook", inPlace := ["internal/reflectlite.TypeOf"], unfollowed := true, recurses := true, named := ["liaison/api.ErrProtocol", "liaison/api.ErrForm", "liaison/api.ErrRange", "liaison/api.ErrShort", "liaison/api.ErrLong", "liaison/api.ErrCheck", "liaison/api.ErrFull", "liaison/api.ErrPower", "liaison/api.ErrNone", "liaison/api.ErrState", "liaison/api.ErrTwice", "liaison/api.ErrDepth", "liaison/api.ErrExpired", "liaison/api.ErrPanic"], apart := false, laid := [("liaison/api.ErrRange", laid_liaison_api_ErrRange), ("liaison/api.ErrShort", laid_liaison_api_ErrShort), ("liaison/api.ErrLong", laid_liaison_api_ErrLong), ("liaison/api.ErrForm", laid_liaison_api_ErrForm), ("liaison/api.ErrCheck", laid_liaison_api_ErrCheck), ("liaison/api.ErrFull", laid_liaison_api_ErrFull), ("liaison/api.ErrPower", laid_liaison_api_ErrPower), ("liaison/api.ErrNone", laid_liaison_api_ErrNone), ("liaison/api.ErrState", laid_liaison_api_ErrState), ("liaison/api.ErrTwice", laid_liaison_api_ErrTwice), ("liaison/api.ErrDepth", laid_liaison_api_ErrDepth), ("liaison/api.ErrExpired", laid_liaison_api_ErrExpired), ("liaison/api.ErrPanic", laid_liaison_api_ErrPanic), ("liaison/api.ErrProtocol", laid_liaison_api_ErrProtocol)], narrowed := true }
def TablesLookUptoSaid : Prop := tablesLookUptoRow.holds Tryd.pinned (OpenSpec.upto tablesLookSpec)

/-- 'liaisonlaw10.TablesSteps', WHERE WHAT IT READS IS OF BULK AT MOST 1048576: true; the input reads as it did. -/
def tablesStepsUptoRow : OpenClaim := { program := "ytoeidlhcioponaadoor", sum := "479667e10cd619aa957ef61ee2da84137cc796f872264971076c051aa7f7862f", func := "liaison/liaisonlaw10.TablesSteps", spec := "tablesSteps", inPlace := ["internal/reflectlite.TypeOf"], unfollowed := true, recurses := true, named := ["liaison/api.ErrProtocol", "liaison/api.ErrForm", "liaison/api.ErrRange", "liaison/api.ErrState", "liaison/api.ErrShort", "liaison/api.ErrLong", "liaison/api.ErrCheck", "liaison/api.ErrFull", "liaison/api.ErrPower", "liaison/api.ErrNone", "liaison/api.ErrTwice", "liaison/api.ErrDepth", "liaison/api.ErrExpired", "liaison/api.ErrPanic"], apart := false, laid := [("liaison/api.ErrRange", laid_liaison_api_ErrRange), ("liaison/api.ErrShort", laid_liaison_api_ErrShort), ("liaison/api.ErrLong", laid_liaison_api_ErrLong), ("liaison/api.ErrForm", laid_liaison_api_ErrForm), ("liaison/api.ErrCheck", laid_liaison_api_ErrCheck), ("liaison/api.ErrFull", laid_liaison_api_ErrFull), ("liaison/api.ErrPower", laid_liaison_api_ErrPower), ("liaison/api.ErrNone", laid_liaison_api_ErrNone), ("liaison/api.ErrState", laid_liaison_api_ErrState), ("liaison/api.ErrTwice", laid_liaison_api_ErrTwice), ("liaison/api.ErrDepth", laid_liaison_api_ErrDepth), ("liaison/api.ErrExpired", laid_liaison_api_ErrExpired), ("liaison/api.ErrPanic", laid_liaison_api_ErrPanic), ("liaison/api.ErrProtocol", laid_liaison_api_ErrProtocol)], narrowed := true }
def TablesStepsUptoSaid : Prop := tablesStepsUptoRow.holds Tryd.pinned (OpenSpec.upto tablesStepsSpec)

/-- 'liaisonlaw10.TablesWaits', WHERE WHAT IT READS IS OF BULK AT MOST 1048576: true; the input reads as it did. -/
def tablesWaitsUptoRow : OpenClaim := { program := "ytoeidlhcioponaadoor", sum := "479667e10cd619aa957ef61ee2da84137cc796f872264971076c051aa7f7862f", func := "liaison/liaisonlaw10.TablesWaits", spec := "tablesWaits", inPlace := ["internal/reflectlite.TypeOf"], unfollowed := true, recurses := true, named := ["liaison/api.ErrProtocol", "liaison/api.ErrForm", "liaison/api.ErrRange", "liaison/api.ErrShort", "liaison/api.ErrLong", "liaison/api.ErrCheck", "liaison/api.ErrFull", "liaison/api.ErrPower", "liaison/api.ErrNone", "liaison/api.ErrState", "liaison/api.ErrTwice", "liaison/api.ErrDepth", "liaison/api.ErrExpired", "liaison/api.ErrPanic"], apart := false, laid := [("liaison/api.ErrRange", laid_liaison_api_ErrRange), ("liaison/api.ErrShort", laid_liaison_api_ErrShort), ("liaison/api.ErrLong", laid_liaison_api_ErrLong), ("liaison/api.ErrForm", laid_liaison_api_ErrForm), ("liaison/api.ErrCheck", laid_liaison_api_ErrCheck), ("liaison/api.ErrFull", laid_liaison_api_ErrFull), ("liaison/api.ErrPower", laid_liaison_api_ErrPower), ("liaison/api.ErrNone", laid_liaison_api_ErrNone), ("liaison/api.ErrState", laid_liaison_api_ErrState), ("liaison/api.ErrTwice", laid_liaison_api_ErrTwice), ("liaison/api.ErrDepth", laid_liaison_api_ErrDepth), ("liaison/api.ErrExpired", laid_liaison_api_ErrExpired), ("liaison/api.ErrPanic", laid_liaison_api_ErrPanic), ("liaison/api.ErrProtocol", laid_liaison_api_ErrProtocol)], narrowed := true }
def TablesWaitsUptoSaid : Prop := tablesWaitsUptoRow.holds Tryd.pinned (OpenSpec.upto tablesWaitsSpec)

/-- 'liaisonlaw10.TablesLists', WHERE WHAT IT READS IS OF BULK AT MOST 1048576: true; the input reads as it did. -/
def tablesListsUptoRow : OpenClaim := { program := "ytoeidlhcioponaadoor", sum := "479667e10cd619aa957ef61ee2da84137cc796f872264971076c051aa7f7862f", func := "liaison/liaisonlaw10.TablesLists", spec := "tablesLists", inPlace := ["internal/reflectlite.TypeOf"], unfollowed := true, recurses := true, named := ["liaison/api.ErrProtocol", "liaison/api.ErrForm", "liaison/api.ErrRange", "liaison/api.ErrShort", "liaison/api.ErrLong", "liaison/api.ErrCheck", "liaison/api.ErrFull", "liaison/api.ErrPower", "liaison/api.ErrNone", "liaison/api.ErrState", "liaison/api.ErrTwice", "liaison/api.ErrDepth", "liaison/api.ErrExpired", "liaison/api.ErrPanic"], apart := false, laid := [("liaison/api.ErrRange", laid_liaison_api_ErrRange), ("liaison/api.ErrShort", laid_liaison_api_ErrShort), ("liaison/api.ErrLong", laid_liaison_api_ErrLong), ("liaison/api.ErrForm", laid_liaison_api_ErrForm), ("liaison/api.ErrCheck", laid_liaison_api_ErrCheck), ("liaison/api.ErrFull", laid_liaison_api_ErrFull), ("liaison/api.ErrPower", laid_liaison_api_ErrPower), ("liaison/api.ErrNone", laid_liaison_api_ErrNone), ("liaison/api.ErrState", laid_liaison_api_ErrState), ("liaison/api.ErrTwice", laid_liaison_api_ErrTwice), ("liaison/api.ErrDepth", laid_liaison_api_ErrDepth), ("liaison/api.ErrExpired", laid_liaison_api_ErrExpired), ("liaison/api.ErrPanic", laid_liaison_api_ErrPanic), ("liaison/api.ErrProtocol", laid_liaison_api_ErrProtocol)], narrowed := true }
def TablesListsUptoSaid : Prop := tablesListsUptoRow.holds Tryd.pinned (OpenSpec.upto tablesListsSpec)

/-- 'liaisonlaw10.TablesEnd', WHERE WHAT IT READS IS OF BULK AT MOST 1048576: true; the input reads as it did. -/
def tablesEndUptoRow : OpenClaim := { program := "ytoeidlhcioponaadoor", sum := "479667e10cd619aa957ef61ee2da84137cc796f872264971076c051aa7f7862f", func := "liaison/liaisonlaw10.TablesEnd", spec := "tablesEnd", unfollowed := true, recurses := true, named := ["liaison/api.ErrProtocol", "liaison/api.ErrForm", "liaison/api.ErrRange", "liaison/api.ErrState"], apart := false, laid := [("liaison/api.ErrRange", laid_liaison_api_ErrRange), ("liaison/api.ErrForm", laid_liaison_api_ErrForm), ("liaison/api.ErrState", laid_liaison_api_ErrState), ("liaison/api.ErrProtocol", laid_liaison_api_ErrProtocol)], narrowed := true }
def TablesEndUptoSaid : Prop := tablesEndUptoRow.holds Tryd.pinned (OpenSpec.upto tablesEndSpec)

/-- 'liaisonlaw10.TablesMeet', WHERE WHAT IT READS IS OF BULK AT MOST 1048576: true; the input reads as it did. -/
def tablesMeetUptoRow : OpenClaim := { program := "ytoeidlhcioponaadoor", sum := "479667e10cd619aa957ef61ee2da84137cc796f872264971076c051aa7f7862f", func := "liaison/liaisonlaw10.TablesMeet", spec := "tablesMeet", unfollowed := true, recurses := true, named := ["liaison/api.ErrProtocol", "liaison/api.ErrForm", "liaison/api.ErrRange"], apart := false, laid := [("liaison/api.ErrRange", laid_liaison_api_ErrRange), ("liaison/api.ErrForm", laid_liaison_api_ErrForm), ("liaison/api.ErrProtocol", laid_liaison_api_ErrProtocol)], narrowed := true }
def TablesMeetUptoSaid : Prop := tablesMeetUptoRow.holds Tryd.pinned (OpenSpec.upto tablesMeetSpec)

/-- 'liaisonlaw10.TablesAlike', WHERE WHAT IT READS IS OF BULK AT MOST 1048576: true; the input reads as it did. -/
def tablesAlikeUptoRow : OpenClaim := { program := "ytoeidlhcioponaadoor", sum := "479667e10cd619aa957ef61ee2da84137cc796f872264971076c051aa7f7862f", func := "liaison/liaisonlaw10.TablesAlike", spec := "tablesAlike", named := ["liaison/api.ErrProtocol", "liaison/api.ErrForm", "liaison/api.ErrRange"], apart := false, laid := [("liaison/api.ErrRange", laid_liaison_api_ErrRange), ("liaison/api.ErrForm", laid_liaison_api_ErrForm), ("liaison/api.ErrProtocol", laid_liaison_api_ErrProtocol)], narrowed := true }
def TablesAlikeUptoSaid : Prop := tablesAlikeUptoRow.holds Tryd.pinned (OpenSpec.upto tablesAlikeSpec)

end Rows
end Go.Proofs.YtoeidlhcioponaaDoor
