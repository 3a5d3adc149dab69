/-
  NARROWER THAN 'FOR EVERY INPUT', by the rows' own cells (each row's printed sentence says how): LeadOpens: laid · LeadDirects: laid · LeadOnce: laid · LeadAnswers: laid.
  DERIVED. THE GIVEN ROWS OF THIS SEAT. 4 by the template 'for every input the law returns true; each argument reads behind the call as it read before'; 0 by the template 'total and deterministic' (their statements: YtlmlmhmhgdjhnaaGreatDoorTotals.lean).
  GIVEN WITH THE SEED: the statements are not yours to turn. If you find one false, say at which input.
  Laid BY PROGRAM, IN A SANDBOX (cutbox-rows.mjs): the forced cells as the released guide's own fill.sh prints them over the translation ec9517f37e34cf55… (all of the seat's roots in one cut). By AI agents, Wed Nov 11 2026. No macro, syntax, notation, axiom, sorry.
-/
import Derived.Test.YtlmlmhmhgdjhnaaGreatDoorChecked
import GoSem.Claim
import GoSem.ClaimJoined
import GoSem.ClaimMapViews
import Derived.JoinedTies
import Derived.KernelRfl
namespace Go.Proofs.YtlmlmhmhgdjhnaaGreatDoor
/- THE CELL 'sum', in the pinned program and in every row, IS THE sha256 OF THE DUMP (.gsa) THAT YtlmlmhmhgdjhnaaGreatDoorProg.lean LOADS. Nothing in Lean hashes anything: it is a label: what it is worth is what the hold of that sum in a sandbox is worth. -/
noncomputable def Tryz.pinned : Pinned := { name := "ytlmlmhmhgdjhnaagreatdoor", sum := "ec9517f37e34cf558809567122eb30b2baa15dbb0c0108d7f1af0aff4e707237", checked := Tryz.checked }
namespace Rows
def none {H : Type} : Left H := { results := [], args := [] }

/- WHAT THE LISTED PACKAGE-LEVEL VARIABLES READ AS WHEN THE CALL BEGINS. Each datum BY PROGRAM (the guide's laid-datum.mjs) off the statement by which the dump's own 'gosem.cut.vars' lays the variable. In a bare row this is a premise. The card (YtlmlmhmhgdjhnaaGreatDoorCards.lean) ties it to the program's text. -/
def laid_math_bits_deBruijn32tab {H : Type} : DataW H := .agg [.lit (.int .u8 0), .lit (.int .u8 1), .lit (.int .u8 28), .lit (.int .u8 2), .lit (.int .u8 29), .lit (.int .u8 14), .lit (.int .u8 24), .lit (.int .u8 3), .lit (.int .u8 30), .lit (.int .u8 22), .lit (.int .u8 20), .lit (.int .u8 15), .lit (.int .u8 25), .lit (.int .u8 17), .lit (.int .u8 4), .lit (.int .u8 8), .lit (.int .u8 31), .lit (.int .u8 27), .lit (.int .u8 13), .lit (.int .u8 23), .lit (.int .u8 21), .lit (.int .u8 19), .lit (.int .u8 16), .lit (.int .u8 7), .lit (.int .u8 26), .lit (.int .u8 12), .lit (.int .u8 18), .lit (.int .u8 6), .lit (.int .u8 11), .lit (.int .u8 5), .lit (.int .u8 10), .lit (.int .u8 9)]
def laid_math_bits_deBruijn64tab {H : Type} : DataW H := .agg [.lit (.int .u8 0), .lit (.int .u8 1), .lit (.int .u8 56), .lit (.int .u8 2), .lit (.int .u8 57), .lit (.int .u8 49), .lit (.int .u8 28), .lit (.int .u8 3), .lit (.int .u8 61), .lit (.int .u8 58), .lit (.int .u8 42), .lit (.int .u8 50), .lit (.int .u8 38), .lit (.int .u8 29), .lit (.int .u8 17), .lit (.int .u8 4), .lit (.int .u8 62), .lit (.int .u8 47), .lit (.int .u8 59), .lit (.int .u8 36), .lit (.int .u8 45), .lit (.int .u8 43), .lit (.int .u8 51), .lit (.int .u8 22), .lit (.int .u8 53), .lit (.int .u8 39), .lit (.int .u8 33), .lit (.int .u8 30), .lit (.int .u8 24), .lit (.int .u8 18), .lit (.int .u8 12), .lit (.int .u8 5), .lit (.int .u8 63), .lit (.int .u8 55), .lit (.int .u8 48), .lit (.int .u8 27), .lit (.int .u8 60), .lit (.int .u8 41), .lit (.int .u8 37), .lit (.int .u8 16), .lit (.int .u8 46), .lit (.int .u8 35), .lit (.int .u8 44), .lit (.int .u8 21), .lit (.int .u8 52), .lit (.int .u8 32), .lit (.int .u8 23), .lit (.int .u8 11), .lit (.int .u8 54), .lit (.int .u8 26), .lit (.int .u8 40), .lit (.int .u8 15), .lit (.int .u8 34), .lit (.int .u8 20), .lit (.int .u8 31), .lit (.int .u8 10), .lit (.int .u8 25), .lit (.int .u8 14), .lit (.int .u8 19), .lit (.int .u8 9), .lit (.int .u8 13), .lit (.int .u8 8), .lit (.int .u8 7), .lit (.int .u8 6)]
def laid_internal_strconv_uint64pow10 {H : Type} : DataW H := .agg [.lit (.int .u64 1), .lit (.int .u64 10), .lit (.int .u64 100), .lit (.int .u64 1000), .lit (.int .u64 10000), .lit (.int .u64 100000), .lit (.int .u64 1000000), .lit (.int .u64 10000000), .lit (.int .u64 100000000), .lit (.int .u64 1000000000), .lit (.int .u64 10000000000), .lit (.int .u64 100000000000), .lit (.int .u64 1000000000000), .lit (.int .u64 10000000000000), .lit (.int .u64 100000000000000), .lit (.int .u64 1000000000000000), .lit (.int .u64 10000000000000000), .lit (.int .u64 100000000000000000), .lit (.int .u64 1000000000000000000), .lit (.int .u64 10000000000000000000)]
def laid_liaison_api_ErrRange {H : Type} : DataW H := .iface "*errors.errorString" (.ptr (.agg [.lit (.string [108, 105, 97, 105, 115, 111, 110, 58, 32, 114, 97, 110, 103, 101])]))
def laid_liaison_api_ErrShort {H : Type} : DataW H := .iface "*errors.errorString" (.ptr (.agg [.lit (.string [108, 105, 97, 105, 115, 111, 110, 58, 32, 115, 104, 111, 114, 116])]))
def laid_liaison_api_ErrLong {H : Type} : DataW H := .iface "*errors.errorString" (.ptr (.agg [.lit (.string [108, 105, 97, 105, 115, 111, 110, 58, 32, 108, 111, 110, 103])]))
def laid_liaison_api_ErrForm {H : Type} : DataW H := .iface "*errors.errorString" (.ptr (.agg [.lit (.string [108, 105, 97, 105, 115, 111, 110, 58, 32, 102, 111, 114, 109])]))
def laid_liaison_api_ErrCheck {H : Type} : DataW H := .iface "*errors.errorString" (.ptr (.agg [.lit (.string [108, 105, 97, 105, 115, 111, 110, 58, 32, 99, 104, 101, 99, 107])]))
def laid_liaison_api_ErrFull {H : Type} : DataW H := .iface "*errors.errorString" (.ptr (.agg [.lit (.string [108, 105, 97, 105, 115, 111, 110, 58, 32, 102, 117, 108, 108])]))
def laid_liaison_api_ErrPower {H : Type} : DataW H := .iface "*errors.errorString" (.ptr (.agg [.lit (.string [108, 105, 97, 105, 115, 111, 110, 58, 32, 112, 111, 119, 101, 114])]))
def laid_liaison_api_ErrNone {H : Type} : DataW H := .iface "*errors.errorString" (.ptr (.agg [.lit (.string [108, 105, 97, 105, 115, 111, 110, 58, 32, 110, 111, 110, 101])]))
def laid_liaison_api_ErrState {H : Type} : DataW H := .iface "*errors.errorString" (.ptr (.agg [.lit (.string [108, 105, 97, 105, 115, 111, 110, 58, 32, 115, 116, 97, 116, 101])]))
def laid_liaison_api_ErrTwice {H : Type} : DataW H := .iface "*errors.errorString" (.ptr (.agg [.lit (.string [108, 105, 97, 105, 115, 111, 110, 58, 32, 116, 119, 105, 99, 101])]))
def laid_liaison_api_ErrDepth {H : Type} : DataW H := .iface "*errors.errorString" (.ptr (.agg [.lit (.string [108, 105, 97, 105, 115, 111, 110, 58, 32, 100, 101, 112, 116, 104])]))
def laid_liaison_api_ErrExpired {H : Type} : DataW H := .iface "*errors.errorString" (.ptr (.agg [.lit (.string [108, 105, 97, 105, 115, 111, 110, 58, 32, 101, 120, 112, 105, 114, 101, 100])]))
def laid_liaison_api_ErrPanic {H : Type} : DataW H := .iface "*errors.errorString" (.ptr (.agg [.lit (.string [108, 105, 97, 105, 115, 111, 110, 58, 32, 112, 97, 110, 105, 99])]))
def laid_liaison_api_ErrProtocol {H : Type} : DataW H := .iface "*errors.errorString" (.ptr (.agg [.lit (.string [108, 105, 97, 105, 115, 111, 110, 58, 32, 112, 114, 111, 116, 111, 99, 111, 108])]))

/-- 'liaisonlaw17.LeadOpens': WHATEVER THE INPUT: true; the input reads as it did. -/
def leadOpensSpec : ChangeSpec := { name := "leadOpens", fn := fun _ => fun
  | [d1, d2, d3] => { results := [.lit (.bool true)], args := [d1, d2, d3] }
  | _ => none }
def leadOpensRow : OpenClaim := { program := "ytlmlmhmhgdjhnaagreatdoor", sum := "ec9517f37e34cf558809567122eb30b2baa15dbb0c0108d7f1af0aff4e707237", func := "liaison/liaisonlaw17.LeadOpens", spec := "leadOpens", inPlace := ["internal/reflectlite.TypeOf", "math.Float64frombits", "math.Float64bits"], unfollowed := true, recurses := true, named := ["liaison/api.ErrRange", "liaison/api.ErrForm", "liaison/api.ErrState", "internal/strconv.uint64pow10", "math/bits.deBruijn32tab", "math/bits.deBruijn64tab", "liaison/api.ErrPanic", "liaison/api.ErrShort", "liaison/api.ErrLong", "liaison/api.ErrCheck", "liaison/api.ErrFull", "liaison/api.ErrPower", "liaison/api.ErrNone", "liaison/api.ErrTwice", "liaison/api.ErrDepth", "liaison/api.ErrExpired", "liaison/api.ErrProtocol"], apart := false, laid := [("math/bits.deBruijn32tab", laid_math_bits_deBruijn32tab), ("math/bits.deBruijn64tab", laid_math_bits_deBruijn64tab), ("internal/strconv.uint64pow10", laid_internal_strconv_uint64pow10), ("liaison/api.ErrRange", laid_liaison_api_ErrRange), ("liaison/api.ErrShort", laid_liaison_api_ErrShort), ("liaison/api.ErrLong", laid_liaison_api_ErrLong), ("liaison/api.ErrForm", laid_liaison_api_ErrForm), ("liaison/api.ErrCheck", laid_liaison_api_ErrCheck), ("liaison/api.ErrFull", laid_liaison_api_ErrFull), ("liaison/api.ErrPower", laid_liaison_api_ErrPower), ("liaison/api.ErrNone", laid_liaison_api_ErrNone), ("liaison/api.ErrState", laid_liaison_api_ErrState), ("liaison/api.ErrTwice", laid_liaison_api_ErrTwice), ("liaison/api.ErrDepth", laid_liaison_api_ErrDepth), ("liaison/api.ErrExpired", laid_liaison_api_ErrExpired), ("liaison/api.ErrPanic", laid_liaison_api_ErrPanic), ("liaison/api.ErrProtocol", laid_liaison_api_ErrProtocol)] }
def LeadOpensSaid : Prop := leadOpensRow.holds Tryz.pinned (OpenSpec.ofChange leadOpensSpec)

/-- ITS FALSE NEIGHBOUR: 'it returns false'. Refute it at one input. -/
def leadOpensWrong : ChangeSpec := { name := "leadOpens", fn := fun _ => fun
  | [d1, d2, d3] => { results := [.lit (.bool false)], args := [d1, d2, d3] }
  | _ => none }
def LeadOpensWrongFalsely : Prop := leadOpensRow.holds Tryz.pinned (OpenSpec.ofChange leadOpensWrong)

/-- 'liaisonlaw17.LeadDirects': WHATEVER THE INPUT: true; the input reads as it did. -/
def leadDirectsSpec : ChangeSpec := { name := "leadDirects", fn := fun _ => fun
  | [d1, d2, d3] => { results := [.lit (.bool true)], args := [d1, d2, d3] }
  | _ => none }
def leadDirectsRow : OpenClaim := { program := "ytlmlmhmhgdjhnaagreatdoor", sum := "ec9517f37e34cf558809567122eb30b2baa15dbb0c0108d7f1af0aff4e707237", func := "liaison/liaisonlaw17.LeadDirects", spec := "leadDirects", inPlace := ["internal/reflectlite.TypeOf", "math.Float64frombits", "math.Float64bits"], unfollowed := true, recurses := true, named := ["liaison/api.ErrRange", "liaison/api.ErrForm", "liaison/api.ErrState", "internal/strconv.uint64pow10", "math/bits.deBruijn32tab", "math/bits.deBruijn64tab", "liaison/api.ErrPanic", "liaison/api.ErrShort", "liaison/api.ErrLong", "liaison/api.ErrCheck", "liaison/api.ErrFull", "liaison/api.ErrPower", "liaison/api.ErrNone", "liaison/api.ErrTwice", "liaison/api.ErrDepth", "liaison/api.ErrExpired", "liaison/api.ErrProtocol"], apart := false, laid := [("math/bits.deBruijn32tab", laid_math_bits_deBruijn32tab), ("math/bits.deBruijn64tab", laid_math_bits_deBruijn64tab), ("internal/strconv.uint64pow10", laid_internal_strconv_uint64pow10), ("liaison/api.ErrRange", laid_liaison_api_ErrRange), ("liaison/api.ErrShort", laid_liaison_api_ErrShort), ("liaison/api.ErrLong", laid_liaison_api_ErrLong), ("liaison/api.ErrForm", laid_liaison_api_ErrForm), ("liaison/api.ErrCheck", laid_liaison_api_ErrCheck), ("liaison/api.ErrFull", laid_liaison_api_ErrFull), ("liaison/api.ErrPower", laid_liaison_api_ErrPower), ("liaison/api.ErrNone", laid_liaison_api_ErrNone), ("liaison/api.ErrState", laid_liaison_api_ErrState), ("liaison/api.ErrTwice", laid_liaison_api_ErrTwice), ("liaison/api.ErrDepth", laid_liaison_api_ErrDepth), ("liaison/api.ErrExpired", laid_liaison_api_ErrExpired), ("liaison/api.ErrPanic", laid_liaison_api_ErrPanic), ("liaison/api.ErrProtocol", laid_liaison_api_ErrProtocol)] }
def LeadDirectsSaid : Prop := leadDirectsRow.holds Tryz.pinned (OpenSpec.ofChange leadDirectsSpec)

/-- ITS FALSE NEIGHBOUR: 'it returns false'. Refute it at one input. -/
def leadDirectsWrong : ChangeSpec := { name := "leadDirects", fn := fun _ => fun
  | [d1, d2, d3] => { results := [.lit (.bool false)], args := [d1, d2, d3] }
  | _ => none }
def LeadDirectsWrongFalsely : Prop := leadDirectsRow.holds Tryz.pinned (OpenSpec.ofChange leadDirectsWrong)

/-- 'liaisonlaw17.LeadOnce': WHATEVER THE INPUT: true; the input reads as it did. -/
def leadOnceSpec : ChangeSpec := { name := "leadOnce", fn := fun _ => fun
  | [d1, d2, d3] => { results := [.lit (.bool true)], args := [d1, d2, d3] }
  | _ => none }
def leadOnceRow : OpenClaim := { program := "ytlmlmhmhgdjhnaagreatdoor", sum := "ec9517f37e34cf558809567122eb30b2baa15dbb0c0108d7f1af0aff4e707237", func := "liaison/liaisonlaw17.LeadOnce", spec := "leadOnce", inPlace := ["internal/reflectlite.TypeOf", "math.Float64frombits", "math.Float64bits"], unfollowed := true, recurses := true, named := ["liaison/api.ErrRange", "liaison/api.ErrForm", "liaison/api.ErrState", "internal/strconv.uint64pow10", "math/bits.deBruijn32tab", "math/bits.deBruijn64tab", "liaison/api.ErrPanic", "liaison/api.ErrShort", "liaison/api.ErrLong", "liaison/api.ErrCheck", "liaison/api.ErrFull", "liaison/api.ErrPower", "liaison/api.ErrNone", "liaison/api.ErrTwice", "liaison/api.ErrDepth", "liaison/api.ErrExpired", "liaison/api.ErrProtocol"], apart := false, laid := [("math/bits.deBruijn32tab", laid_math_bits_deBruijn32tab), ("math/bits.deBruijn64tab", laid_math_bits_deBruijn64tab), ("internal/strconv.uint64pow10", laid_internal_strconv_uint64pow10), ("liaison/api.ErrRange", laid_liaison_api_ErrRange), ("liaison/api.ErrShort", laid_liaison_api_ErrShort), ("liaison/api.ErrLong", laid_liaison_api_ErrLong), ("liaison/api.ErrForm", laid_liaison_api_ErrForm), ("liaison/api.ErrCheck", laid_liaison_api_ErrCheck), ("liaison/api.ErrFull", laid_liaison_api_ErrFull), ("liaison/api.ErrPower", laid_liaison_api_ErrPower), ("liaison/api.ErrNone", laid_liaison_api_ErrNone), ("liaison/api.ErrState", laid_liaison_api_ErrState), ("liaison/api.ErrTwice", laid_liaison_api_ErrTwice), ("liaison/api.ErrDepth", laid_liaison_api_ErrDepth), ("liaison/api.ErrExpired", laid_liaison_api_ErrExpired), ("liaison/api.ErrPanic", laid_liaison_api_ErrPanic), ("liaison/api.ErrProtocol", laid_liaison_api_ErrProtocol)] }
def LeadOnceSaid : Prop := leadOnceRow.holds Tryz.pinned (OpenSpec.ofChange leadOnceSpec)

/-- ITS FALSE NEIGHBOUR: 'it returns false'. Refute it at one input. -/
def leadOnceWrong : ChangeSpec := { name := "leadOnce", fn := fun _ => fun
  | [d1, d2, d3] => { results := [.lit (.bool false)], args := [d1, d2, d3] }
  | _ => none }
def LeadOnceWrongFalsely : Prop := leadOnceRow.holds Tryz.pinned (OpenSpec.ofChange leadOnceWrong)

/-- 'liaisonlaw17.LeadAnswers': WHATEVER THE INPUT: true; the input reads as it did. -/
def leadAnswersSpec : ChangeSpec := { name := "leadAnswers", fn := fun _ => fun
  | [d1, d2, d3] => { results := [.lit (.bool true)], args := [d1, d2, d3] }
  | _ => none }
def leadAnswersRow : OpenClaim := { program := "ytlmlmhmhgdjhnaagreatdoor", sum := "ec9517f37e34cf558809567122eb30b2baa15dbb0c0108d7f1af0aff4e707237", func := "liaison/liaisonlaw17.LeadAnswers", spec := "leadAnswers", inPlace := ["internal/reflectlite.TypeOf", "math.Float64frombits", "math.Float64bits"], unfollowed := true, recurses := true, named := ["liaison/api.ErrRange", "liaison/api.ErrForm", "liaison/api.ErrState", "internal/strconv.uint64pow10", "math/bits.deBruijn32tab", "math/bits.deBruijn64tab", "liaison/api.ErrPanic", "liaison/api.ErrShort", "liaison/api.ErrLong", "liaison/api.ErrCheck", "liaison/api.ErrFull", "liaison/api.ErrPower", "liaison/api.ErrNone", "liaison/api.ErrTwice", "liaison/api.ErrDepth", "liaison/api.ErrExpired", "liaison/api.ErrProtocol"], apart := false, laid := [("math/bits.deBruijn32tab", laid_math_bits_deBruijn32tab), ("math/bits.deBruijn64tab", laid_math_bits_deBruijn64tab), ("internal/strconv.uint64pow10", laid_internal_strconv_uint64pow10), ("liaison/api.ErrRange", laid_liaison_api_ErrRange), ("liaison/api.ErrShort", laid_liaison_api_ErrShort), ("liaison/api.ErrLong", laid_liaison_api_ErrLong), ("liaison/api.ErrForm", laid_liaison_api_ErrForm), ("liaison/api.ErrCheck", laid_liaison_api_ErrCheck), ("liaison/api.ErrFull", laid_liaison_api_ErrFull), ("liaison/api.ErrPower", laid_liaison_api_ErrPower), ("liaison/api.ErrNone", laid_liaison_api_ErrNone), ("liaison/api.ErrState", laid_liaison_api_ErrState), ("liaison/api.ErrTwice", laid_liaison_api_ErrTwice), ("liaison/api.ErrDepth", laid_liaison_api_ErrDepth), ("liaison/api.ErrExpired", laid_liaison_api_ErrExpired), ("liaison/api.ErrPanic", laid_liaison_api_ErrPanic), ("liaison/api.ErrProtocol", laid_liaison_api_ErrProtocol)] }
def LeadAnswersSaid : Prop := leadAnswersRow.holds Tryz.pinned (OpenSpec.ofChange leadAnswersSpec)

/-- ITS FALSE NEIGHBOUR: 'it returns false'. Refute it at one input. -/
def leadAnswersWrong : ChangeSpec := { name := "leadAnswers", fn := fun _ => fun
  | [d1, d2, d3] => { results := [.lit (.bool false)], args := [d1, d2, d3] }
  | _ => none }
def LeadAnswersWrongFalsely : Prop := leadAnswersRow.holds Tryz.pinned (OpenSpec.ofChange leadAnswersWrong)

/- THE SECOND FORM. 'bulk': how many values and letters a reading holds, each counted each time it is reached (what is shared counts as often as it is met; a slice's spare places count too). A statement '..UptoSaid' is the law's where the arguments, and the package variables that the reading takes, are together of bulk at most 1048576: NARROWER than '..Said'. Prove '..Said' where nothing that the law and all that it calls make is longer than what came in: it says more and counts as full. Else prove '..UptoSaid'. A law counts once. -/
mutual
def uptoBulk {H : Type} : DataW H → Nat
  | .lit (.string bytes) => bytes.length + 1
  | .lit _ => 1
  | .nil => 1
  | .ptr d => uptoBulk d + 1
  | .slice elems spare => uptoBulkAll elems + uptoBulkAll spare + 1
  | .agg parts => uptoBulkAll parts + 1
  | .iface _ d => uptoBulk d + 1
  | .map entries => uptoBulkEntries entries + 1
  | .held _ => 1
def uptoBulkAll {H : Type} : List (DataW H) → Nat
  | [] => 0
  | d :: r => uptoBulk d + uptoBulkAll r
def uptoBulkEntries {H : Type} : List (Lit × DataW H) → Nat
  | [] => 0
  | x :: r => uptoBulkEntry x + uptoBulkEntries r
def uptoBulkEntry {H : Type} : Lit × DataW H → Nat
  | (.string bytes, d) => bytes.length + uptoBulk d + 1
  | (_, d) => uptoBulk d + 1
 end
def uptoSmall : (H : Type) → List (DataW H) → Bool := fun _ ds => decide (uptoBulkAll ds ≤ 1048576)
def OpenSpec.upto (s : _root_.Go.ChangeSpec) : _root_.Go.OpenSpec := { _root_.Go.OpenSpec.ofChange s with cond := some uptoSmall }

/-- 'liaisonlaw17.LeadOpens', WHERE WHAT IT READS IS OF BULK AT MOST 1048576: true; the input reads as it did. -/
def leadOpensUptoRow : OpenClaim := { program := "ytlmlmhmhgdjhnaagreatdoor", sum := "ec9517f37e34cf558809567122eb30b2baa15dbb0c0108d7f1af0aff4e707237", func := "liaison/liaisonlaw17.LeadOpens", spec := "leadOpens", inPlace := ["internal/reflectlite.TypeOf", "math.Float64frombits", "math.Float64bits"], unfollowed := true, recurses := true, named := ["liaison/api.ErrRange", "liaison/api.ErrForm", "liaison/api.ErrState", "internal/strconv.uint64pow10", "math/bits.deBruijn32tab", "math/bits.deBruijn64tab", "liaison/api.ErrPanic", "liaison/api.ErrShort", "liaison/api.ErrLong", "liaison/api.ErrCheck", "liaison/api.ErrFull", "liaison/api.ErrPower", "liaison/api.ErrNone", "liaison/api.ErrTwice", "liaison/api.ErrDepth", "liaison/api.ErrExpired", "liaison/api.ErrProtocol"], apart := false, laid := [("math/bits.deBruijn32tab", laid_math_bits_deBruijn32tab), ("math/bits.deBruijn64tab", laid_math_bits_deBruijn64tab), ("internal/strconv.uint64pow10", laid_internal_strconv_uint64pow10), ("liaison/api.ErrRange", laid_liaison_api_ErrRange), ("liaison/api.ErrShort", laid_liaison_api_ErrShort), ("liaison/api.ErrLong", laid_liaison_api_ErrLong), ("liaison/api.ErrForm", laid_liaison_api_ErrForm), ("liaison/api.ErrCheck", laid_liaison_api_ErrCheck), ("liaison/api.ErrFull", laid_liaison_api_ErrFull), ("liaison/api.ErrPower", laid_liaison_api_ErrPower), ("liaison/api.ErrNone", laid_liaison_api_ErrNone), ("liaison/api.ErrState", laid_liaison_api_ErrState), ("liaison/api.ErrTwice", laid_liaison_api_ErrTwice), ("liaison/api.ErrDepth", laid_liaison_api_ErrDepth), ("liaison/api.ErrExpired", laid_liaison_api_ErrExpired), ("liaison/api.ErrPanic", laid_liaison_api_ErrPanic), ("liaison/api.ErrProtocol", laid_liaison_api_ErrProtocol)], narrowed := true }
def LeadOpensUptoSaid : Prop := leadOpensUptoRow.holds Tryz.pinned (OpenSpec.upto leadOpensSpec)

/-- 'liaisonlaw17.LeadDirects', WHERE WHAT IT READS IS OF BULK AT MOST 1048576: true; the input reads as it did. -/
def leadDirectsUptoRow : OpenClaim := { program := "ytlmlmhmhgdjhnaagreatdoor", sum := "ec9517f37e34cf558809567122eb30b2baa15dbb0c0108d7f1af0aff4e707237", func := "liaison/liaisonlaw17.LeadDirects", spec := "leadDirects", inPlace := ["internal/reflectlite.TypeOf", "math.Float64frombits", "math.Float64bits"], unfollowed := true, recurses := true, named := ["liaison/api.ErrRange", "liaison/api.ErrForm", "liaison/api.ErrState", "internal/strconv.uint64pow10", "math/bits.deBruijn32tab", "math/bits.deBruijn64tab", "liaison/api.ErrPanic", "liaison/api.ErrShort", "liaison/api.ErrLong", "liaison/api.ErrCheck", "liaison/api.ErrFull", "liaison/api.ErrPower", "liaison/api.ErrNone", "liaison/api.ErrTwice", "liaison/api.ErrDepth", "liaison/api.ErrExpired", "liaison/api.ErrProtocol"], apart := false, laid := [("math/bits.deBruijn32tab", laid_math_bits_deBruijn32tab), ("math/bits.deBruijn64tab", laid_math_bits_deBruijn64tab), ("internal/strconv.uint64pow10", laid_internal_strconv_uint64pow10), ("liaison/api.ErrRange", laid_liaison_api_ErrRange), ("liaison/api.ErrShort", laid_liaison_api_ErrShort), ("liaison/api.ErrLong", laid_liaison_api_ErrLong), ("liaison/api.ErrForm", laid_liaison_api_ErrForm), ("liaison/api.ErrCheck", laid_liaison_api_ErrCheck), ("liaison/api.ErrFull", laid_liaison_api_ErrFull), ("liaison/api.ErrPower", laid_liaison_api_ErrPower), ("liaison/api.ErrNone", laid_liaison_api_ErrNone), ("liaison/api.ErrState", laid_liaison_api_ErrState), ("liaison/api.ErrTwice", laid_liaison_api_ErrTwice), ("liaison/api.ErrDepth", laid_liaison_api_ErrDepth), ("liaison/api.ErrExpired", laid_liaison_api_ErrExpired), ("liaison/api.ErrPanic", laid_liaison_api_ErrPanic), ("liaison/api.ErrProtocol", laid_liaison_api_ErrProtocol)], narrowed := true }
def LeadDirectsUptoSaid : Prop := leadDirectsUptoRow.holds Tryz.pinned (OpenSpec.upto leadDirectsSpec)

/-- 'liaisonlaw17.LeadOnce', WHERE WHAT IT READS IS OF BULK AT MOST 1048576: true; the input reads as it did. -/
def leadOnceUptoRow : OpenClaim := { program := "ytlmlmhmhgdjhnaagreatdoor", sum := "ec9517f37e34cf558809567122eb30b2baa15dbb0c0108d7f1af0aff4e707237", func := "liaison/liaisonlaw17.LeadOnce", spec := "leadOnce", inPlace := ["internal/reflectlite.TypeOf", "math.Float64frombits", "math.Float64bits"], unfollowed := true, recurses := true, named := ["liaison/api.ErrRange", "liaison/api.ErrForm", "liaison/api.ErrState", "internal/strconv.uint64pow10", "math/bits.deBruijn32tab", "math/bits.deBruijn64tab", "liaison/api.ErrPanic", "liaison/api.ErrShort", "liaison/api.ErrLong", "liaison/api.ErrCheck", "liaison/api.ErrFull", "liaison/api.ErrPower", "liaison/api.ErrNone", "liaison/api.ErrTwice", "liaison/api.ErrDepth", "liaison/api.ErrExpired", "liaison/api.ErrProtocol"], apart := false, laid := [("math/bits.deBruijn32tab", laid_math_bits_deBruijn32tab), ("math/bits.deBruijn64tab", laid_math_bits_deBruijn64tab), ("internal/strconv.uint64pow10", laid_internal_strconv_uint64pow10), ("liaison/api.ErrRange", laid_liaison_api_ErrRange), ("liaison/api.ErrShort", laid_liaison_api_ErrShort), ("liaison/api.ErrLong", laid_liaison_api_ErrLong), ("liaison/api.ErrForm", laid_liaison_api_ErrForm), ("liaison/api.ErrCheck", laid_liaison_api_ErrCheck), ("liaison/api.ErrFull", laid_liaison_api_ErrFull), ("liaison/api.ErrPower", laid_liaison_api_ErrPower), ("liaison/api.ErrNone", laid_liaison_api_ErrNone), ("liaison/api.ErrState", laid_liaison_api_ErrState), ("liaison/api.ErrTwice", laid_liaison_api_ErrTwice), ("liaison/api.ErrDepth", laid_liaison_api_ErrDepth), ("liaison/api.ErrExpired", laid_liaison_api_ErrExpired), ("liaison/api.ErrPanic", laid_liaison_api_ErrPanic), ("liaison/api.ErrProtocol", laid_liaison_api_ErrProtocol)], narrowed := true }
def LeadOnceUptoSaid : Prop := leadOnceUptoRow.holds Tryz.pinned (OpenSpec.upto leadOnceSpec)

/-- 'liaisonlaw17.LeadAnswers', WHERE WHAT IT READS IS OF BULK AT MOST 1048576: true; the input reads as it did. -/
def leadAnswersUptoRow : OpenClaim := { program := "ytlmlmhmhgdjhnaagreatdoor", sum := "ec9517f37e34cf558809567122eb30b2baa15dbb0c0108d7f1af0aff4e707237", func := "liaison/liaisonlaw17.LeadAnswers", spec := "leadAnswers", inPlace := ["internal/reflectlite.TypeOf", "math.Float64frombits", "math.Float64bits"], unfollowed := true, recurses := true, named := ["liaison/api.ErrRange", "liaison/api.ErrForm", "liaison/api.ErrState", "internal/strconv.uint64pow10", "math/bits.deBruijn32tab", "math/bits.deBruijn64tab", "liaison/api.ErrPanic", "liaison/api.ErrShort", "liaison/api.ErrLong", "liaison/api.ErrCheck", "liaison/api.ErrFull", "liaison/api.ErrPower", "liaison/api.ErrNone", "liaison/api.ErrTwice", "liaison/api.ErrDepth", "liaison/api.ErrExpired", "liaison/api.ErrProtocol"], apart := false, laid := [("math/bits.deBruijn32tab", laid_math_bits_deBruijn32tab), ("math/bits.deBruijn64tab", laid_math_bits_deBruijn64tab), ("internal/strconv.uint64pow10", laid_internal_strconv_uint64pow10), ("liaison/api.ErrRange", laid_liaison_api_ErrRange), ("liaison/api.ErrShort", laid_liaison_api_ErrShort), ("liaison/api.ErrLong", laid_liaison_api_ErrLong), ("liaison/api.ErrForm", laid_liaison_api_ErrForm), ("liaison/api.ErrCheck", laid_liaison_api_ErrCheck), ("liaison/api.ErrFull", laid_liaison_api_ErrFull), ("liaison/api.ErrPower", laid_liaison_api_ErrPower), ("liaison/api.ErrNone", laid_liaison_api_ErrNone), ("liaison/api.ErrState", laid_liaison_api_ErrState), ("liaison/api.ErrTwice", laid_liaison_api_ErrTwice), ("liaison/api.ErrDepth", laid_liaison_api_ErrDepth), ("liaison/api.ErrExpired", laid_liaison_api_ErrExpired), ("liaison/api.ErrPanic", laid_liaison_api_ErrPanic), ("liaison/api.ErrProtocol", laid_liaison_api_ErrProtocol)], narrowed := true }
def LeadAnswersUptoSaid : Prop := leadAnswersUptoRow.holds Tryz.pinned (OpenSpec.upto leadAnswersSpec)

end Rows
end Go.Proofs.YtlmlmhmhgdjhnaaGreatDoor
