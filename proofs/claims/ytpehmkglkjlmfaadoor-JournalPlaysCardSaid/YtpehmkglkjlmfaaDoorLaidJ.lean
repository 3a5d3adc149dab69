/-
  FROM A ROW's LIST OF VARIABLES TO WHAT PACKAGE journal ANSWERS BY (own work): errors, the table of the sums.
-/
import Derived.Test.YtpehmkglkjlmfaaDoorLaidT
import Derived.Test.YtpehmkglkjlmfaaDoorLaidB
namespace Go.Proofs.YtpehmkglkjlmfaaDoor
open Go.RowKit

/-- the errors that journals and their tapes answer, and the table, lie where they do -/
structure EJ (ads : List Addr) (W : World) : Prop where
  e3 : E3 ads W
  c2 : W.cell? ⟨2, 0, none⟩ = some (errI ads 2)
  c4 : W.cell? ⟨0, 0, none⟩ = some (errI ads 4)
  c5 : W.cell? ⟨4, 0, none⟩ = some (errI ads 5)
  c9 : W.cell? ⟨8, 0, none⟩ = some (errI ads 9)
  tb : Tb W
  two : ∃ a6 a7 c6 t6 c7 t7, ads[5]? = some a6 ∧ ads[6]? = some a7 ∧ a6 ≠ a7 ∧ W.heap[a6.block]? = some (.cells c6 t6 (0, 0)) ∧ W.heap[a7.block]? = some (.cells c7 t7 (0, 0))
theorem two_of {W : World} {l : List Addr} (h : l.Nodup) (hr : ∀ a ∈ l, ∃ c t, W.heap[a.block]? = some (.cells c t (0, 0))) {i k : Nat} (hi : i < l.length) (hk : k < l.length) (hik : i < k) :
    ∃ a6 a7 c6 t6 c7 t7, l[i]? = some a6 ∧ l[k]? = some a7 ∧ a6 ≠ a7 ∧ W.heap[a6.block]? = some (.cells c6 t6 (0, 0)) ∧ W.heap[a7.block]? = some (.cells c7 t7 (0, 0)) := by
  obtain ⟨c6, t6, h6⟩ := hr _ (List.getElem_mem hi)
  obtain ⟨c7, t7, h7⟩ := hr _ (List.getElem_mem hk)
  exact ⟨l[i], l[k], c6, t6, c7, t7, List.getElem?_eq_getElem hi, List.getElem?_eq_getElem hk, List.pairwise_iff_getElem.1 h i k hi hk hik, h6, h7⟩
/-- an error of the tape's beside ErrPower -/
theorem EJ.eq7 {ads : List Addr} {W w : World} (E : EJ ads W) (hk : Kp W w) {k : Int} (h : k = 6 ∨ k = 7) : ∃ ok o7, errI ads k = .iface 121 (.pointer ok) ∧ errI ads 7 = .iface 121 (.pointer o7) ∧
    (binOp .eql 28 (.iface 121 (.pointer ok)) (.iface 121 (.pointer o7))).run Tryd.prog w = .ok (.bool (decide (k = 7))) w := by
  obtain ⟨a6, a7, c6, t6, c7, t7, e6, e7, hne, r6, r7⟩ := E.two
  obtain ⟨i, hi, hcmp⟩ := Option.map_eq_some_iff.1 isComp
  obtain ⟨j, hj, hjs⟩ := Option.map_eq_some_iff.1 isSize
  have h7 : errI ads 7 = .iface 121 (.pointer (some a7)) := by unfold errI; rw [if_neg (by decide), show ((7 : Int) - 1).toNat = 6 from rfl, e7]
  rcases h with rfl | rfl
  · refine ⟨some a6, some a7, ?_, h7, ?_⟩
    · unfold errI; rw [if_neg (by decide), show ((6 : Int) - 1).toNat = 5 from rfl, e6]
    · exact run_eql_iface_ptr_other (P := Tryd.prog) w Tryd.underlying28 Tryd.underlying121 hi hcmp hj (by rw [hjs]; decide) hne (kp_row hk r6) (kp_row hk r7)
  · exact ⟨some a7, some a7, h7, h7, run_eql_iface_ptr_same (P := Tryd.prog) w a7 Tryd.underlying28 Tryd.underlying121 hi hcmp hj⟩
theorem EJ.of_st {ads : List Addr} {W : World} (V : St ads W) (T : Tb W) : EJ ads W := by
  have h14 : ads.length = 14 := V.len
  refine ⟨E3.of_st V, ?_, ?_, ?_, ?_, T, two_of V.nodup V.row (by omega) (by omega) (by decide)⟩
  · rw [show (2 : Int) = ((1 : Nat) : Int) + 1 from rfl, errI_at ads 1 (by omega)]
    exact V.cell 1 (by decide)
  · rw [show (4 : Int) = ((3 : Nat) : Int) + 1 from rfl, errI_at ads 3 (by omega)]
    exact V.cell 3 (by decide)
  · rw [show (5 : Int) = ((4 : Nat) : Int) + 1 from rfl, errI_at ads 4 (by omega)]
    exact V.cell 4 (by decide)
  · rw [show (9 : Int) = ((8 : Nat) : Int) + 1 from rfl, errI_at ads 8 (by omega)]
    exact V.cell 8 (by decide)
/-- a list that holds all of package api's errors, and the table -/
theorem ej_of {W : World} {l : List (String × DataW Unit)} (h1 : l.filter apiY = text14.map sentD) (h2 : l.filter (fun x => x.1 == "liaison/check.table") = [tabD]) (hp : (l.all fun x => x.2.handleName?.isNone) = true) (h : laidMetH Tryd.prog l W) : ∃ ads, St ads W ∧ EJ ads W := by
  obtain ⟨ads, V⟩ := st_of h1 hp h
  rw [MakeChecks.laidMetH_plain _ _ _ hp] at h
  have g2 := h.filter fun x => x.1 == "liaison/check.table"
  rw [h2] at g2
  exact ⟨ads, V, EJ.of_st V (tb_of g2)⟩
def text7 : List (String × List UInt8) := [text14[0]'(by decide), text14[1]'(by decide), text14[3]'(by decide), text14[4]'(by decide), text14[5]'(by decide), text14[6]'(by decide), text14[8]'(by decide)]
def gs7 : List Nat := [1, 2, 0, 4, 5, 6, 8]
def api7 (x : String × DataW Unit) : Bool := text7.any fun y => y.1 == x.1
/-- a list that holds just those seven, and the table -/
theorem ej_of7 {W : World} {l : List (String × DataW Unit)} (h1 : l.filter api7 = text7.map sentD) (h2 : l.filter (fun x => x.1 == "liaison/check.table") = [tabD]) (hp : (l.all fun x => x.2.handleName?.isNone) = true) (h : laidMetH Tryd.prog l W) : ∃ ads, EJ ads W := by
  rw [MakeChecks.laidMetH_plain _ _ _ hp] at h
  have g1 := h.filter api7
  have g2 := h.filter fun x => x.1 == "liaison/check.table"
  rw [h1] at g1
  rw [h2] at g2
  obtain ⟨b, E⟩ := errs_of_laid text7 gs7 rfl (by
    intro i hi hi'
    have hi7 : i < 7 := hi
    match i, hi7 with
    | 0, _ | 1, _ | 2, _ | 3, _ | 4, _ | 5, _ | 6, _ => exact ⟨by kernel_rfl, by kernel_rfl⟩) g1
  have hl : b.length = 7 := E.len
  match b, hl, E with
  | [b0, b1, b2, b3, b4, b5, b6], _, E =>
    refine ⟨[b0, b1, b0, b2, b3, b4, b5, b0, b6, b0, b0, b0, b0, b0], ⟨rfl, ?_, ?_, ?_⟩, ?_, ?_, ?_, ?_, tb_of g2, (two_of E.nodup E.row (i := 4) (k := 5) (by rw [E.len]; decide) (by rw [E.len]; decide) (by decide) : _)⟩
    · exact E.cell 0 (by decide)
    · exact E.cell 4 (by decide)
    · exact E.cell 5 (by decide)
    · exact E.cell 1 (by decide)
    · exact E.cell 2 (by decide)
    · exact E.cell 3 (by decide)
    · exact E.cell 6 (by decide)
end Go.Proofs.YtpehmkglkjlmfaaDoor
