/-
  FROM A ROW's LIST OF VARIABLES TO THE THREE ERRORS THAT PACKAGE tape ANSWERS (own work).
-/
import Derived.Test.YtpehmkglkjlmfaaDoorFrame
import Derived.Test.YtpehmkglkjlmfaaDoorErrI
import Derived.MakeChecks
import Derived.Stop.LaidErr
import Derived.LaidSub
namespace Go.Proofs.YtpehmkglkjlmfaaDoor
open Go.RowKit

/-- ErrRange, ErrFull, ErrPower lie where they do. -/
structure E3 (ads : List Addr) (W : World) : Prop where
  len : ads.length = 14
  c1 : W.cell? ⟨1, 0, none⟩ = some (errI ads 1)
  c6 : W.cell? ⟨5, 0, none⟩ = some (errI ads 6)
  c7 : W.cell? ⟨6, 0, none⟩ = some (errI ads 7)
theorem E3.of_st {ads : List Addr} {W : World} (V : St ads W) : E3 ads W := by
  have h14 : ads.length = 14 := V.len
  refine ⟨h14, ?_, ?_, ?_⟩
  · rw [show (1 : Int) = ((0 : Nat) : Int) + 1 from rfl, errI_at ads 0 (by omega)]
    exact V.cell 0 (by decide)
  · rw [show (6 : Int) = ((5 : Nat) : Int) + 1 from rfl, errI_at ads 5 (by omega)]
    exact V.cell 5 (by decide)
  · rw [show (7 : Int) = ((6 : Nat) : Int) + 1 from rfl, errI_at ads 6 (by omega)]
    exact V.cell 6 (by decide)
def text3 : List (String × List UInt8) := [text14[0]'(by decide), text14[5]'(by decide), text14[6]'(by decide)]
def gs3 : List Nat := [1, 5, 6]
def api3 (x : String × DataW Unit) : Bool := text3.any fun y => y.1 == x.1
theorem e3_of {W : World} {l : List (String × DataW Unit)} (h1 : l.filter api3 = text3.map sentD) (hp : (l.all fun x => x.2.handleName?.isNone) = true) (h : laidMetH Tryd.prog l W) : ∃ ads, E3 ads W := by
  rw [MakeChecks.laidMetH_plain _ _ _ hp] at h
  have g1 := h.filter api3
  rw [h1] at g1
  obtain ⟨b, E⟩ := errs_of_laid text3 gs3 rfl (by
    intro i hi hi'
    have hi3 : i < 3 := hi
    match i, hi3 with
    | 0, _ | 1, _ | 2, _ => exact ⟨by kernel_rfl, by kernel_rfl⟩) g1
  have hl : b.length = 3 := E.len
  match b, hl, E with
  | [b0, b1, b2], _, E =>
    refine ⟨[b0, b0, b0, b0, b0, b1, b2, b0, b0, b0, b0, b0, b0, b0], rfl, ?_, ?_, ?_⟩
    · exact E.cell 0 (by decide)
    · exact E.cell 1 (by decide)
    · exact E.cell 2 (by decide)
/-- all of package api's errors -/
def apiY (x : String × DataW Unit) : Bool := text14.any fun y => y.1 == x.1
theorem st_of {W : World} {l : List (String × DataW Unit)} (h1 : l.filter apiY = text14.map sentD) (hp : (l.all fun x => x.2.handleName?.isNone) = true) (h : laidMetH Tryd.prog l W) : ∃ ads, St ads W := by
  rw [MakeChecks.laidMetH_plain _ _ _ hp] at h
  have g1 := h.filter apiY
  rw [h1] at g1
  exact errs_of_laid text14 gs14 rfl (by
    intro i hi hi'
    have hi14 : i < 14 := hi
    match i, hi14 with
    | 0, _ | 1, _ | 2, _ | 3, _ | 4, _ | 5, _ | 6, _ | 7, _ | 8, _ | 9, _ | 10, _ | 11, _ | 12, _ | 13, _ => exact ⟨by kernel_rfl, by kernel_rfl⟩) g1
end Go.Proofs.YtpehmkglkjlmfaaDoor
