/-
  FROM A ROW's LIST OF VARIABLES TO package api's ERRORS (own work).
-/
import Derived.Test.YtfealdllicicnaaDoorFrame
import Derived.Test.YtfealdllicicnaaDoorPvE
import Derived.MakeChecks
import Derived.Stop.LaidErr
namespace Go.Proofs.YtfealdllicicnaaDoor
open Go.RowKit

theorem st_of_14 {W : World} {l : List (String × DataW Unit)} (hl : l = text14.map sentD) (h : laidMetH Tryd.prog l W) : ∃ ads, St ads W := by
  subst hl
  rw [MakeChecks.laidMetH_plain _ _ _ (by kernel_rfl)] at h
  exact errs_of_laid text14 gs14 rfl (by
    intro i hi hi'
    have hi14 : i < 14 := hi
    match i, hi14 with
    | 0, _ | 1, _ | 2, _ | 3, _ | 4, _ | 5, _ | 6, _ | 7, _ | 8, _ | 9, _ | 10, _ | 11, _ | 12, _ | 13, _ => exact ⟨by kernel_rfl, by kernel_rfl⟩) h
end Go.Proofs.YtfealdllicicnaaDoor
