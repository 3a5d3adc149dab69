/-
  FROM A ROW's LIST OF SENTINELS TO WHAT THE WALKS ASK (own work).
-/
import Derived.Test.YtcfjecllfghkbaaDoorFrame
import Derived.Test.YtcfjecllfghkbaaDoorNum
import Derived.MakeChecks
namespace Go.Proofs.YtcfjecllfghkbaaDoor
open Go.RowKit

theorem errs14_of_laid {W : World} {l : List (String × DataW Unit)} (hl : l = text14.map sentD) (h : laidMetH Tryd.prog l W) : ∃ ads, Errs gs14 ads W := by
  subst hl
  rw [MakeChecks.laidMetH_plain _ _ _ (by kernel_rfl)] at h
  refine errs_of_laid text14 gs14 rfl ?_ h
  intro i hi hi'
  have hi14 : i < 14 := hi
  match i, hi14 with
  | 0, _ | 1, _ | 2, _ | 3, _ | 4, _ | 5, _ | 6, _ | 7, _ | 8, _ | 9, _ | 10, _ | 11, _ | 12, _ | 13, _ => exact ⟨by kernel_rfl, by kernel_rfl⟩

def gs2 : List Nat := [1, 0]
theorem errs2_of_laid {W : World} {l : List (String × DataW Unit)} (hl : l = [text14[0], text14[3]].map sentD) (h : laidMetH Tryd.prog l W) : ∃ ads, Errs gs2 ads W := by
  subst hl
  rw [MakeChecks.laidMetH_plain _ _ _ (by kernel_rfl)] at h
  refine errs_of_laid [text14[0], text14[3]] gs2 rfl ?_ h
  intro i hi hi'
  have hi2 : i < 2 := hi
  match i, hi2 with
  | 0, _ | 1, _ => exact ⟨by kernel_rfl, by kernel_rfl⟩
end Go.Proofs.YtcfjecllfghkbaaDoor
