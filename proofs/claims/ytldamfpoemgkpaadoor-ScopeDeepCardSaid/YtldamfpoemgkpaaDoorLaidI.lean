/-
  FROM A ROW's LIST OF VARIABLES TO package api's ERRORS AND strconv's TABLE OF POWERS (own work).
-/
import Derived.Test.YtldamfpoemgkpaaDoorFrame
import Derived.Test.YtldamfpoemgkpaaDoorStE
import Derived.Test.YtldamfpoemgkpaaDoorLibI
import Derived.MakeChecks
import Derived.Stop.LaidErr
import Derived.LaidSub
namespace Go.Proofs.YtldamfpoemgkpaaDoor
open Go.RowKit

def powD : String × DataW Unit := ("internal/strconv.uint64pow10", Lib.tabData .u64 Lib.pow10Tab)
theorem tab_of_laid {W : World} (h : laidMet Tryd.prog [powD] W) : Tab W := by
  obtain ⟨n, e, t, hty, ht, he, hce, hct⟩ : ∃ n e t, (Tryd.prog.globals[15]?).map (·.type) = some t ∧ Tryd.prog.underlying t = some (.array n e) ∧ Tryd.prog.underlying e = some (.int .u64) ∧ Tryd.prog.cellsOf e = 1 ∧ Tryd.prog.cellsOf t = n :=
    ⟨20, 57, _, rfl, by kernel_rfl, by kernel_rfl, by kernel_rfl, by kernel_rfl⟩
  have hg : Tryd.prog.globalNamed "internal/strconv.uint64pow10" = some 15 := by kernel_rfl
  exact Lib.tabIs_of_head hg hty ht he hce hct h
/-- is it one of package api's? -/
def apiX (x : String × DataW Unit) : Bool := text14.any fun y => y.1 == x.1
theorem st_tab_of {W : World} {l : List (String × DataW Unit)} (h1 : l.filter apiX = text14.map sentD) (h2 : l.filter (fun x => x.1 == "internal/strconv.uint64pow10") = [powD]) (hp : (l.all fun x => x.2.handleName?.isNone) = true) (h : laidMetH Tryd.prog l W) : (∃ ads, St ads W) ∧ Tab W := by
  rw [MakeChecks.laidMetH_plain _ _ _ hp] at h
  have g1 := h.filter apiX
  have g2 := h.filter fun x => x.1 == "internal/strconv.uint64pow10"
  rw [h1] at g1
  rw [h2] at g2
  exact ⟨errs_of_laid text14 gs14 rfl (by
    intro i hi hi'
    have hi14 : i < 14 := hi
    match i, hi14 with
    | 0, _ | 1, _ | 2, _ | 3, _ | 4, _ | 5, _ | 6, _ | 7, _ | 8, _ | 9, _ | 10, _ | 11, _ | 12, _ | 13, _ => exact ⟨by kernel_rfl, by kernel_rfl⟩) g1, tab_of_laid g2⟩
end Go.Proofs.YtldamfpoemgkpaaDoor
