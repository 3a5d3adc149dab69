/-
  FROM A ROW's LIST OF VARIABLES TO PACKAGE check's TABLE (own work).
-/
import Derived.Test.YtpehmkglkjlmfaaDoorFrame
import Derived.Test.YtpehmkglkjlmfaaDoorNextC
import Derived.MakeChecks
import Derived.LaidSub
namespace Go.Proofs.YtpehmkglkjlmfaaDoor
open Go.RowKit

def tabZ : List Int := (List.range 16).map fun i => ((tab i : Nat) : Int)
theorem tabZ_at : ∀ i, i < 16 → tabZ.getD i 0 = ((tab i : Nat) : Int) := by decide
def tabD : String × DataW Unit := ("liaison/check.table", Lib.tabData .u32 tabZ)

theorem tb_of {W : World} (h : laidMet Tryd.prog [tabD] W) : Tb W := by
  obtain ⟨n, e, t, hty, ht, he, hce, hct⟩ : ∃ n e t, (Tryd.prog.globals[14]?).map (·.type) = some t ∧ Tryd.prog.underlying t = some (.array n e) ∧ Tryd.prog.underlying e = some (.int .u32) ∧ Tryd.prog.cellsOf e = 1 ∧ Tryd.prog.cellsOf t = n :=
    ⟨16, 91, _, rfl, by kernel_rfl, by kernel_rfl, by kernel_rfl, by kernel_rfl⟩
  have hg : Tryd.prog.globalNamed "liaison/check.table" = some 14 := by kernel_rfl
  have T := Lib.tabIs_of_head hg hty ht he hce hct h
  intro i hi
  rw [← tabZ_at i hi]
  exact T.cell hg i hi
end Go.Proofs.YtpehmkglkjlmfaaDoor
