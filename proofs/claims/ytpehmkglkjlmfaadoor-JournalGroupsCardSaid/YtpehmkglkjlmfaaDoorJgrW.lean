/-
  THE WALK OF JournalGroups (own work).
-/
import Derived.Test.YtpehmkglkjlmfaaDoorRows
import Derived.Test.YtpehmkglkjlmfaaDoorLaidJ
import Derived.Test.YtpehmkglkjlmfaaDoorTapT
import Derived.Test.YtpehmkglkjlmfaaDoorJoM
import Derived.Test.YtpehmkglkjlmfaaDoorSlJ
import Derived.Test.YtpehmkglkjlmfaaDoorGroV
namespace Go.Proofs.YtpehmkglkjlmfaaDoor
open Go.RowKit

theorem journalGroups_walk (v : Value) (rs : List (List Int)) (W : World) (k1 : SlBB v rs W) (_k2 : rs.length ≤ maxLen) (hL : laidMetH Tryd.prog Rows.journalGroupsRow.laid W) :
    Calls Tryd.prog 7 #[v] W fun e w' => e = .returned (.bool true) ∧ Below W.heap.size W w' := by
  obtain ⟨ads, E⟩ := ej_of7 (l := Rows.journalGroupsRow.laid) (by kernel_rfl) (by kernel_rfl) (by kernel_rfl) hL
  have T := tapC_R ads W E.e3
  obtain ⟨J, C⟩ := jouC_of ads W E T (bytesO_of W)
  exact groups_any T C v rs k1

end Go.Proofs.YtpehmkglkjlmfaaDoor
