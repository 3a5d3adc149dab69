/-
  THE WALK OF JournalPlays (own work).
-/
import Derived.Test.YtpehmkglkjlmfaaDoorRows
import Derived.Test.YtpehmkglkjlmfaaDoorLaidJ
import Derived.Test.YtpehmkglkjlmfaaDoorTapT
import Derived.Test.YtpehmkglkjlmfaaDoorJoM
import Derived.Test.YtpehmkglkjlmfaaDoorSlJ
import Derived.Test.YtpehmkglkjlmfaaDoorPla7
namespace Go.Proofs.YtpehmkglkjlmfaaDoor
open Go.RowKit

theorem journalPlays_walk (r : Int) (v : Value) (os : List OpJ) (W : World) (_kr : -9223372036854775808 ≤ r ∧ r ≤ 9223372036854775807) (k1 : SlJ v os W) (_k2 : os.length ≤ maxLen) (hL : laidMetH Tryd.prog Rows.journalPlaysRow.laid W) :
    Calls Tryd.prog 3 #[.int .i64 r, v] W fun e w' => e = .returned (.bool true) ∧ Below W.heap.size W w' := by
  obtain ⟨ads, V, E⟩ := ej_of (l := Rows.journalPlaysRow.laid) (by kernel_rfl) (by kernel_rfl) (by kernel_rfl) hL
  have T := tapC_R ads W E.e3
  obtain ⟨J, C⟩ := jouC_of ads W E T (bytesO_of W)
  exact plays_any T C V r v os k1

end Go.Proofs.YtpehmkglkjlmfaaDoor
