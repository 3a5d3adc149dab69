/-
  THE WALK OF JournalCompacts (own work).
-/
import Derived.Test.YtpehmkglkjlmfaaDoorRows
import Derived.Test.YtpehmkglkjlmfaaDoorLaidJ
import Derived.Test.YtpehmkglkjlmfaaDoorTapT
import Derived.Test.YtpehmkglkjlmfaaDoorJoM
import Derived.Test.YtpehmkglkjlmfaaDoorSlJ
import Derived.Test.YtpehmkglkjlmfaaDoorCpcV
namespace Go.Proofs.YtpehmkglkjlmfaaDoor
open Go.RowKit

theorem journalCompacts_walk (v : Value) (fs : List (List Int)) (v2 : Value) (ss : List (List Int)) (n : Int) (W : World) (k1 : SlBB v fs W) (_k2 : fs.length ≤ maxLen) (j1 : SlBB v2 ss W) (_j2 : ss.length ≤ maxLen) (_kn : -9223372036854775808 ≤ n ∧ n ≤ 9223372036854775807) (hL : laidMetH Tryd.prog Rows.journalCompactsRow.laid W) :
    Calls Tryd.prog 6 #[v, v2, .int .i64 n] W fun e w' => e = .returned (.bool true) ∧ Below W.heap.size W w' := by
  obtain ⟨ads, V, E⟩ := ej_of (l := Rows.journalCompactsRow.laid) (by kernel_rfl) (by kernel_rfl) (by kernel_rfl) hL
  have T := tapC_R ads W E.e3
  obtain ⟨J, C⟩ := jouC_of ads W E T (bytesO_of W)
  exact comps_any T C V v v2 fs ss k1 j1 n

end Go.Proofs.YtpehmkglkjlmfaaDoor
