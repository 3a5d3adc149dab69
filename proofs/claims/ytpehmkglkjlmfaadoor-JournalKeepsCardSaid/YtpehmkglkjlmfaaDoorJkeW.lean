/-
  THE WALK OF JournalKeeps (own work).
-/
import Derived.Test.YtpehmkglkjlmfaaDoorRows
import Derived.Test.YtpehmkglkjlmfaaDoorLaidJ
import Derived.Test.YtpehmkglkjlmfaaDoorTapT
import Derived.Test.YtpehmkglkjlmfaaDoorJoM
import Derived.Test.YtpehmkglkjlmfaaDoorSlJ
import Derived.Test.YtpehmkglkjlmfaaDoorKepV
namespace Go.Proofs.YtpehmkglkjlmfaaDoor
open Go.RowKit

theorem journalKeeps_walk (v : Value) (fs : List (List Int)) (v2 : Value) (ss : List (List Int)) (n : Int) (W : World) (k1 : SlBB v fs W) (_k2 : fs.length ≤ maxLen) (j1 : SlBB v2 ss W) (_j2 : ss.length ≤ maxLen) (kn : -9223372036854775808 ≤ n ∧ n ≤ 9223372036854775807) (hL : laidMetH Tryd.prog Rows.journalKeepsRow.laid W) :
    Calls Tryd.prog 5 #[v, v2, .int .i64 n] W fun e w' => e = .returned (.bool true) ∧ Below W.heap.size W w' := by
  obtain ⟨ads, V, E⟩ := ej_of (l := Rows.journalKeepsRow.laid) (by kernel_rfl) (by kernel_rfl) (by kernel_rfl) hL
  have T := tapC_R ads W E.e3
  obtain ⟨J, C⟩ := jouC_of ads W E T (bytesO_of W)
  exact keeps_any T C V v v2 fs ss k1 j1 n kn.1 kn.2

end Go.Proofs.YtpehmkglkjlmfaaDoor
