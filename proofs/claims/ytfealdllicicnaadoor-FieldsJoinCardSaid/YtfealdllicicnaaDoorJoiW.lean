/-
  THE WALK OF FieldsJoin (own work).
-/
import Derived.Test.YtfealdllicicnaaDoorRows
import Derived.Test.YtfealdllicicnaaDoorJoinX
import Derived.Test.YtfealdllicicnaaDoorLaidF
namespace Go.Proofs.YtfealdllicicnaaDoor
open Go.RowKit

theorem fieldsJoin_walk (v : Value) (fs : List (Int × List Int)) (tag : Int) (W : World) (k1 : SlQ v fs W) (_k2 : fs.length ≤ maxLen) (_kt : -9223372036854775808 ≤ tag ∧ tag ≤ 9223372036854775807) (hL : laidMetH Tryd.prog Rows.fieldsJoinRow.laid W) :
    Calls Tryd.prog 3 #[v, .int .i64 tag] W fun e w' => e = .returned (.bool true) ∧ Below W.heap.size W w' := by
  obtain ⟨ads, V⟩ := st_of_14 (l := Rows.fieldsJoinRow.laid) rfl hL
  obtain ⟨a, cap, rfl⟩ := k1.form
  by_cases hb : 40 < fs.length ∨ wideQ fs = true
  · exact joinl_big ads a cap fs _ rfl tag W V k1 hb
  · have hw := wide_le (fun h => hb (.inr h))
    cases hr : runQ 0 0 fs with
    | true => exact joinl_ok ads a cap fs _ rfl tag W V k1 hr
    | false => exact joinl_bad ads a cap fs _ rfl (by omega) hw tag W V k1 hr

end Go.Proofs.YtfealdllicicnaaDoor
