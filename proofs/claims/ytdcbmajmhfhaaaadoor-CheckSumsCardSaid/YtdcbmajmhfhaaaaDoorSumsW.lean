/-
  THE WALK OF CheckSums (own work).
-/
import Derived.Test.YtdcbmajmhfhaaaaDoorRows
import Derived.Test.YtdcbmajmhfhaaaaDoorSumsV
namespace Go.Proofs.YtdcbmajmhfhaaaaDoor
open Go.RowKit

theorem checkSums_walk (v : Value) (bss : List (List Int)) (m : Int) (W : World) (k1 : SlBB v bss W) (_k2 : bss.length ≤ maxLen) (km : 0 ≤ m ∧ m ≤ 255) (hL : laidMetH Tryd.prog Rows.checkSumsRow.laid W) :
    Calls Tryd.prog 3 #[v, .int .u8 m] W fun e w' => e = .returned (.bool true) ∧ Below W.heap.size W w' := by
  have ht := tb_of_1 (l := Rows.checkSumsRow.laid) rfl hL
  by_cases hl : bss.length ≤ 20
  · exact sums_ok v bss hl m.toNat (by omega) m (by omega) W ht k1
  · obtain ⟨a, cap, rfl⟩ := k1.form
    exact sums_long a _ cap m (by omega) W ht

end Go.Proofs.YtdcbmajmhfhaaaaDoor
