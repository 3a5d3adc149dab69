/-
  THE WALK OF TablesLists (own work).
-/
import Derived.Test.YtoeidlhcioponaaDoorRows
import Derived.Test.YtoeidlhcioponaaDoorLaidE
import Derived.Test.YtoeidlhcioponaaDoorTabX
import Derived.Test.YtoeidlhcioponaaDoorTliV
namespace Go.Proofs.YtoeidlhcioponaaDoor
open Go.RowKit

theorem tablesLists_walk (a0 a1 : Int) (W : World) (ka0 : -9223372036854775808 ≤ a0 ∧ a0 ≤ 9223372036854775807) (ka1 : -9223372036854775808 ≤ a1 ∧ a1 ≤ 9223372036854775807) (hL : laidMetH Tryd.prog Rows.tablesListsRow.laid W) :
    Calls Tryd.prog 6 #[.agg #[.int .i64 a0, .int .i64 a1]] W fun e w' => e = .returned (.bool true) ∧ Below W.heap.size W w' := by
  obtain ⟨ads, V⟩ := st_of_laid (l := Rows.tablesListsRow.laid) (by kernel_rfl) (by kernel_rfl) hL
  have E : EP [0, 3, 8, 13] ads W := ep_of_st V (by decide)
  have C := tabC_of ads W (E.sub (by decide))
  exact tlists_any ads a0 a1 ka0 ka1 W V C

end Go.Proofs.YtoeidlhcioponaaDoor
