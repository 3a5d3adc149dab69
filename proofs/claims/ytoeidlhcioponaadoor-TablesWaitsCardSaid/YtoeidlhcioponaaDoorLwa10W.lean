/-
  THE WALK OF TablesWaits (own work).
-/
import Derived.Test.YtoeidlhcioponaaDoorRows
import Derived.Test.YtoeidlhcioponaaDoorLaidE
import Derived.Test.YtoeidlhcioponaaDoorTabX
import Derived.Test.YtoeidlhcioponaaDoorTwaV
namespace Go.Proofs.YtoeidlhcioponaaDoor
open Go.RowKit

theorem tablesWaits_walk (a0 a1 s : Int) (W : World) (ka0 : -9223372036854775808 ≤ a0 ∧ a0 ≤ 9223372036854775807) (ka1 : -9223372036854775808 ≤ a1 ∧ a1 ≤ 9223372036854775807) (ks : -9223372036854775808 ≤ s ∧ s ≤ 9223372036854775807) (hL : laidMetH Tryd.prog Rows.tablesWaitsRow.laid W) :
    Calls Tryd.prog 5 #[.agg #[.int .i64 a0, .int .i64 a1], .int .i64 s] W fun e w' => e = .returned (.bool true) ∧ Below W.heap.size W w' := by
  obtain ⟨ads, V⟩ := st_of_laid (l := Rows.tablesWaitsRow.laid) (by kernel_rfl) (by kernel_rfl) hL
  have E : EP [0, 3, 8, 13] ads W := ep_of_st V (by decide)
  have C := tabC_of ads W (E.sub (by decide))
  exact twaits_any ads a0 a1 s ka0 ka1 ks W V C

end Go.Proofs.YtoeidlhcioponaaDoor
