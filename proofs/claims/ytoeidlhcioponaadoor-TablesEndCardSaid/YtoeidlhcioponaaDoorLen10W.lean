/-
  THE WALK OF TablesEnd (own work).
-/
import Derived.Test.YtoeidlhcioponaaDoorRows
import Derived.Test.YtoeidlhcioponaaDoorLaidE
import Derived.Test.YtoeidlhcioponaaDoorTabX
import Derived.Test.YtoeidlhcioponaaDoorTenV
namespace Go.Proofs.YtoeidlhcioponaaDoor
open Go.RowKit

theorem tablesEnd_walk (a0 a1 s : Int) (W : World) (ka0 : -9223372036854775808 ≤ a0 ∧ a0 ≤ 9223372036854775807) (ka1 : -9223372036854775808 ≤ a1 ∧ a1 ≤ 9223372036854775807) (_ks : -9223372036854775808 ≤ s ∧ s ≤ 9223372036854775807) (hL : laidMetH Tryd.prog Rows.tablesEndRow.laid W) :
    Calls Tryd.prog 7 #[.agg #[.int .i64 a0, .int .i64 a1], .int .i64 s] W fun e w' => e = .returned (.bool true) ∧ Below W.heap.size W w' := by
  obtain ⟨ads, E⟩ := ep_of_laid [0, 3, 8, 13] (by decide) (l := Rows.tablesEndRow.laid) (by kernel_rfl) (by kernel_rfl) hL
  have C := tabC_of ads W (E.sub (by decide))
  have S := tabS_of ads W E
  exact tend_any ads a0 a1 s ka0 ka1 W C S

end Go.Proofs.YtoeidlhcioponaaDoor
