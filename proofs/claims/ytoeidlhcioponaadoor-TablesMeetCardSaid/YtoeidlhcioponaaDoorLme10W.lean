/-
  THE WALK OF TablesMeet (own work).
-/
import Derived.Test.YtoeidlhcioponaaDoorRows
import Derived.Test.YtoeidlhcioponaaDoorLaidE
import Derived.Test.YtoeidlhcioponaaDoorTabX
import Derived.Test.YtoeidlhcioponaaDoorTmeV
namespace Go.Proofs.YtoeidlhcioponaaDoor
open Go.RowKit

theorem tablesMeet_walk (p s : Int) (W : World) (kp : -9223372036854775808 ≤ p ∧ p ≤ 9223372036854775807) (ks : -9223372036854775808 ≤ s ∧ s ≤ 9223372036854775807) (hL : laidMetH Tryd.prog Rows.tablesMeetRow.laid W) :
    Calls Tryd.prog 8 #[.int .i64 p, .int .i64 s] W fun e w' => e = .returned (.bool true) ∧ Below W.heap.size W w' := by
  obtain ⟨ads, E⟩ := ep_of_laid [0, 3, 13] (by decide) (l := Rows.tablesMeetRow.laid) (by kernel_rfl) (by kernel_rfl) hL
  have C := tabC_of ads W E
  exact tmeet_any ads p s kp ks W C

end Go.Proofs.YtoeidlhcioponaaDoor
