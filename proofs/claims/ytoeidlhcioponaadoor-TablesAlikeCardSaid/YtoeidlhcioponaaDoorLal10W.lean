/-
  THE WALK OF TablesAlike (own work).
-/
import Derived.Test.YtoeidlhcioponaaDoorRows
import Derived.Test.YtoeidlhcioponaaDoorLaidE
import Derived.Test.YtoeidlhcioponaaDoorTabX
import Derived.Test.YtoeidlhcioponaaDoorTalV
namespace Go.Proofs.YtoeidlhcioponaaDoor
open Go.RowKit

theorem tablesAlike_walk (e k s : Int) (W : World) (ke : -9223372036854775808 ≤ e ∧ e ≤ 9223372036854775807) (kk : -9223372036854775808 ≤ k ∧ k ≤ 9223372036854775807) (ks : -9223372036854775808 ≤ s ∧ s ≤ 9223372036854775807) (hL : laidMetH Tryd.prog Rows.tablesAlikeRow.laid W) :
    Calls Tryd.prog 9 #[.int .i64 e, .int .i64 k, .int .i64 s] W fun e w' => e = .returned (.bool true) ∧ Below W.heap.size W w' := by
  obtain ⟨ads, E⟩ := ep_of_laid [0, 3, 13] (by decide) (l := Rows.tablesAlikeRow.laid) (by kernel_rfl) (by kernel_rfl) hL
  have C := tabC_of ads W E
  exact talike_any ads e k s ke kk ks W C

end Go.Proofs.YtoeidlhcioponaaDoor
