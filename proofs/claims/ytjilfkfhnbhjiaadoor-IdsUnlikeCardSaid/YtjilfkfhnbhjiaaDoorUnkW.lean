/-
  THE WALK OF IdsUnlike (own work).
-/
import Derived.Test.YtjilfkfhnbhjiaaDoorRows
import Derived.Test.YtjilfkfhnbhjiaaDoorLaidI
import Derived.Test.YtjilfkfhnbhjiaaDoorIdsR
import Derived.Lib.SmallJoins
import Derived.ChangeMaps5
import Derived.WideKeyPair
import Derived.Test.YtjilfkfhnbhjiaaDoorUnlI
namespace Go.Proofs.YtjilfkfhnbhjiaaDoor
open Go.RowKit

theorem idsUnlike_walk (a0 a1 b0 b1 r0 r1 : Int) (W : World) (ka0 : -9223372036854775808 ≤ a0 ∧ a0 ≤ 9223372036854775807) (ka1 : -9223372036854775808 ≤ a1 ∧ a1 ≤ 9223372036854775807) (kb0 : -9223372036854775808 ≤ b0 ∧ b0 ≤ 9223372036854775807) (kb1 : -9223372036854775808 ≤ b1 ∧ b1 ≤ 9223372036854775807) (kr0 : -9223372036854775808 ≤ r0 ∧ r0 ≤ 9223372036854775807) (kr1 : -9223372036854775808 ≤ r1 ∧ r1 ≤ 9223372036854775807) (hL : laidMetH Tryd.prog Rows.idsUnlikeRow.laid W) :
    Calls Tryd.prog 6 #[.agg #[.int .i64 a0, .int .i64 a1], .agg #[.int .i64 b0, .int .i64 b1], .agg #[.int .i64 r0, .int .i64 r1]] W fun e w' => e = .returned (.bool true) ∧ Below W.heap.size W w' := by
  obtain ⟨⟨ads, V⟩, T⟩ := st_tab_of (l := Rows.idsUnlikeRow.laid) (by kernel_rfl) (by kernel_rfl) (by kernel_rfl) hL
  exact unlike_any ads a0 a1 b0 b1 r0 r1 ka0 ka1 kb0 kb1 kr0 kr1 W V (idsC_of ads W V T)

end Go.Proofs.YtjilfkfhnbhjiaaDoor
