/-
  THE WALK OF IdsBack (own work).
-/
import Derived.Test.YtjilfkfhnbhjiaaDoorRows
import Derived.Test.YtjilfkfhnbhjiaaDoorLaidI
import Derived.Test.YtjilfkfhnbhjiaaDoorIdsR
import Derived.Lib.SmallJoins
import Derived.ChangeMaps5
import Derived.WideKeyPair
import Derived.Test.YtjilfkfhnbhjiaaDoorBackV
namespace Go.Proofs.YtjilfkfhnbhjiaaDoor
open Go.RowKit

theorem idsBack_walk (a0 a1 r p : Int) (W : World) (ka0 : -9223372036854775808 ≤ a0 ∧ a0 ≤ 9223372036854775807) (ka1 : -9223372036854775808 ≤ a1 ∧ a1 ≤ 9223372036854775807) (kr : -9223372036854775808 ≤ r ∧ r ≤ 9223372036854775807) (kp : -9223372036854775808 ≤ p ∧ p ≤ 9223372036854775807) (hL : laidMetH Tryd.prog Rows.idsBackRow.laid W) :
    Calls Tryd.prog 5 #[.agg #[.int .i64 a0, .int .i64 a1], .int .i64 r, .int .i64 p] W fun e w' => e = .returned (.bool true) ∧ Below W.heap.size W w' := by
  obtain ⟨⟨ads, V⟩, T⟩ := st_tab_of (l := Rows.idsBackRow.laid) (by kernel_rfl) (by kernel_rfl) (by kernel_rfl) hL
  exact back_any ads a0 a1 r p ka0 ka1 kr kp W V (idsC_of ads W V T)

end Go.Proofs.YtjilfkfhnbhjiaaDoor
