/-
  THE WALK OF TapePower (own work).
-/
import Derived.Test.YtjgakdcjkddpiaaDoorRows
import Derived.Test.YtjgakdcjkddpiaaDoorLaidT
import Derived.Test.YtjgakdcjkddpiaaDoorTapT
import Derived.Lib.SmallJoins
import Derived.WideKeyPair
import Derived.Test.YtjgakdcjkddpiaaDoorPow6
namespace Go.Proofs.YtjgakdcjkddpiaaDoor
open Go.RowKit

theorem tapePower_walk (l n : Int) (W : World) (_kl : -9223372036854775808 ≤ l ∧ l ≤ 9223372036854775807) (_kn : -9223372036854775808 ≤ n ∧ n ≤ 9223372036854775807) (hL : laidMetH Tryd.prog Rows.tapePowerRow.laid W) :
    Calls Tryd.prog 5 #[.int .i64 l, .int .i64 n] W fun e w' => e = .returned (.bool true) ∧ Below W.heap.size W w' := by
  obtain ⟨ads, V⟩ := st_of (l := Rows.tapePowerRow.laid) (by kernel_rfl) (by kernel_rfl) hL
  obtain ⟨R, C⟩ := tapC_of ads W (E3.of_st V)
  exact power_any C V l n

end Go.Proofs.YtjgakdcjkddpiaaDoor
