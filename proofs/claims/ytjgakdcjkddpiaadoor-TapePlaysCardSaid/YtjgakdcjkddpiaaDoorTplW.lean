/-
  THE WALK OF TapePlays (own work).
-/
import Derived.Test.YtjgakdcjkddpiaaDoorRows
import Derived.Test.YtjgakdcjkddpiaaDoorLaidT
import Derived.Test.YtjgakdcjkddpiaaDoorTapT
import Derived.Lib.SmallJoins
import Derived.WideKeyPair
import Derived.Test.YtjgakdcjkddpiaaDoorPla6
namespace Go.Proofs.YtjgakdcjkddpiaaDoor
open Go.RowKit

theorem tapePlays_walk (r : Int) (v : Value) (os : List OpL) (W : World) (kr : -9223372036854775808 ≤ r ∧ r ≤ 9223372036854775807) (k1 : SlO v os W) (_k2 : os.length ≤ maxLen) (hL : laidMetH Tryd.prog Rows.tapePlaysRow.laid W) :
    Calls Tryd.prog 3 #[.int .i64 r, v] W fun e w' => e = .returned (.bool true) ∧ Below W.heap.size W w' := by
  obtain ⟨ads, V⟩ := st_of (l := Rows.tapePlaysRow.laid) (by kernel_rfl) (by kernel_rfl) hL
  obtain ⟨R, C⟩ := tapC_of ads W (E3.of_st V)
  exact plays_any C V r kr.1 kr.2 v os k1

end Go.Proofs.YtjgakdcjkddpiaaDoor
