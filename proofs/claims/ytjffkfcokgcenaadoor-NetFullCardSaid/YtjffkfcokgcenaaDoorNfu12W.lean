/-
  THE WALK OF NetFull (own work).
-/
import Derived.Test.YtjffkfcokgcenaaDoorRows
import Derived.Test.YtjffkfcokgcenaaDoorLaidE
import Derived.Test.YtjffkfcokgcenaaDoorNtX
import Derived.Test.YtjffkfcokgcenaaDoorNetK
namespace Go.Proofs.YtjffkfcokgcenaaDoor
open Go.RowKit

theorem netFull_walk (x : Int) (W : World) (_kx : -9223372036854775808 ≤ x ∧ x ≤ 9223372036854775807) (hL : laidMetH Tryd.prog Rows.netFullRow.laid W) :
    Calls Tryd.prog 5 #[.int .i64 x] W fun e w' => e = .returned (.bool true) ∧ Below W.heap.size W w' := by
  obtain ⟨ads, V⟩ := st_of_laid (l := Rows.netFullRow.laid) (by kernel_rfl) (by kernel_rfl) hL
  have E : EP [0, 2, 5] ads W := ep_of_st V (by decide)
  have C := netC_of ads W E
  exact full_any x W V C

end Go.Proofs.YtjffkfcokgcenaaDoor
