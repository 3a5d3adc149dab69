/-
  THE WALK OF NetPlays (own work).
-/
import Derived.Test.YtjffkfcokgcenaaDoorRows
import Derived.Test.YtjffkfcokgcenaaDoorLaidE
import Derived.Test.YtjffkfcokgcenaaDoorNtX
import Derived.Test.YtjffkfcokgcenaaDoorNetT
namespace Go.Proofs.YtjffkfcokgcenaaDoor
open Go.RowKit

theorem netPlays_walk (x : Int) (v1 : Value) (o : List OpP) (W : World) (_kx : -9223372036854775808 ≤ x ∧ x ≤ 9223372036854775807) (koa : SlP v1 o W) (_kob : o.length ≤ maxLen) (hL : laidMetH Tryd.prog Rows.netPlaysRow.laid W) :
    Calls Tryd.prog 3 #[.int .i64 x, v1] W fun e w' => e = .returned (.bool true) ∧ Below W.heap.size W w' := by
  obtain ⟨ads, V⟩ := st_of_laid (l := Rows.netPlaysRow.laid) (by kernel_rfl) (by kernel_rfl) hL
  have E : EP [0, 2, 5] ads W := ep_of_st V (by decide)
  have C := netC_of ads W E
  exact plays_any x v1 o W koa V C

end Go.Proofs.YtjffkfcokgcenaaDoor
