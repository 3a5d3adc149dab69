/-
  THE WALK OF NetMoves (own work).
-/
import Derived.Test.YtjffkfcokgcenaaDoorRows
import Derived.Test.YtjffkfcokgcenaaDoorLaidE
import Derived.Test.YtjffkfcokgcenaaDoorNtX
import Derived.Test.YtjffkfcokgcenaaDoorNetP
import Derived.Test.YtjffkfcokgcenaaDoorSlBB
namespace Go.Proofs.YtjffkfcokgcenaaDoor
open Go.RowKit

theorem netMoves_walk (v0 : Value) (r : List (List Int)) (x y : Int) (W : World) (kra : SlBB v0 r W) (_krb : r.length ≤ maxLen) (_kx : -9223372036854775808 ≤ x ∧ x ≤ 9223372036854775807) (_ky : -9223372036854775808 ≤ y ∧ y ≤ 9223372036854775807) (hL : laidMetH Tryd.prog Rows.netMovesRow.laid W) :
    Calls Tryd.prog 6 #[v0, .int .i64 x, .int .i64 y] W fun e w' => e = .returned (.bool true) ∧ Below W.heap.size W w' := by
  obtain ⟨ads, E⟩ := ep_of_laid [0, 2, 5] (by decide) (l := Rows.netMovesRow.laid) (by kernel_rfl) (by kernel_rfl) hL
  have C := netC_of ads W E
  exact moves_any x y v0 r W kra C

end Go.Proofs.YtjffkfcokgcenaaDoor
