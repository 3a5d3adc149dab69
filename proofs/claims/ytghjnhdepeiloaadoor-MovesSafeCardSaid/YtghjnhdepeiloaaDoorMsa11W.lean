/-
  THE WALK OF MovesSafe (own work).
-/
import Derived.Test.YtghjnhdepeiloaaDoorRows
import Derived.Test.YtghjnhdepeiloaaDoorLaidE
import Derived.Test.YtghjnhdepeiloaaDoorMpX
import Derived.Test.YtghjnhdepeiloaaDoorOpZ
import Derived.Test.YtghjnhdepeiloaaDoorMvH
namespace Go.Proofs.YtghjnhdepeiloaaDoor
open Go.RowKit

theorem movesSafe_walk (p : Int) (v1 : Value) (o : List OpD) (W : World) (kp : -9223372036854775808 ≤ p ∧ p ≤ 9223372036854775807) (koa : SlM v1 o W) (_kob : o.length ≤ maxLen) (hL : laidMetH Tryd.prog Rows.movesSafeRow.laid W) :
    Calls Tryd.prog 5 #[.int .i64 p, v1] W fun e w' => e = .returned (.bool true) ∧ Below W.heap.size W w' := by
  obtain ⟨ads, E⟩ := ep_of_laid [0, 3, 5, 8, 13] (by decide) (l := Rows.movesSafeRow.laid) (by kernel_rfl) (by kernel_rfl) hL
  have C := movC_of ads W E
  exact safe_any p v1 o W kp koa C

end Go.Proofs.YtghjnhdepeiloaaDoor
