/-
  THE WALK OF MovesWork (own work).
-/
import Derived.Test.YtghjnhdepeiloaaDoorRows
import Derived.Test.YtghjnhdepeiloaaDoorLaidE
import Derived.Test.YtghjnhdepeiloaaDoorMpX
import Derived.Test.YtghjnhdepeiloaaDoorOpZ
import Derived.Test.YtghjnhdepeiloaaDoorMvJ
namespace Go.Proofs.YtghjnhdepeiloaaDoor
open Go.RowKit

theorem movesWork_walk (p : Int) (v1 : Value) (o : List OpD) (W : World) (kp : -9223372036854775808 ≤ p ∧ p ≤ 9223372036854775807) (koa : SlM v1 o W) (_kob : o.length ≤ maxLen) (hL : laidMetH Tryd.prog Rows.movesWorkRow.laid W) :
    Calls Tryd.prog 6 #[.int .i64 p, v1] W fun e w' => e = .returned (.bool true) ∧ Below W.heap.size W w' := by
  obtain ⟨ads, E⟩ := ep_of_laid [0, 3, 5, 8, 13] (by decide) (l := Rows.movesWorkRow.laid) (by kernel_rfl) (by kernel_rfl) hL
  have C := movC_of ads W E
  exact work11_any p v1 o W kp koa C

end Go.Proofs.YtghjnhdepeiloaaDoor
