/-
  THE WALK OF MovesNew (own work).
-/
import Derived.Test.YtghjnhdepeiloaaDoorRows
import Derived.Test.YtghjnhdepeiloaaDoorLaidE
import Derived.Test.YtghjnhdepeiloaaDoorMpX
import Derived.Test.YtghjnhdepeiloaaDoorOpZ
import Derived.Test.YtghjnhdepeiloaaDoorMvK
namespace Go.Proofs.YtghjnhdepeiloaaDoor
open Go.RowKit

theorem movesNew_walk (p e : Int) (v2 : Value) (o : List OpD) (W : World) (kp : -9223372036854775808 ≤ p ∧ p ≤ 9223372036854775807) (ke : -9223372036854775808 ≤ e ∧ e ≤ 9223372036854775807) (koa : SlM v2 o W) (_kob : o.length ≤ maxLen) (hL : laidMetH Tryd.prog Rows.movesNewRow.laid W) :
    Calls Tryd.prog 8 #[.int .i64 p, .int .i64 e, v2] W fun e w' => e = .returned (.bool true) ∧ Below W.heap.size W w' := by
  obtain ⟨ads, V⟩ := st_of_laid (l := Rows.movesNewRow.laid) (by kernel_rfl) (by kernel_rfl) hL
  have E : EP [0, 3, 5, 8, 13] ads W := ep_of_st V (by decide)
  have C := movC_of ads W E
  exact new11_any p e v2 o W kp ke koa V C

end Go.Proofs.YtghjnhdepeiloaaDoor
