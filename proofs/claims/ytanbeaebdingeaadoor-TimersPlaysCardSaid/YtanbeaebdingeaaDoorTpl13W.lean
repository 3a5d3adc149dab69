/-
  THE WALK OF TimersPlays (own work).
-/
import Derived.Test.YtanbeaebdingeaaDoorRows
import Derived.Test.YtanbeaebdingeaaDoorLaidE
import Derived.Test.YtanbeaebdingeaaDoorTmR
namespace Go.Proofs.YtanbeaebdingeaaDoor
open Go.RowKit

theorem timersPlays_walk (v0 : Value) (o : List OpT) (W : World) (koa : SlT v0 o W) (kob : o.length ≤ maxLen) (hL : laidMetH Tryd.prog Rows.timersPlaysRow.laid W) :
    Calls Tryd.prog 3 #[v0] W fun e w' => e = .returned (.bool true) ∧ Below W.heap.size W w' := by
  obtain ⟨ads, V⟩ := st_of_laid (l := Rows.timersPlaysRow.laid) (by kernel_rfl) (by kernel_rfl) hL
  have E : EP [0, 3, 5, 7] ads W := ep_of_st V (by decide)
  exact plays13_any v0 o koa kob V E

end Go.Proofs.YtanbeaebdingeaaDoor
