/-
  THE WALK OF TimersFull (own work).
-/
import Derived.Test.YtanbeaebdingeaaDoorRows
import Derived.Test.YtanbeaebdingeaaDoorLaidE
import Derived.Test.YtanbeaebdingeaaDoorTmG
namespace Go.Proofs.YtanbeaebdingeaaDoor
open Go.RowKit

theorem timersFull_walk (x : Int) (W : World) (_kx : -9223372036854775808 ≤ x ∧ x ≤ 9223372036854775807) (hL : laidMetH Tryd.prog Rows.timersFullRow.laid W) :
    Calls Tryd.prog 4 #[.int .i64 x] W fun e w' => e = .returned (.bool true) ∧ Below W.heap.size W w' := by
  obtain ⟨ads, V⟩ := st_of_laid (l := Rows.timersFullRow.laid) (by kernel_rfl) (by kernel_rfl) hL
  have E : EP [0, 3, 5, 7] ads W := ep_of_st V (by decide)
  exact full13_any x V E

end Go.Proofs.YtanbeaebdingeaaDoor
