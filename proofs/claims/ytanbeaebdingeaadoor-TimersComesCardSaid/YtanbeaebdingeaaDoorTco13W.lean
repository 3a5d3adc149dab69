/-
  THE WALK OF TimersComes (own work).
-/
import Derived.Test.YtanbeaebdingeaaDoorRows
import Derived.Test.YtanbeaebdingeaaDoorLaidE
import Derived.Test.YtanbeaebdingeaaDoorTmH
namespace Go.Proofs.YtanbeaebdingeaaDoor
open Go.RowKit

theorem timersComes_walk (b m : Nat) (v2 : Value) (s : List Nat) (W : World) (kb : b < 18446744073709551616) (km : m < 18446744073709551616) (ksa : SlF v2 s W) (ksb : ∀ x ∈ s, x < 18446744073709551616) (_ksc : s.length ≤ maxLen) (hL : laidMetH Tryd.prog Rows.timersComesRow.laid W) :
    Calls Tryd.prog 5 #[.float .f64 b, .float .f64 m, v2] W fun e w' => e = .returned (.bool true) ∧ Below W.heap.size W w' := by
  obtain ⟨ads, E⟩ := ep_of_laid [0, 3, 5, 7] (by decide) (l := Rows.timersComesRow.laid) (by kernel_rfl) (by kernel_rfl) hL
  exact comes13_any b m v2 s kb km ksa ksb E

end Go.Proofs.YtanbeaebdingeaaDoor
