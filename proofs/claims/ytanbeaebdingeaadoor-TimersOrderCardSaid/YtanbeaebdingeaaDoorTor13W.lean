/-
  THE WALK OF TimersOrder (own work).
-/
import Derived.Test.YtanbeaebdingeaaDoorRows
import Derived.Test.YtanbeaebdingeaaDoorLaidE
import Derived.Test.YtanbeaebdingeaaDoorTmI
namespace Go.Proofs.YtanbeaebdingeaaDoor
open Go.RowKit

theorem timersOrder_walk (v0 : Value) (b : List Nat) (t : Nat) (W : World) (kba : SlF v0 b W) (kbb : ∀ x ∈ b, x < 18446744073709551616) (_kbc : b.length ≤ maxLen) (kt : t < 18446744073709551616) (hL : laidMetH Tryd.prog Rows.timersOrderRow.laid W) :
    Calls Tryd.prog 6 #[v0, .float .f64 t] W fun e w' => e = .returned (.bool true) ∧ Below W.heap.size W w' := by
  obtain ⟨ads, E⟩ := ep_of_laid [0, 3, 5, 7] (by decide) (l := Rows.timersOrderRow.laid) (by kernel_rfl) (by kernel_rfl) hL
  exact order13_any v0 b t kt kba kbb E

end Go.Proofs.YtanbeaebdingeaaDoor
