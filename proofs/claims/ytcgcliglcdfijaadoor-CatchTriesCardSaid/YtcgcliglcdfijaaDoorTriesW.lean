/-
  THE WALK OF CatchTries (own work).
-/
import Derived.Test.YtcgcliglcdfijaaDoorRows
import Derived.Test.YtcgcliglcdfijaaDoorTriesV
import Derived.Test.YtcgcliglcdfijaaDoorLaidC
namespace Go.Proofs.YtcgcliglcdfijaaDoor
open Go.RowKit

theorem catchTries_walk (n x : Int) (W : World) (_kn : -9223372036854775808 ≤ n ∧ n ≤ 9223372036854775807) (_kx : -9223372036854775808 ≤ x ∧ x ≤ 9223372036854775807) (hL : laidMetH Tryd.prog Rows.catchTriesRow.laid W) :
    Calls Tryd.prog 3 #[.int .i64 n, .int .i64 x] W fun e w' => e = .returned (.bool true) ∧ Below W.heap.size W w' := by
  obtain ⟨ads, s, V⟩ := st_of_laid (l := Rows.catchTriesRow.laid) rfl (by kernel_rfl) hL
  exact tries_all n x ads s W V

end Go.Proofs.YtcgcliglcdfijaaDoor
