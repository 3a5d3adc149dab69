/-
  THE WALK OF ScopeOnce (own work).
-/
import Derived.Test.YtldamfpoemgkpaaDoorRows
import Derived.Test.YtldamfpoemgkpaaDoorLaidI
import Derived.Test.YtldamfpoemgkpaaDoorScoX
import Derived.Test.YtldamfpoemgkpaaDoorOpX
import Derived.Test.YtldamfpoemgkpaaDoorSonV
namespace Go.Proofs.YtldamfpoemgkpaaDoor
open Go.RowKit

theorem scopeOnce_walk (c : CX) (a b : Nat) (W : World) (kc : c.wf) (ka : a < 18446744073709551616) (kb : b < 18446744073709551616) (hL : laidMetH Tryd.prog Rows.scopeOnceRow.laid W) :
    Calls Tryd.prog 6 #[.agg c.cells, .float .f64 a, .float .f64 b] W fun e w' => e = .returned (.bool true) ∧ Below W.heap.size W w' := by
  obtain ⟨⟨ads, V⟩, T⟩ := st_tab_of (l := Rows.scopeOnceRow.laid) (by kernel_rfl) (by kernel_rfl) (by kernel_rfl) hL
  have C := scoC_of ads W V T
  exact once_any ads c a b kc ka kb W C

end Go.Proofs.YtldamfpoemgkpaaDoor
