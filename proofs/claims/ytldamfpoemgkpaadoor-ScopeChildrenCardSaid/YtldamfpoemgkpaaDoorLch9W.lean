/-
  THE WALK OF ScopeChildren (own work).
-/
import Derived.Test.YtldamfpoemgkpaaDoorRows
import Derived.Test.YtldamfpoemgkpaaDoorLaidI
import Derived.Test.YtldamfpoemgkpaaDoorScoX
import Derived.Test.YtldamfpoemgkpaaDoorOpX
import Derived.Test.YtldamfpoemgkpaaDoorSchV
namespace Go.Proofs.YtldamfpoemgkpaaDoor
open Go.RowKit

theorem scopeChildren_walk (c d : CX) (t : Nat) (W : World) (kc : c.wf) (kd : d.wf) (kt : t < 18446744073709551616) (hL : laidMetH Tryd.prog Rows.scopeChildrenRow.laid W) :
    Calls Tryd.prog 4 #[.agg c.cells, .agg d.cells, .float .f64 t] W fun e w' => e = .returned (.bool true) ∧ Below W.heap.size W w' := by
  obtain ⟨⟨ads, V⟩, T⟩ := st_tab_of (l := Rows.scopeChildrenRow.laid) (by kernel_rfl) (by kernel_rfl) (by kernel_rfl) hL
  have C := scoC_of ads W V T
  exact children_any ads c d t kc kd kt W V C

end Go.Proofs.YtldamfpoemgkpaaDoor
