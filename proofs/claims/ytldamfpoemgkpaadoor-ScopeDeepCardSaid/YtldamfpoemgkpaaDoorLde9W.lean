/-
  THE WALK OF ScopeDeep (own work).
-/
import Derived.Test.YtldamfpoemgkpaaDoorRows
import Derived.Test.YtldamfpoemgkpaaDoorLaidI
import Derived.Test.YtldamfpoemgkpaaDoorScoX
import Derived.Test.YtldamfpoemgkpaaDoorOpX
import Derived.Test.YtldamfpoemgkpaaDoorSdeV
namespace Go.Proofs.YtldamfpoemgkpaaDoor
open Go.RowKit

theorem scopeDeep_walk (a0 a1 : Int) (t0 t1 x : Nat) (W : World) (_ka0 : -9223372036854775808 ≤ a0 ∧ a0 ≤ 9223372036854775807) (_ka1 : -9223372036854775808 ≤ a1 ∧ a1 ≤ 9223372036854775807) (k0 : t0 < 18446744073709551616) (k1 : t1 < 18446744073709551616) (kx : x < 18446744073709551616) (hL : laidMetH Tryd.prog Rows.scopeDeepRow.laid W) :
    Calls Tryd.prog 5 #[.agg #[.int .i64 a0, .int .i64 a1], .agg #[.float .f64 t0, .float .f64 t1], .float .f64 x] W fun e w' => e = .returned (.bool true) ∧ Below W.heap.size W w' := by
  obtain ⟨⟨ads, V⟩, T⟩ := st_tab_of (l := Rows.scopeDeepRow.laid) (by kernel_rfl) (by kernel_rfl) (by kernel_rfl) hL
  have C := scoC_of ads W V T
  exact deep_any ads a0 a1 t0 t1 x k0 k1 kx W V C

end Go.Proofs.YtldamfpoemgkpaaDoor
