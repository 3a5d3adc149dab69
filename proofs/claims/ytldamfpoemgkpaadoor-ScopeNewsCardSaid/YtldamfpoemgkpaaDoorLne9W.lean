/-
  THE WALK OF ScopeNews (own work).
-/
import Derived.Test.YtldamfpoemgkpaaDoorRows
import Derived.Test.YtldamfpoemgkpaaDoorLaidI
import Derived.Test.YtldamfpoemgkpaaDoorScoX
import Derived.Test.YtldamfpoemgkpaaDoorOpX
import Derived.Test.YtldamfpoemgkpaaDoorSneV
namespace Go.Proofs.YtldamfpoemgkpaaDoor
open Go.RowKit

theorem scopeNews_walk (a0 a1 o : Int) (t0 t1 : Nat) (W : World) (_ka0 : -9223372036854775808 ≤ a0 ∧ a0 ≤ 9223372036854775807) (_ka1 : -9223372036854775808 ≤ a1 ∧ a1 ≤ 9223372036854775807) (_ko : -9223372036854775808 ≤ o ∧ o ≤ 9223372036854775807) (k0 : t0 < 18446744073709551616) (k1 : t1 < 18446744073709551616) (hL : laidMetH Tryd.prog Rows.scopeNewsRow.laid W) :
    Calls Tryd.prog 3 #[.agg #[.int .i64 a0, .int .i64 a1], .int .i64 o, .agg #[.float .f64 t0, .float .f64 t1]] W fun e w' => e = .returned (.bool true) ∧ Below W.heap.size W w' := by
  obtain ⟨⟨ads, V⟩, T⟩ := st_tab_of (l := Rows.scopeNewsRow.laid) (by kernel_rfl) (by kernel_rfl) (by kernel_rfl) hL
  have C := scoC_of ads W V T
  exact news_any ads a0 a1 o t0 t1 k0 k1 W V C

end Go.Proofs.YtldamfpoemgkpaaDoor
