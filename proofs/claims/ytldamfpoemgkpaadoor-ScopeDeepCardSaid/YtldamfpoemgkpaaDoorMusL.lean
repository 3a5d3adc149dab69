/-
  catch.Check, catch.Must (own work), at no error and at one of package api's.
-/
import Derived.Test.YtldamfpoemgkpaaDoorFirI
namespace Go.Proofs.YtldamfpoemgkpaaDoor
open Go.RowKit Go.ChangeShapes Go.WideShapes

theorem check_t (w : World) : Calls Tryd.prog 46 #[.nilIface] w fun e w' => e = .returned (.tuple #[]) ∧ w = w' := by
  go_enter Tryd.func46, Tryd.ntmps46
  go_wp2
  go_end0
  exact ⟨rfl, rfl⟩
theorem check_f (a : Addr) (w : World) : Calls Tryd.prog 46 #[snt a] w fun e w' => e = .panicked [{ v := snt a, recovered := false }] ∧ w = w' := by
  have hpn := panic_some (P := Tryd.prog) 115 (.pointer (some a)) w
  go_enter Tryd.func46, Tryd.ntmps46
  go_wp2
  exact ⟨rfl, rfl, rfl⟩
end Go.Proofs.YtldamfpoemgkpaaDoor
