/-
  AN ACTIVITY THAT HAS A TEXT (own work): liaisonref05.Right.
-/
import Derived.Test.YtldamfpoemgkpaaDoorKp
namespace Go.Proofs.YtldamfpoemgkpaaDoor
open Go.RowKit Go.ChangeShapes Go.WideShapes

def rightA (n s : Int) : Bool := decide (0 ≤ n ∧ n < 4 ∧ 0 ≤ s ∧ s < 1000000)
set_option maxRecDepth 20000 in
theorem refRight_any (nn si : Int) (w : World) :
    Calls Tryd.prog 27 #[.agg #[.int .i64 nn, .int .i64 si]] w fun e w' => e = .returned (.bool (rightA nn si)) ∧ Kp w w' := by
  go_enter Tryd.func27, Tryd.ntmps27
  go_wp2
  all_goals (go_ret; refine ⟨?_, kp_alloc _ _⟩; simp [rightA, *] <;> (intros; omega))
end Go.Proofs.YtldamfpoemgkpaaDoor
