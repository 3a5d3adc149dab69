/-
  PACKAGE catch's QUESTION (own work), at package api's errors: catch.is.
-/
import Derived.Test.YtldamfpoemgkpaaDoorNum
import Derived.Test.YtldamfpoemgkpaaDoorKp
import Derived.Recover
import Derived.Laws.Pointers
namespace Go.Proofs.YtldamfpoemgkpaaDoor
open Go.RowKit Go.Extern.Stop Go.Stop Go.Extern

theorem isErrorE (v : Value) (w : World) : (Instr.typeAssert (.iface 115 v) 20 31 true).run Tryd.prog w = .ok (.tuple #[.iface 115 v, .bool true]) w := run_typeAssert_hasB Tryd.underlying31 (by kernel_rfl) v _ w

theorem is_door (w : World) :
    CallsD Tryd.prog 64 #[] .returning w fun e u' w' => e = .returned (.tuple #[]) ∧ u' = .returning ∧ w' = w := by
  refine callsD_of_wpS Tryd.func64 rfl fun c₀ cs hu => ?_
  apply wpS_region
  cases c₀
  simp_all [wpOpsS, go_sem, recoverD, Tryd.ntmps64, bodyPostS, results, Tryd.results64]

theorem cis_of {v t : Value} {b : Bool} {w : World} (h : Calls Tryd.prog 31 #[v, t] w fun e w' => e = .returned (.bool b) ∧ w = w') :
    Calls Tryd.prog 59 #[v, t] w fun e w' => e = .returned (.bool b) ∧ w = w' := by
  go_enter_defers Tryd.func59, Tryd.ntmps59
  go_wp2_with (go_at_call 31; (with_reducible refine h.mono ?_); rintro e w' ⟨rfl, rfl⟩)
  refine leaves_cons (f := 64) (args := #[]) (by simp) (by simp [go_sem]) ?_
  refine (is_door _).mono ?_
  rintro e u' w'' ⟨rfl, rfl, rfl⟩
  simp [Leaves, settle, results, Tryd.results59, go_sem]

end Go.Proofs.YtldamfpoemgkpaaDoor
