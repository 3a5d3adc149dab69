/-
  PACKAGE catch's QUESTIONS (own work): errors.Is of the runtime's own errors and of strconv's, asked for one of package api's; catch.is; catch.named; catch.errorOf.
-/
import Derived.Test.YtcgcliglcdfijaaDoorNum
import Derived.Recover
import Derived.Laws.Pointers
namespace Go.Proofs.YtcgcliglcdfijaaDoor
open Go.RowKit Go.Extern.Stop Go.Stop Go.Extern

/-- OLD MEMORY IS AS IT WAS. -/
def Kp (w w' : World) : Prop := Below w.heap.size w w'
theorem Kp.refl (w : World) : Kp w w := Below.refl _ _
theorem Kp.trans {a b c : World} (h : Kp a b) (k : Kp b c) : Kp a c := Below.trans h (Below.mono k h.size)
theorem Kp.of_eq {a b : World} (h : a = b) : Kp a b := h ▸ Kp.refl _
theorem Kp.errs {gs : List Nat} {ads : List Addr} {w w' : World} (h : Kp w w') (E : Errs gs ads w) : Errs gs ads w' := E.below h
theorem Kp.drew {a b : World} (h : Kp a b) : Kp a b.drew := Below.drew h

theorem noIsR0 (v : Value) (xT : TypeId) (w : World) : (Instr.typeAssert (.iface 8 v) xT 77 true).run Tryd.prog w = .ok (.tuple #[.nilIface, .bool false]) w := run_typeAssert_lacksB Tryd.underlying77 (by kernel_rfl) (by kernel_rfl) v xT w
theorem noUnwrapR0 (v : Value) (xT : TypeId) (w : World) : (Instr.typeAssert (.iface 8 v) xT 80 true).run Tryd.prog w = .ok (.tuple #[.nilIface, .bool false]) w := run_typeAssert_lacksB Tryd.underlying80 (by kernel_rfl) (by kernel_rfl) v xT w
theorem noUnwrapsR0 (v : Value) (xT : TypeId) (w : World) : (Instr.typeAssert (.iface 8 v) xT 82 true).run Tryd.prog w = .ok (.tuple #[.nilIface, .bool false]) w := run_typeAssert_lacksB Tryd.underlying82 (by kernel_rfl) (by kernel_rfl) v xT w
theorem isErrorR0 (v : Value) (w : World) : (Instr.typeAssert (.iface 8 v) 20 28 true).run Tryd.prog w = .ok (.tuple #[.iface 8 v, .bool true]) w := run_typeAssert_hasB Tryd.underlying28 (by kernel_rfl) v _ w

/-- errors.Is(x, y), x of type runtime.boundsError, y a sentinel. -/
theorem is_rt0 (v : Value) (b : Addr) (w : World) :
    Calls Tryd.prog 33 #[.iface 8 v, .iface 95 (.pointer (some b))] w fun e w' => e = .returned (.bool false) ∧ w = w' := by
  have tT := callTypeOf
  have cT := callComparable
  have mR := isMethodComparable
  have nE := noIsR0
  have uE := noUnwrapR0
  have vE := noUnwrapsR0
  have heq := run_eql_iface_types (P := Tryd.prog) 8 95 v (.pointer (some b)) Tryd.underlying28 (by decide) w
  go_enter Tryd.func33, Tryd.ntmps33
  go_wp2
  refine wp_loop_rounds 1 ?_
  rw [rounds_succ]
  go_wp2
  go_ret
  exact ⟨rfl, rfl⟩

theorem noIsR1 (v : Value) (xT : TypeId) (w : World) : (Instr.typeAssert (.iface 10 v) xT 77 true).run Tryd.prog w = .ok (.tuple #[.nilIface, .bool false]) w := run_typeAssert_lacksB Tryd.underlying77 (by kernel_rfl) (by kernel_rfl) v xT w
theorem noUnwrapR1 (v : Value) (xT : TypeId) (w : World) : (Instr.typeAssert (.iface 10 v) xT 80 true).run Tryd.prog w = .ok (.tuple #[.nilIface, .bool false]) w := run_typeAssert_lacksB Tryd.underlying80 (by kernel_rfl) (by kernel_rfl) v xT w
theorem noUnwrapsR1 (v : Value) (xT : TypeId) (w : World) : (Instr.typeAssert (.iface 10 v) xT 82 true).run Tryd.prog w = .ok (.tuple #[.nilIface, .bool false]) w := run_typeAssert_lacksB Tryd.underlying82 (by kernel_rfl) (by kernel_rfl) v xT w
theorem isErrorR1 (v : Value) (w : World) : (Instr.typeAssert (.iface 10 v) 20 28 true).run Tryd.prog w = .ok (.tuple #[.iface 10 v, .bool true]) w := run_typeAssert_hasB Tryd.underlying28 (by kernel_rfl) v _ w

/-- errors.Is(x, y), x of type runtime.errorString, y a sentinel. -/
theorem is_rt1 (v : Value) (b : Addr) (w : World) :
    Calls Tryd.prog 33 #[.iface 10 v, .iface 95 (.pointer (some b))] w fun e w' => e = .returned (.bool false) ∧ w = w' := by
  have tT := callTypeOf
  have cT := callComparable
  have mR := isMethodComparable
  have nE := noIsR1
  have uE := noUnwrapR1
  have vE := noUnwrapsR1
  have heq := run_eql_iface_types (P := Tryd.prog) 10 95 v (.pointer (some b)) Tryd.underlying28 (by decide) w
  go_enter Tryd.func33, Tryd.ntmps33
  go_wp2
  refine wp_loop_rounds 1 ?_
  rw [rounds_succ]
  go_wp2
  go_ret
  exact ⟨rfl, rfl⟩

theorem noIsR2 (v : Value) (xT : TypeId) (w : World) : (Instr.typeAssert (.iface 11 v) xT 77 true).run Tryd.prog w = .ok (.tuple #[.nilIface, .bool false]) w := run_typeAssert_lacksB Tryd.underlying77 (by kernel_rfl) (by kernel_rfl) v xT w
theorem noUnwrapR2 (v : Value) (xT : TypeId) (w : World) : (Instr.typeAssert (.iface 11 v) xT 80 true).run Tryd.prog w = .ok (.tuple #[.nilIface, .bool false]) w := run_typeAssert_lacksB Tryd.underlying80 (by kernel_rfl) (by kernel_rfl) v xT w
theorem noUnwrapsR2 (v : Value) (xT : TypeId) (w : World) : (Instr.typeAssert (.iface 11 v) xT 82 true).run Tryd.prog w = .ok (.tuple #[.nilIface, .bool false]) w := run_typeAssert_lacksB Tryd.underlying82 (by kernel_rfl) (by kernel_rfl) v xT w
theorem isErrorR2 (v : Value) (w : World) : (Instr.typeAssert (.iface 11 v) 20 28 true).run Tryd.prog w = .ok (.tuple #[.iface 11 v, .bool true]) w := run_typeAssert_hasB Tryd.underlying28 (by kernel_rfl) v _ w

/-- errors.Is(x, y), x of type runtime.plainError, y a sentinel. -/
theorem is_rt2 (v : Value) (b : Addr) (w : World) :
    Calls Tryd.prog 33 #[.iface 11 v, .iface 95 (.pointer (some b))] w fun e w' => e = .returned (.bool false) ∧ w = w' := by
  have tT := callTypeOf
  have cT := callComparable
  have mR := isMethodComparable
  have nE := noIsR2
  have uE := noUnwrapR2
  have vE := noUnwrapsR2
  have heq := run_eql_iface_types (P := Tryd.prog) 11 95 v (.pointer (some b)) Tryd.underlying28 (by decide) w
  go_enter Tryd.func33, Tryd.ntmps33
  go_wp2
  refine wp_loop_rounds 1 ?_
  rw [rounds_succ]
  go_wp2
  go_ret
  exact ⟨rfl, rfl⟩

theorem noIsN (v : Value) (xT : TypeId) (w : World) : (Instr.typeAssert (.iface 71 v) xT 77 true).run Tryd.prog w = .ok (.tuple #[.nilIface, .bool false]) w := run_typeAssert_lacksB Tryd.underlying77 (by kernel_rfl) (by kernel_rfl) v xT w
theorem unwrapN (v : Value) (xT : TypeId) (w : World) : (Instr.typeAssert (.iface 71 v) xT 80 true).run Tryd.prog w = .ok (.tuple #[.iface 71 v, .bool true]) w := run_typeAssert_hasB Tryd.underlying80 (by kernel_rfl) v xT w
theorem isErrorN (v : Value) (w : World) : (Instr.typeAssert (.iface 71 v) 20 28 true).run Tryd.prog w = .ok (.tuple #[.iface 71 v, .bool true]) w := run_typeAssert_hasB Tryd.underlying28 (by kernel_rfl) v _ w
theorem isErrorE (v : Value) (w : World) : (Instr.typeAssert (.iface 95 v) 20 28 true).run Tryd.prog w = .ok (.tuple #[.iface 95 v, .bool true]) w := run_typeAssert_hasB Tryd.underlying28 (by kernel_rfl) v _ w
theorem numMethod (v : Value) (w : World) : (Go.method 244 71 v "Unwrap").run Tryd.prog w = .ok (89, v) w := by kernel_rfl

/-- errors.Is(x, y), x a *NumError around a sentinel s, y another sentinel. -/
theorem is_num (pb : Nat) (s b : Addr) (cs cb : Array Value) (ts tb : TypeId) (w : World) (hp : w.cell? ⟨pb, 2, none⟩ = some (.iface 95 (.pointer (some s)))) (hne : s ≠ b) (hs : w.heap[s.block]? = some (.cells cs ts (0, 0))) (hb : w.heap[b.block]? = some (.cells cb tb (0, 0))) :
    Calls Tryd.prog 33 #[.iface 71 (.pointer (some ⟨pb, 0, none⟩)), .iface 95 (.pointer (some b))] w fun e w' => e = .returned (.bool false) ∧ w = w' := by
  obtain ⟨i, hi, hcmp⟩ := Option.map_eq_some_iff.1 isComp
  obtain ⟨j, hj, hjs⟩ := Option.map_eq_some_iff.1 isSize
  have tT := callTypeOf
  have cT := callComparable
  have mR := isMethodComparable
  have nE := noIsE
  have uE := noUnwrapE
  have vE := noUnwrapsE
  have nN := noIsN
  have uN := unwrapN
  have mN := numMethod
  have hty := run_eql_iface_types (P := Tryd.prog) 71 95 (.pointer (some ⟨pb, 0, none⟩)) (.pointer (some b)) Tryd.underlying28 (by decide) w
  have heq := run_eql_iface_ptr_other (P := Tryd.prog) w Tryd.underlying28 Tryd.underlying95 hi hcmp hj (by rw [hjs]; decide) hne hs hb
  go_enter Tryd.func33, Tryd.ntmps33
  go_wp2
  refine wp_loop_rounds 2 ?_
  rw [rounds_succ]
  go_wp2
  rw [rounds_succ]
  go_wp2
  go_ret
  exact ⟨rfl, rfl⟩

/-! ### catch.is -/
theorem is_door (w : World) :
    CallsD Tryd.prog 56 #[] .returning w fun e u' w' => e = .returned (.tuple #[]) ∧ u' = .returning ∧ w' = w := by
  refine callsD_of_wpS Tryd.func56 rfl fun c₀ cs hu => ?_
  apply wpS_region
  cases c₀
  simp_all [wpOpsS, go_sem, recoverD, Tryd.ntmps56, bodyPostS, results, Tryd.results56]

theorem cis_of {v t : Value} {b : Bool} {w : World} (h : Calls Tryd.prog 33 #[v, t] w fun e w' => e = .returned (.bool b) ∧ w = w') :
    Calls Tryd.prog 50 #[v, t] w fun e w' => e = .returned (.bool b) ∧ w = w' := by
  go_enter_defers Tryd.func50, Tryd.ntmps50
  go_wp2_with (go_at_call 33; (with_reducible refine h.mono ?_); rintro e w' ⟨rfl, rfl⟩)
  refine leaves_cons (f := 56) (args := #[]) (by simp) (by simp [go_sem]) ?_
  refine (is_door _).mono ?_
  rintro e u' w'' ⟨rfl, rfl, rfl⟩
  simp [Leaves, settle, results, Tryd.results50, go_sem]

end Go.Proofs.YtcgcliglcdfijaaDoor
