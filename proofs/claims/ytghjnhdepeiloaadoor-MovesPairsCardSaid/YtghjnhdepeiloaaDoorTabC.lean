/-
  WHAT PACKAGE tables MUST ANSWER (own work), a field a function; the laws' alive; cells compared.
-/
import Derived.Test.YtghjnhdepeiloaaDoorTabM
import Derived.Test.YtghjnhdepeiloaaDoorSlN
import Derived.Test.YtghjnhdepeiloaaDoorErrI
import Derived.Test.YtghjnhdepeiloaaDoorRefT
import Derived.Laws.StructEq
namespace Go.Proofs.YtghjnhdepeiloaaDoor
open Go.RowKit Go.ChangeShapes Go.WideShapes

def i64T (x : Int) : Prop := -9223372036854775808 ≤ x ∧ x ≤ 9223372036854775807
instance (x : Int) : Decidable (i64T x) := by unfold i64T; infer_instance
structure TabC (ads : List Addr) (w : World) : Prop where
  look : ∀ w1, Kp w w1 → ∀ p e k s : Int, i64T p → i64T e → i64T k → i64T s → Calls Tryd.prog 32 #[.int .i64 p, .int .i64 e, .int .i64 k, .int .i64 s] w1 fun e' w' => e' = .returned (.tuple #[.agg (cellV (lookT p e k s).2), errI ads (lookT p e k s).1]) ∧ Kp w1 w'
  waits : ∀ w1, Kp w w1 → ∀ p e s : Int, i64T p → i64T e → i64T s → Calls Tryd.prog 40 #[.int .i64 p, .int .i64 e, .int .i64 s] w1 fun e' w' => e' = .returned (.tuple #[.int .i64 (waitsT p e s).2, errI ads (waitsT p e s).1]) ∧ Kp w1 w'
theorem TabC.kp {ads : List Addr} {w w' : World} (C : TabC ads w) (hk : Kp w w') : TabC ads w' where
  look := fun w1 h => C.look w1 (Kp.trans hk h)
  waits := fun w1 h => C.waits w1 (Kp.trans hk h)
structure TabS (ads : List Addr) (w : World) : Prop where
  step : ∀ w1, Kp w w1 → ∀ p e k s : Int, i64T p → i64T e → i64T k → i64T s → Calls Tryd.prog 36 #[.int .i64 p, .int .i64 e, .int .i64 k, .int .i64 s] w1 fun e' w' => e' = .returned (.tuple #[.int .i64 (stepT p e k s).2, errI ads (stepT p e k s).1]) ∧ Kp w1 w'
theorem TabS.kp {ads : List Addr} {w w' : World} (C : TabS ads w) (hk : Kp w w') : TabS ads w' where
  step := fun w1 h => C.step w1 (Kp.trans hk h)
theorem rcell_fields : Tryd.prog.underlying 74 = some (.struct (Tryd.prog.fieldsOf 74)) := by
  unfold Program.fieldsOf
  rw [Tryd.underlying74]
theorem rcell_eql (a b c a' b' c' : Int) (w : World) : (binOp .eql 74 (.agg #[.int .i64 a, .int .i64 b, .int .i64 c]) (.agg #[.int .i64 a', .int .i64 b', .int .i64 c'])).run Tryd.prog w = .ok (.bool (decide (a = a' ∧ b = b' ∧ c = c'))) w := by
  have ha : Tryd.prog.stoodInHeld 74 = false := by kernel_rfl
  rw [run_eql_struct, show (10000 : Nat) = 9999 + 1 from rfl, run_equalIn_agg w 9999 74 _ _ rcell_fields ha]
  simp [Program.fieldsOf, Tryd.underlying74, Op.eqFields, part, go_sem]
  by_cases h0 : a = a'
  rotate_left
  · simp [h0]
  subst h0
  by_cases h1 : b = b'
  rotate_left
  · simp [h1]
  subst h1
  by_cases h2 : c = c'
  rotate_left
  · simp [h2]
  subst h2
  simp [*]
theorem rcell_guard (op : BinOp) (x y : Operand) (a b c a' b' c' : Int) (w : World) : (eqGuard op 74 x y (.agg #[.int .i64 a, .int .i64 b, .int .i64 c]) (.agg #[.int .i64 a', .int .i64 b', .int .i64 c'])).run Tryd.prog w = .ok () w := run_eqGuard_agg w op 74 x y _ _ (by kernel_rfl)
theorem tcell_fields : Tryd.prog.underlying 70 = some (.struct (Tryd.prog.fieldsOf 70)) := by
  unfold Program.fieldsOf
  rw [Tryd.underlying70]
theorem tcell_eql (a b c a' b' c' : Int) (w : World) : (binOp .eql 70 (.agg #[.int .i64 a, .int .i64 b, .int .i64 c]) (.agg #[.int .i64 a', .int .i64 b', .int .i64 c'])).run Tryd.prog w = .ok (.bool (decide (a = a' ∧ b = b' ∧ c = c'))) w := by
  have ha : Tryd.prog.stoodInHeld 70 = false := by kernel_rfl
  rw [run_eql_struct, show (10000 : Nat) = 9999 + 1 from rfl, run_equalIn_agg w 9999 70 _ _ tcell_fields ha]
  simp [Program.fieldsOf, Tryd.underlying70, Op.eqFields, part, go_sem]
  by_cases h0 : a = a'
  rotate_left
  · simp [h0]
  subst h0
  by_cases h1 : b = b'
  rotate_left
  · simp [h1]
  subst h1
  by_cases h2 : c = c'
  rotate_left
  · simp [h2]
  subst h2
  simp [*]
theorem tcell_guard (op : BinOp) (x y : Operand) (a b c a' b' c' : Int) (w : World) : (eqGuard op 70 x y (.agg #[.int .i64 a, .int .i64 b, .int .i64 c]) (.agg #[.int .i64 a', .int .i64 b', .int .i64 c'])).run Tryd.prog w = .ok () w := run_eqGuard_agg w op 70 x y _ _ (by kernel_rfl)
theorem sides2 {b : Nat} {t : TypeId} {w : World} {x0 x1 : Value} (h : w.heap[b]? = some (.cells #[x0, x1] t (0, 0))) : w.cell? ⟨b, 0, none⟩ = some x0 ∧ w.cell? ⟨b, 1, none⟩ = some x1 := by
  refine ⟨?_, ?_⟩ <;> (unfold World.cell?; dsimp only; rw [h]; rfl)
theorem lookT_rng (p e k s : Int) : 0 ≤ (lookT p e k s).1 ∧ (lookT p e k s).1 ≤ 14 := by
  unfold lookT
  split
  · exact ⟨by decide, by decide⟩
  split
  · exact ⟨by decide, by decide⟩
  split
  · exact ⟨by decide, by decide⟩
  · exact ⟨by simp, by simp⟩
theorem stepT_rng (p e k s : Int) : 0 ≤ (stepT p e k s).1 ∧ (stepT p e k s).1 ≤ 14 := by
  unfold stepT
  split
  · exact ⟨by decide, by decide⟩
  split
  · exact ⟨by decide, by decide⟩
  split
  · exact ⟨by decide, by decide⟩
  split
  · exact ⟨by decide, by decide⟩
  · exact ⟨by simp, by simp⟩
end Go.Proofs.YtghjnhdepeiloaaDoor
