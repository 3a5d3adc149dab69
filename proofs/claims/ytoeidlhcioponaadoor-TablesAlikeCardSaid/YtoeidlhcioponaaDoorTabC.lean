/-
  WHAT PACKAGE tables MUST ANSWER (own work), a field a function; the laws' alive; cells compared.
-/
import Derived.Test.YtoeidlhcioponaaDoorTabM
import Derived.Test.YtoeidlhcioponaaDoorSlN
import Derived.Test.YtoeidlhcioponaaDoorErrI
import Derived.Test.YtoeidlhcioponaaDoorRefT
import Derived.Laws.StructEq
namespace Go.Proofs.YtoeidlhcioponaaDoor
open Go.RowKit Go.ChangeShapes Go.WideShapes

def i64T (x : Int) : Prop := -9223372036854775808 ≤ x ∧ x ≤ 9223372036854775807
instance (x : Int) : Decidable (i64T x) := by unfold i64T; infer_instance
structure TabC (ads : List Addr) (w : World) : Prop where
  look : ∀ w1, Kp w w1 → ∀ p e k s : Int, i64T p → i64T e → i64T k → i64T s → Calls Tryd.prog 11 #[.int .i64 p, .int .i64 e, .int .i64 k, .int .i64 s] w1 fun e' w' => e' = .returned (.tuple #[.agg (cellV (lookT p e k s).2), errI ads (lookT p e k s).1]) ∧ Kp w1 w'
  waits : ∀ w1, Kp w w1 → ∀ p e s : Int, i64T p → i64T e → i64T s → Calls Tryd.prog 16 #[.int .i64 p, .int .i64 e, .int .i64 s] w1 fun e' w' => e' = .returned (.tuple #[.int .i64 (waitsT p e s).2, errI ads (waitsT p e s).1]) ∧ Kp w1 w'
  states : ∀ w1, Kp w w1 → ∀ p e : Int, i64T p → i64T e → Calls Tryd.prog 20 #[.int .i64 p, .int .i64 e] w1 fun e' w' => ∃ v, e' = .returned (.tuple #[v, errI ads (if rightT p e = true then 0 else 14)]) ∧ SlI v (if rightT p e = true then statesL p e else []) w' ∧ Kp w1 w'
  takes : ∀ w1, Kp w w1 → ∀ p e : Int, i64T p → i64T e → Calls Tryd.prog 21 #[.int .i64 p, .int .i64 e] w1 fun e' w' => ∃ v, e' = .returned (.tuple #[v, errI ads (if rightT p e = true then 0 else 14)]) ∧ SlI v (if rightT p e = true then takesL p e else []) w' ∧ Kp w1 w'
  sends : ∀ w1, Kp w w1 → ∀ p e : Int, i64T p → i64T e → Calls Tryd.prog 22 #[.int .i64 p, .int .i64 e] w1 fun e' w' => ∃ v, e' = .returned (.tuple #[v, errI ads (if rightT p e = true then 0 else 14)]) ∧ SlI v (if rightT p e = true then sendsL p e else []) w' ∧ Kp w1 w'
theorem TabC.kp {ads : List Addr} {w w' : World} (C : TabC ads w) (hk : Kp w w') : TabC ads w' where
  look := fun w1 h => C.look w1 (Kp.trans hk h)
  waits := fun w1 h => C.waits w1 (Kp.trans hk h)
  states := fun w1 h => C.states w1 (Kp.trans hk h)
  takes := fun w1 h => C.takes w1 (Kp.trans hk h)
  sends := fun w1 h => C.sends w1 (Kp.trans hk h)
structure TabS (ads : List Addr) (w : World) : Prop where
  step : ∀ w1, Kp w w1 → ∀ p e k s : Int, i64T p → i64T e → i64T k → i64T s → Calls Tryd.prog 14 #[.int .i64 p, .int .i64 e, .int .i64 k, .int .i64 s] w1 fun e' w' => e' = .returned (.tuple #[.int .i64 (stepT p e k s).2, errI ads (stepT p e k s).1]) ∧ Kp w1 w'
theorem TabS.kp {ads : List Addr} {w w' : World} (C : TabS ads w) (hk : Kp w w') : TabS ads w' where
  step := fun w1 h => C.step w1 (Kp.trans hk h)
theorem rcell_fields : Tryd.prog.underlying 31 = some (.struct (Tryd.prog.fieldsOf 31)) := by
  unfold Program.fieldsOf
  rw [Tryd.underlying31]
theorem rcell_eql (a b c a' b' c' : Int) (w : World) : (binOp .eql 31 (.agg #[.int .i64 a, .int .i64 b, .int .i64 c]) (.agg #[.int .i64 a', .int .i64 b', .int .i64 c'])).run Tryd.prog w = .ok (.bool (decide (a = a' ∧ b = b' ∧ c = c'))) w := by
  have ha : Tryd.prog.stoodInHeld 31 = false := by kernel_rfl
  rw [run_eql_struct, show (10000 : Nat) = 9999 + 1 from rfl, run_equalIn_agg w 9999 31 _ _ rcell_fields ha]
  simp [Program.fieldsOf, Tryd.underlying31, Op.eqFields, part, go_sem]
  by_cases h0 : a = a'
  rotate_left
  · simp [h0]
  subst h0
  by_cases h1 : b = b'
  rotate_left
  · simp [h1]
  subst h1
  by_cases h2 : c = c'
  rotate_left
  · simp [h2]
  subst h2
  simp [*]
theorem rcell_guard (op : BinOp) (x y : Operand) (a b c a' b' c' : Int) (w : World) : (eqGuard op 31 x y (.agg #[.int .i64 a, .int .i64 b, .int .i64 c]) (.agg #[.int .i64 a', .int .i64 b', .int .i64 c'])).run Tryd.prog w = .ok () w := run_eqGuard_agg w op 31 x y _ _ (by kernel_rfl)
theorem tcell_fields : Tryd.prog.underlying 26 = some (.struct (Tryd.prog.fieldsOf 26)) := by
  unfold Program.fieldsOf
  rw [Tryd.underlying26]
theorem tcell_eql (a b c a' b' c' : Int) (w : World) : (binOp .eql 26 (.agg #[.int .i64 a, .int .i64 b, .int .i64 c]) (.agg #[.int .i64 a', .int .i64 b', .int .i64 c'])).run Tryd.prog w = .ok (.bool (decide (a = a' ∧ b = b' ∧ c = c'))) w := by
  have ha : Tryd.prog.stoodInHeld 26 = false := by kernel_rfl
  rw [run_eql_struct, show (10000 : Nat) = 9999 + 1 from rfl, run_equalIn_agg w 9999 26 _ _ tcell_fields ha]
  simp [Program.fieldsOf, Tryd.underlying26, Op.eqFields, part, go_sem]
  by_cases h0 : a = a'
  rotate_left
  · simp [h0]
  subst h0
  by_cases h1 : b = b'
  rotate_left
  · simp [h1]
  subst h1
  by_cases h2 : c = c'
  rotate_left
  · simp [h2]
  subst h2
  simp [*]
theorem tcell_guard (op : BinOp) (x y : Operand) (a b c a' b' c' : Int) (w : World) : (eqGuard op 26 x y (.agg #[.int .i64 a, .int .i64 b, .int .i64 c]) (.agg #[.int .i64 a', .int .i64 b', .int .i64 c'])).run Tryd.prog w = .ok () w := run_eqGuard_agg w op 26 x y _ _ (by kernel_rfl)
theorem sides2 {b : Nat} {t : TypeId} {w : World} {x0 x1 : Value} (h : w.heap[b]? = some (.cells #[x0, x1] t (0, 0))) : w.cell? ⟨b, 0, none⟩ = some x0 ∧ w.cell? ⟨b, 1, none⟩ = some x1 := by
  refine ⟨?_, ?_⟩ <;> (unfold World.cell?; dsimp only; rw [h]; rfl)
theorem lookT_rng (p e k s : Int) : 0 ≤ (lookT p e k s).1 ∧ (lookT p e k s).1 ≤ 14 := by
  unfold lookT
  split
  · exact ⟨by decide, by decide⟩
  split
  · exact ⟨by decide, by decide⟩
  split
  · exact ⟨by decide, by decide⟩
  · exact ⟨by simp, by simp⟩
theorem stepT_rng (p e k s : Int) : 0 ≤ (stepT p e k s).1 ∧ (stepT p e k s).1 ≤ 14 := by
  unfold stepT
  split
  · exact ⟨by decide, by decide⟩
  split
  · exact ⟨by decide, by decide⟩
  split
  · exact ⟨by decide, by decide⟩
  split
  · exact ⟨by decide, by decide⟩
  · exact ⟨by simp, by simp⟩
set_option maxRecDepth 100000 in
theorem alive10_any (ads : List Addr) (w : World) (C : TabC ads w) : Calls Tryd.prog 10 #[] w fun e w' => e = .returned (.bool true) ∧ Kp w w' := by
  have H1 := fun w1 (hk : Kp w w1) => C.look w1 hk 1 1 3 2 (by decide) (by decide) (by decide) (by decide)
  have H2 := fun w1 (hk : Kp w w1) => C.look w1 hk 2 2 10 5 (by decide) (by decide) (by decide) (by decide)
  rw [show lookT 1 1 3 2 = (0, 1, 5, 0) by decide] at H1
  rw [show lookT 2 2 10 5 = (0, 3, 0, 3) by decide] at H2
  simp only [errI_nil, cellV] at H1 H2
  have H1 := Lib.hid H1
  have H2 := Lib.hid H2
  clear C
  go_enter Tryd.func10, Tryd.ntmps10
  go_wp2_with (first
    | (go_at_call 11; (with_reducible refine (H1.out _ (Kp.refl _)).mono ?_); rintro e w1 ⟨rfl, hk⟩; have K1 := Lib.hid (Kp.trans hk (kp_alloc w1 (.cells #[.int .i64 1, .int .i64 5, .int .i64 0] 26))); have B1 := Lib.hid (MapKept.heap_alloc w1 (.cells #[.int .i64 1, .int .i64 5, .int .i64 0] 26)).1; clear hk)
    | (go_at_call 11; (with_reducible refine (H2.out _ K1.out).mono ?_); rintro e w2 ⟨rfl, hk⟩; have K2 := Lib.hid (Kp.trans K1.out (Kp.trans hk (kp_alloc w2 (.cells #[.int .i64 3, .int .i64 0, .int .i64 3] 26)))); have B2 := kp_row (Kp.trans hk (kp_alloc w2 (.cells #[.int .i64 3, .int .i64 0, .int .i64 3] 26))) B1.out; obtain ⟨b0, b1, b2⟩ := cells3 B2; clear hk))
  go_ret
  exact ⟨by first | rfl | simp, K2.out⟩
end Go.Proofs.YtoeidlhcioponaaDoor
