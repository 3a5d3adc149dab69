/-
  TWO SEATS, TWO EFFECTS COMPARED (own work).
-/
import Derived.Test.YtghjnhdepeiloaaDoorMvA
import Derived.Test.YtghjnhdepeiloaaDoorTabC
import Derived.Laws.StructEq
namespace Go.Proofs.YtghjnhdepeiloaaDoor
open Go.RowKit Go.ChangeShapes Go.WideShapes

theorem mseat_fields : Tryd.prog.underlying 23 = some (.struct (Tryd.prog.fieldsOf 23)) := by
  unfold Program.fieldsOf
  rw [Tryd.underlying23]
theorem mseat_eql (a b c d a' b' c' d' : Int) (w : World) : (binOp .eql 23 (.agg #[.int .i64 a, .int .i64 b, .int .i64 c, .int .i64 d]) (.agg #[.int .i64 a', .int .i64 b', .int .i64 c', .int .i64 d'])).run Tryd.prog w = .ok (.bool (decide (a = a' ∧ b = b' ∧ c = c' ∧ d = d'))) w := by
  have ha : Tryd.prog.stoodInHeld 23 = false := by kernel_rfl
  rw [run_eql_struct, show (10000 : Nat) = 9999 + 1 from rfl, run_equalIn_agg w 9999 23 _ _ mseat_fields ha]
  simp [Program.fieldsOf, Tryd.underlying23, Op.eqFields, part, go_sem]
  by_cases h0 : a = a'
  rotate_left
  · simp [h0]
  subst h0
  by_cases h1 : b = b'
  rotate_left
  · simp [h1]
  subst h1
  by_cases h2 : c = c'
  rotate_left
  · simp [h2]
  subst h2
  by_cases h3 : d = d'
  rotate_left
  · simp [h3]
  subst h3
  simp [*]
theorem mseat_guard (op : BinOp) (x y : Operand) (a b c d a' b' c' d' : Int) (w : World) : (eqGuard op 23 x y (.agg #[.int .i64 a, .int .i64 b, .int .i64 c, .int .i64 d]) (.agg #[.int .i64 a', .int .i64 b', .int .i64 c', .int .i64 d'])).run Tryd.prog w = .ok () w := run_eqGuard_agg w op 23 x y _ _ (by kernel_rfl)
theorem rseat_fields : Tryd.prog.underlying 25 = some (.struct (Tryd.prog.fieldsOf 25)) := by
  unfold Program.fieldsOf
  rw [Tryd.underlying25]
theorem rseat_eql (a b c d a' b' c' d' : Int) (w : World) : (binOp .eql 25 (.agg #[.int .i64 a, .int .i64 b, .int .i64 c, .int .i64 d]) (.agg #[.int .i64 a', .int .i64 b', .int .i64 c', .int .i64 d'])).run Tryd.prog w = .ok (.bool (decide (a = a' ∧ b = b' ∧ c = c' ∧ d = d'))) w := by
  have ha : Tryd.prog.stoodInHeld 25 = false := by kernel_rfl
  rw [run_eql_struct, show (10000 : Nat) = 9999 + 1 from rfl, run_equalIn_agg w 9999 25 _ _ rseat_fields ha]
  simp [Program.fieldsOf, Tryd.underlying25, Op.eqFields, part, go_sem]
  by_cases h0 : a = a'
  rotate_left
  · simp [h0]
  subst h0
  by_cases h1 : b = b'
  rotate_left
  · simp [h1]
  subst h1
  by_cases h2 : c = c'
  rotate_left
  · simp [h2]
  subst h2
  by_cases h3 : d = d'
  rotate_left
  · simp [h3]
  subst h3
  simp [*]
theorem rseat_guard (op : BinOp) (x y : Operand) (a b c d a' b' c' d' : Int) (w : World) : (eqGuard op 25 x y (.agg #[.int .i64 a, .int .i64 b, .int .i64 c, .int .i64 d]) (.agg #[.int .i64 a', .int .i64 b', .int .i64 c', .int .i64 d'])).run Tryd.prog w = .ok () w := run_eqGuard_agg w op 25 x y _ _ (by kernel_rfl)
set_option maxRecDepth 100000 in
theorem same_t (a0 a1 a2 a3 a4 a5 a6 : Int) (a7 : Bool) (w : World) : Calls Tryd.prog 14 #[.agg #[.int .i64 a0, .int .i64 a1, .int .i64 a2, .int .i64 a3, .int .i64 a4, .int .i64 a5, .int .i64 a6, .bool a7], .agg #[.int .i64 a0, .int .i64 a1, .int .i64 a2, .int .i64 a3, .int .i64 a4, .int .i64 a5, .int .i64 a6, .bool a7]] w fun r w' => r = .returned (.bool true) ∧ Kp w w' := by
  have k2 := kp_alloc (w.alloc (.cells #[.int .i64 a0, .int .i64 a1, .int .i64 a2, .int .i64 a3, .int .i64 a4, .int .i64 a5, .int .i64 a6, .bool a7] 27)) (.cells #[.int .i64 a0, .int .i64 a1, .int .i64 a2, .int .i64 a3, .int .i64 a4, .int .i64 a5, .int .i64 a6, .bool a7] 33)
  have r1 := kp_row k2 (MapKept.heap_alloc w (.cells #[.int .i64 a0, .int .i64 a1, .int .i64 a2, .int .i64 a3, .int .i64 a4, .int .i64 a5, .int .i64 a6, .bool a7] 27)).1
  have r2 := (MapKept.heap_alloc (w.alloc (.cells #[.int .i64 a0, .int .i64 a1, .int .i64 a2, .int .i64 a3, .int .i64 a4, .int .i64 a5, .int .i64 a6, .bool a7] 27)) (.cells #[.int .i64 a0, .int .i64 a1, .int .i64 a2, .int .i64 a3, .int .i64 a4, .int .i64 a5, .int .i64 a6, .bool a7] 33)).1
  rw [show (w.alloc (.cells #[.int .i64 a0, .int .i64 a1, .int .i64 a2, .int .i64 a3, .int .i64 a4, .int .i64 a5, .int .i64 a6, .bool a7] 27)).heap.size = w.heap.size + 1 by simp] at r2
  have K2 := Lib.hid (Kp.trans (kp_alloc w (.cells #[.int .i64 a0, .int .i64 a1, .int .i64 a2, .int .i64 a3, .int .i64 a4, .int .i64 a5, .int .i64 a6, .bool a7] 27)) k2)
  obtain ⟨x0, x1, x2, x3, x4, x5, x6, x7⟩ := cells_8 r1
  obtain ⟨y0, y1, y2, y3, y4, y5, y6, y7⟩ := cells_8 r2
  have hq := fun w => rseat_eql a0 a1 a2 a3 a0 a1 a2 a3 w
  have hg := fun op x y w => rseat_guard op x y a0 a1 a2 a3 a0 a1 a2 a3 w
  simp only [and_self, decide_true] at hq
  clear k2 r1 r2
  go_enter Tryd.func14, Tryd.ntmps14
  go_wp2
  go_ret
  exact ⟨by first | rfl | (simp; done), K2.out⟩
end Go.Proofs.YtghjnhdepeiloaaDoor
