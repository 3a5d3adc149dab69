/-
  ARRAYS OF INTS HELD AGAINST EACH OTHER; A BOX WRITTEN BY A CLOSURE (own work).
-/
import Derived.Test.YtghjnhdepeiloaaDoorKp
import Derived.ChangeKeysEq
import Derived.Laws.StructEq
import Derived.Lib.SmallJoins
namespace Go.Proofs.YtghjnhdepeiloaaDoor
open Go.RowKit Go.ChangeShapes Go.WideShapes

theorem arrInt : ∃ i : TypeInfo, Tryd.prog.info? 3 = some i := by
  have h : (Tryd.prog.info? 3).isSome = true := by kernel_rfl
  exact Option.isSome_iff_exists.1 h
theorem arr2_eql {t : TypeId} (hu : Tryd.prog.underlying t = some (.array 2 3)) (a0 a1 b0 b1 : Int) (w : World) : (binOp .eql t (.agg #[.int .i64 a0, .int .i64 a1]) (.agg #[.int .i64 b0, .int .i64 b1])).run Tryd.prog w = .ok (.bool (a0 == b0 && (a1 == b1))) w := by
  obtain ⟨i, hi⟩ := arrInt
  have hc : Tryd.prog.cellsOf 3 = 1 := by kernel_rfl
  rw [run_eql_struct, show (10000 : Nat) = 9999 + 1 from rfl, run_equalIn_array w 9999 _ _ hu hi, hc]
  simp [Op.eqItems, part, go_sem, List.range, List.range.loop, Tryd.underlying3]
  by_cases h0 : a0 = b0
  rotate_left
  · simp [h0]
  subst h0
  by_cases h1 : a1 = b1
  · simp [h1]
  · simp [h1]
theorem arr3_eql {t : TypeId} (hu : Tryd.prog.underlying t = some (.array 3 3)) (a0 a1 a2 b0 b1 b2 : Int) (w : World) : (binOp .eql t (.agg #[.int .i64 a0, .int .i64 a1, .int .i64 a2]) (.agg #[.int .i64 b0, .int .i64 b1, .int .i64 b2])).run Tryd.prog w = .ok (.bool (a0 == b0 && (a1 == b1 && (a2 == b2)))) w := by
  obtain ⟨i, hi⟩ := arrInt
  have hc : Tryd.prog.cellsOf 3 = 1 := by kernel_rfl
  rw [run_eql_struct, show (10000 : Nat) = 9999 + 1 from rfl, run_equalIn_array w 9999 _ _ hu hi, hc]
  simp [Op.eqItems, part, go_sem, List.range, List.range.loop, Tryd.underlying3]
  by_cases h0 : a0 = b0
  rotate_left
  · simp [h0]
  subst h0
  by_cases h1 : a1 = b1
  rotate_left
  · simp [h1]
  subst h1
  by_cases h2 : a2 = b2
  · simp [h2]
  · simp [h2]
theorem arr4_eql {t : TypeId} (hu : Tryd.prog.underlying t = some (.array 4 3)) (a0 a1 a2 a3 b0 b1 b2 b3 : Int) (w : World) : (binOp .eql t (.agg #[.int .i64 a0, .int .i64 a1, .int .i64 a2, .int .i64 a3]) (.agg #[.int .i64 b0, .int .i64 b1, .int .i64 b2, .int .i64 b3])).run Tryd.prog w = .ok (.bool (a0 == b0 && (a1 == b1 && (a2 == b2 && (a3 == b3))))) w := by
  obtain ⟨i, hi⟩ := arrInt
  have hc : Tryd.prog.cellsOf 3 = 1 := by kernel_rfl
  rw [run_eql_struct, show (10000 : Nat) = 9999 + 1 from rfl, run_equalIn_array w 9999 _ _ hu hi, hc]
  simp [Op.eqItems, part, go_sem, List.range, List.range.loop, Tryd.underlying3]
  by_cases h0 : a0 = b0
  rotate_left
  · simp [h0]
  subst h0
  by_cases h1 : a1 = b1
  rotate_left
  · simp [h1]
  subst h1
  by_cases h2 : a2 = b2
  rotate_left
  · simp [h2]
  subst h2
  by_cases h3 : a3 = b3
  · simp [h3]
  · simp [h3]
theorem arr_guard (t : TypeId) (h : Tryd.prog.eqGuardType Tryd.prog.depth t = false) (op : BinOp) (x y : Operand) (xs ys : Array Value) (w : World) : (eqGuard op t x y (.agg xs) (.agg ys)).run Tryd.prog w = .ok () w := run_eqGuard_agg w op t x y _ _ h
theorem boxS_frozen {b : Nat} {t : TypeId} {w : World} {cs : Array Value} (h : w.heap[b]? = some (.cells cs t (0, 0))) (i : Nat) : w.frozen? ⟨b, i, none⟩ = false := by
  unfold World.frozen?
  dsimp only
  rw [h]
  simp
theorem boxS_at {b : Nat} {t : TypeId} {w : World} {v : Value} (h : w.heap[b]? = some (.cells #[v] t (0, 0))) : w.cell? ⟨b, 0, none⟩ = some v := by simp [World.cell?, h]
theorem boxS_set {w : World} {b : Nat} {t : TypeId} {old : Value} (v : Value) (h : w.heap[b]? = some (.cells #[old] t (0, 0))) : (w.setCell ⟨b, 0, none⟩ v).heap[b]? = some (.cells #[v] t (0, 0)) := (Joins.block_setCell h _).trans rfl
end Go.Proofs.YtghjnhdepeiloaaDoor
