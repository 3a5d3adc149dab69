/-
  WHAT AN ACT TURNS (own work): its counter alone; boxes; the document's number of an act's error; what CatchTries hands to Try.
-/
import Derived.Test.YtcgcliglcdfijaaDoorAlive
namespace Go.Proofs.YtcgcliglcdfijaaDoor
open Go.RowKit Go.Extern.Stop Go.Stop Go.Extern

theorem kp_cell {w w' : World} {q : Addr} {v : Value} (h : Kp w w') (hc : w.cell? q = some v) : w'.cell? q = some v := by
  rw [Below.cell h (old_of_cell hc)]; exact hc
theorem kp_frozen {w w' : World} {q : Addr} {v : Value} (h : Kp w w') (hc : w.cell? q = some v) (hz : w.frozen? q = false) : w'.frozen? q = false := by
  rw [Below.frozen h (old_of_cell hc)]; exact hz
theorem below_cell {B : Nat} {w w' : World} {q : Addr} {v : Value} (h : Below B w w') (hq : q.block < B) (hc : w.cell? q = some v) : w'.cell? q = some v := by
  rw [Below.cell h hq]; exact hc

theorem box_cell (w : World) (u : Value) (t : TypeId) : (w.alloc (.cells #[u] t)).cell? ⟨w.heap.size, 0, none⟩ = some u := by
  have e : (w.alloc (.cells #[u] t)).heap[w.heap.size]? = some (.cells #[u] t) := (MapKept.heap_alloc w _).1
  unfold World.cell?
  dsimp only
  rw [e]
  rfl
theorem box_frozen (w : World) (u : Value) (t : TypeId) : (w.alloc (.cells #[u] t)).frozen? ⟨w.heap.size, 0, none⟩ = false := by
  have e : (w.alloc (.cells #[u] t)).heap[w.heap.size]? = some (.cells #[u] t) := (MapKept.heap_alloc w _).1
  unfold World.frozen?
  dsimp only
  rw [e]
  rfl
theorem kp_alloc (w : World) (o : Obj) : Kp w (w.alloc o) := (Below.refl _ _).alloc (Nat.le_refl _) _

/-! ### a counter that goes up -/
theorem setCell_at (w : World) (p : Addr) (v : Value) : (w.setCell p v).heap.size = w.heap.size := by simp [World.setCell]

theorem setCell_row {w w1 : World} {p : Addr} (v : Value) (b : Nat) (h : w1.heap[b]? = w.heap[b]?) : (w1.setCell p v).heap[b]? = (w.setCell p v).heap[b]? := by
  simp only [World.setCell, Array.getElem?_modify]
  by_cases e : p.block = b
  · simp [e, h]
  · simp [e, h]

theorem mid_dw {w w' : World} {p : Addr} {c : Int} (h : Mid w (DW p c) w') : DW p c w w' := by
  obtain ⟨w1, w2, h1, h2, h3⟩ := h
  have s1 : (w.setCell p (.int .i64 (wrap64 (c + 1)))).heap.size = w.heap.size := setCell_at _ _ _
  have s2 : (w1.setCell p (.int .i64 (wrap64 (c + 1)))).heap.size = w1.heap.size := setCell_at _ _ _
  unfold DW Kp at h2 ⊢
  rw [s2] at h2
  rw [s1]
  refine ⟨(h3.os.trans h2.os).trans h1.os, (h3.tape.trans h2.tape).trans h1.tape, (h3.output.trans h2.output).trans h1.output, ?_, fun b hb => ?_⟩
  · rw [s1]
    have := h2.size
    rw [s2] at this
    exact Nat.le_trans h1.size (Nat.le_trans this h3.size)
  · rw [h3.block b hb, h2.block b (Nat.lt_of_lt_of_le hb h1.size)]
    exact setCell_row _ b (h1.block b hb)

theorem dw_size {w w' : World} {p : Addr} {c : Int} (h : DW p c w w') : w.heap.size ≤ w'.heap.size := by
  have := Below.size h
  rw [setCell_at] at this
  exact this

theorem dw_past {w w' : World} {p : Addr} {c : Int} {B : Nat} (h : DW p c w w') (hp : p.block < B) : Past B w w' := by
  refine ⟨dw_size h, fun b hb hl => ?_⟩
  rw [Below.block h b (by rw [setCell_at]; exact hl)]
  exact Below.heap_setCell _ _ _ _ (by omega)

theorem dw_below {w w' : World} {p : Addr} {c : Int} {B : Nat} (h : DW p c w w') (hp : B ≤ p.block) (hB : B ≤ w.heap.size) : Below B w w' := by
  have h' : Below B (w.setCell p (.int .i64 (wrap64 (c + 1)))) w' := Below.mono h (by rw [setCell_at]; exact hB)
  exact ((Below.refl B w).setCell hp _).trans h'

theorem dw_cell {w w' : World} {p : Addr} {c : Int} {v : Value} (h : DW p c w w') (hc : w.cell? p = some v) : w'.cell? p = some (.int .i64 (wrap64 (c + 1))) := by
  have : (w.setCell p (.int .i64 (wrap64 (c + 1)))).cell? p = some (.int .i64 (wrap64 (c + 1))) := by
    simp [go_sem, hc]
  exact kp_cell h this

theorem dw_other {w w' : World} {p q : Addr} {c : Int} {v : Value} (h : DW p c w w') (hq : q.block ≠ p.block) (hc : w.cell? q = some v) : w'.cell? q = some v := by
  refine kp_cell h ?_
  have e : (w.setCell p (.int .i64 (wrap64 (c + 1)))).heap[q.block]? = w.heap[q.block]? := Below.heap_setCell _ _ _ _ hq
  rw [← hc]
  exact World.cell?_of_block e
end Go.Proofs.YtcgcliglcdfijaaDoor
