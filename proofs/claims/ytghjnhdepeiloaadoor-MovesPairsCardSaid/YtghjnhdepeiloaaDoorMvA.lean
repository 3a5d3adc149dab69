/-
  ROWS OF CELLS; liaisonref11: Right, Work, moved (own work).
-/
import Derived.Test.YtghjnhdepeiloaaDoorMovC
import Derived.Test.YtghjnhdepeiloaaDoorRefT
import Derived.LoopTactic
import Derived.BigQuiet
import Derived.Lib.SmallJoins
import Derived.Deep.RegionHeld3
namespace Go.Proofs.YtghjnhdepeiloaaDoor
open Go.RowKit Go.ChangeShapes Go.WideShapes

theorem cells_4 {b : Nat} {t : TypeId} {w : World} {x0 x1 x2 x3 : Value} (h : w.heap[b]? = some (.cells #[x0, x1, x2, x3] t (0, 0))) : w.cell? ⟨b, 0, none⟩ = some x0 ∧ w.cell? ⟨b, 1, none⟩ = some x1 ∧ w.cell? ⟨b, 2, none⟩ = some x2 ∧ w.cell? ⟨b, 3, none⟩ = some x3 := by
  refine ⟨?_, ?_, ?_, ?_⟩ <;> (unfold World.cell?; dsimp only; rw [h]; rfl)
theorem set_4 {b : Nat} {t : TypeId} {w : World} {x0 x1 x2 x3 : Value} (y0 y1 y2 y3 : Value) (h : w.heap[b]? = some (.cells #[x0, x1, x2, x3] t (0, 0))) : ((((w.setCell ⟨b, 0, none⟩ y0).setCell ⟨b, 1, none⟩ y1).setCell ⟨b, 2, none⟩ y2).setCell ⟨b, 3, none⟩ y3).heap[b]? = some (.cells #[y0, y1, y2, y3] t (0, 0)) := by
  have h0 : (w.setCell ⟨b, 0, none⟩ y0).heap[b]? = some (.cells #[y0, x1, x2, x3] t (0, 0)) := (Joins.block_setCell h _).trans rfl
  have h1 : ((w.setCell ⟨b, 0, none⟩ y0).setCell ⟨b, 1, none⟩ y1).heap[b]? = some (.cells #[y0, y1, x2, x3] t (0, 0)) := (Joins.block_setCell h0 _).trans rfl
  have h2 : (((w.setCell ⟨b, 0, none⟩ y0).setCell ⟨b, 1, none⟩ y1).setCell ⟨b, 2, none⟩ y2).heap[b]? = some (.cells #[y0, y1, y2, x3] t (0, 0)) := (Joins.block_setCell h1 _).trans rfl
  have h3 : ((((w.setCell ⟨b, 0, none⟩ y0).setCell ⟨b, 1, none⟩ y1).setCell ⟨b, 2, none⟩ y2).setCell ⟨b, 3, none⟩ y3).heap[b]? = some (.cells #[y0, y1, y2, y3] t (0, 0)) := (Joins.block_setCell h2 _).trans rfl
  exact h3
theorem set_4_kp {b : Nat} {w0 w : World} (hk : Kp w0 w) (hb : w0.heap.size ≤ b) (y0 y1 y2 y3 : Value) : Kp w0 ((((w.setCell ⟨b, 0, none⟩ y0).setCell ⟨b, 1, none⟩ y1).setCell ⟨b, 2, none⟩ y2).setCell ⟨b, 3, none⟩ y3) := by
  refine Below.setCell ?_ hb _
  refine Below.setCell ?_ hb _
  refine Below.setCell ?_ hb _
  refine Below.setCell ?_ hb _
  exact hk
theorem set_4_ne {b c : Nat} {w : World} {o : Obj} (y0 y1 y2 y3 : Value) (h : w.heap[c]? = some o) (hne : c ≠ b) : ((((w.setCell ⟨b, 0, none⟩ y0).setCell ⟨b, 1, none⟩ y1).setCell ⟨b, 2, none⟩ y2).setCell ⟨b, 3, none⟩ y3).heap[c]? = some o := by
  rw [Below.heap_setCell _ _ _ _ hne, Below.heap_setCell _ _ _ _ hne, Below.heap_setCell _ _ _ _ hne, Below.heap_setCell _ _ _ _ hne]
  exact h
theorem cells_5 {b : Nat} {t : TypeId} {w : World} {x0 x1 x2 x3 x4 : Value} (h : w.heap[b]? = some (.cells #[x0, x1, x2, x3, x4] t (0, 0))) : w.cell? ⟨b, 0, none⟩ = some x0 ∧ w.cell? ⟨b, 1, none⟩ = some x1 ∧ w.cell? ⟨b, 2, none⟩ = some x2 ∧ w.cell? ⟨b, 3, none⟩ = some x3 ∧ w.cell? ⟨b, 4, none⟩ = some x4 := by
  refine ⟨?_, ?_, ?_, ?_, ?_⟩ <;> (unfold World.cell?; dsimp only; rw [h]; rfl)
theorem set_5 {b : Nat} {t : TypeId} {w : World} {x0 x1 x2 x3 x4 : Value} (y0 y1 y2 y3 y4 : Value) (h : w.heap[b]? = some (.cells #[x0, x1, x2, x3, x4] t (0, 0))) : (((((w.setCell ⟨b, 0, none⟩ y0).setCell ⟨b, 1, none⟩ y1).setCell ⟨b, 2, none⟩ y2).setCell ⟨b, 3, none⟩ y3).setCell ⟨b, 4, none⟩ y4).heap[b]? = some (.cells #[y0, y1, y2, y3, y4] t (0, 0)) := by
  have h0 : (w.setCell ⟨b, 0, none⟩ y0).heap[b]? = some (.cells #[y0, x1, x2, x3, x4] t (0, 0)) := (Joins.block_setCell h _).trans rfl
  have h1 : ((w.setCell ⟨b, 0, none⟩ y0).setCell ⟨b, 1, none⟩ y1).heap[b]? = some (.cells #[y0, y1, x2, x3, x4] t (0, 0)) := (Joins.block_setCell h0 _).trans rfl
  have h2 : (((w.setCell ⟨b, 0, none⟩ y0).setCell ⟨b, 1, none⟩ y1).setCell ⟨b, 2, none⟩ y2).heap[b]? = some (.cells #[y0, y1, y2, x3, x4] t (0, 0)) := (Joins.block_setCell h1 _).trans rfl
  have h3 : ((((w.setCell ⟨b, 0, none⟩ y0).setCell ⟨b, 1, none⟩ y1).setCell ⟨b, 2, none⟩ y2).setCell ⟨b, 3, none⟩ y3).heap[b]? = some (.cells #[y0, y1, y2, y3, x4] t (0, 0)) := (Joins.block_setCell h2 _).trans rfl
  have h4 : (((((w.setCell ⟨b, 0, none⟩ y0).setCell ⟨b, 1, none⟩ y1).setCell ⟨b, 2, none⟩ y2).setCell ⟨b, 3, none⟩ y3).setCell ⟨b, 4, none⟩ y4).heap[b]? = some (.cells #[y0, y1, y2, y3, y4] t (0, 0)) := (Joins.block_setCell h3 _).trans rfl
  exact h4
theorem set_5_kp {b : Nat} {w0 w : World} (hk : Kp w0 w) (hb : w0.heap.size ≤ b) (y0 y1 y2 y3 y4 : Value) : Kp w0 (((((w.setCell ⟨b, 0, none⟩ y0).setCell ⟨b, 1, none⟩ y1).setCell ⟨b, 2, none⟩ y2).setCell ⟨b, 3, none⟩ y3).setCell ⟨b, 4, none⟩ y4) := by
  refine Below.setCell ?_ hb _
  refine Below.setCell ?_ hb _
  refine Below.setCell ?_ hb _
  refine Below.setCell ?_ hb _
  refine Below.setCell ?_ hb _
  exact hk
theorem set_5_ne {b c : Nat} {w : World} {o : Obj} (y0 y1 y2 y3 y4 : Value) (h : w.heap[c]? = some o) (hne : c ≠ b) : (((((w.setCell ⟨b, 0, none⟩ y0).setCell ⟨b, 1, none⟩ y1).setCell ⟨b, 2, none⟩ y2).setCell ⟨b, 3, none⟩ y3).setCell ⟨b, 4, none⟩ y4).heap[c]? = some o := by
  rw [Below.heap_setCell _ _ _ _ hne, Below.heap_setCell _ _ _ _ hne, Below.heap_setCell _ _ _ _ hne, Below.heap_setCell _ _ _ _ hne, Below.heap_setCell _ _ _ _ hne]
  exact h
theorem cells_8 {b : Nat} {t : TypeId} {w : World} {x0 x1 x2 x3 x4 x5 x6 x7 : Value} (h : w.heap[b]? = some (.cells #[x0, x1, x2, x3, x4, x5, x6, x7] t (0, 0))) : w.cell? ⟨b, 0, none⟩ = some x0 ∧ w.cell? ⟨b, 1, none⟩ = some x1 ∧ w.cell? ⟨b, 2, none⟩ = some x2 ∧ w.cell? ⟨b, 3, none⟩ = some x3 ∧ w.cell? ⟨b, 4, none⟩ = some x4 ∧ w.cell? ⟨b, 5, none⟩ = some x5 ∧ w.cell? ⟨b, 6, none⟩ = some x6 ∧ w.cell? ⟨b, 7, none⟩ = some x7 := by
  refine ⟨?_, ?_, ?_, ?_, ?_, ?_, ?_, ?_⟩ <;> (unfold World.cell?; dsimp only; rw [h]; rfl)
theorem set_8 {b : Nat} {t : TypeId} {w : World} {x0 x1 x2 x3 x4 x5 x6 x7 : Value} (y0 y1 y2 y3 y4 y5 y6 y7 : Value) (h : w.heap[b]? = some (.cells #[x0, x1, x2, x3, x4, x5, x6, x7] t (0, 0))) : ((((((((w.setCell ⟨b, 0, none⟩ y0).setCell ⟨b, 1, none⟩ y1).setCell ⟨b, 2, none⟩ y2).setCell ⟨b, 3, none⟩ y3).setCell ⟨b, 4, none⟩ y4).setCell ⟨b, 5, none⟩ y5).setCell ⟨b, 6, none⟩ y6).setCell ⟨b, 7, none⟩ y7).heap[b]? = some (.cells #[y0, y1, y2, y3, y4, y5, y6, y7] t (0, 0)) := by
  have h0 : (w.setCell ⟨b, 0, none⟩ y0).heap[b]? = some (.cells #[y0, x1, x2, x3, x4, x5, x6, x7] t (0, 0)) := (Joins.block_setCell h _).trans rfl
  have h1 : ((w.setCell ⟨b, 0, none⟩ y0).setCell ⟨b, 1, none⟩ y1).heap[b]? = some (.cells #[y0, y1, x2, x3, x4, x5, x6, x7] t (0, 0)) := (Joins.block_setCell h0 _).trans rfl
  have h2 : (((w.setCell ⟨b, 0, none⟩ y0).setCell ⟨b, 1, none⟩ y1).setCell ⟨b, 2, none⟩ y2).heap[b]? = some (.cells #[y0, y1, y2, x3, x4, x5, x6, x7] t (0, 0)) := (Joins.block_setCell h1 _).trans rfl
  have h3 : ((((w.setCell ⟨b, 0, none⟩ y0).setCell ⟨b, 1, none⟩ y1).setCell ⟨b, 2, none⟩ y2).setCell ⟨b, 3, none⟩ y3).heap[b]? = some (.cells #[y0, y1, y2, y3, x4, x5, x6, x7] t (0, 0)) := (Joins.block_setCell h2 _).trans rfl
  have h4 : (((((w.setCell ⟨b, 0, none⟩ y0).setCell ⟨b, 1, none⟩ y1).setCell ⟨b, 2, none⟩ y2).setCell ⟨b, 3, none⟩ y3).setCell ⟨b, 4, none⟩ y4).heap[b]? = some (.cells #[y0, y1, y2, y3, y4, x5, x6, x7] t (0, 0)) := (Joins.block_setCell h3 _).trans rfl
  have h5 : ((((((w.setCell ⟨b, 0, none⟩ y0).setCell ⟨b, 1, none⟩ y1).setCell ⟨b, 2, none⟩ y2).setCell ⟨b, 3, none⟩ y3).setCell ⟨b, 4, none⟩ y4).setCell ⟨b, 5, none⟩ y5).heap[b]? = some (.cells #[y0, y1, y2, y3, y4, y5, x6, x7] t (0, 0)) := (Joins.block_setCell h4 _).trans rfl
  have h6 : (((((((w.setCell ⟨b, 0, none⟩ y0).setCell ⟨b, 1, none⟩ y1).setCell ⟨b, 2, none⟩ y2).setCell ⟨b, 3, none⟩ y3).setCell ⟨b, 4, none⟩ y4).setCell ⟨b, 5, none⟩ y5).setCell ⟨b, 6, none⟩ y6).heap[b]? = some (.cells #[y0, y1, y2, y3, y4, y5, y6, x7] t (0, 0)) := (Joins.block_setCell h5 _).trans rfl
  have h7 : ((((((((w.setCell ⟨b, 0, none⟩ y0).setCell ⟨b, 1, none⟩ y1).setCell ⟨b, 2, none⟩ y2).setCell ⟨b, 3, none⟩ y3).setCell ⟨b, 4, none⟩ y4).setCell ⟨b, 5, none⟩ y5).setCell ⟨b, 6, none⟩ y6).setCell ⟨b, 7, none⟩ y7).heap[b]? = some (.cells #[y0, y1, y2, y3, y4, y5, y6, y7] t (0, 0)) := (Joins.block_setCell h6 _).trans rfl
  exact h7
theorem set_8_kp {b : Nat} {w0 w : World} (hk : Kp w0 w) (hb : w0.heap.size ≤ b) (y0 y1 y2 y3 y4 y5 y6 y7 : Value) : Kp w0 ((((((((w.setCell ⟨b, 0, none⟩ y0).setCell ⟨b, 1, none⟩ y1).setCell ⟨b, 2, none⟩ y2).setCell ⟨b, 3, none⟩ y3).setCell ⟨b, 4, none⟩ y4).setCell ⟨b, 5, none⟩ y5).setCell ⟨b, 6, none⟩ y6).setCell ⟨b, 7, none⟩ y7) := by
  refine Below.setCell ?_ hb _
  refine Below.setCell ?_ hb _
  refine Below.setCell ?_ hb _
  refine Below.setCell ?_ hb _
  refine Below.setCell ?_ hb _
  refine Below.setCell ?_ hb _
  refine Below.setCell ?_ hb _
  refine Below.setCell ?_ hb _
  exact hk
theorem set_8_ne {b c : Nat} {w : World} {o : Obj} (y0 y1 y2 y3 y4 y5 y6 y7 : Value) (h : w.heap[c]? = some o) (hne : c ≠ b) : ((((((((w.setCell ⟨b, 0, none⟩ y0).setCell ⟨b, 1, none⟩ y1).setCell ⟨b, 2, none⟩ y2).setCell ⟨b, 3, none⟩ y3).setCell ⟨b, 4, none⟩ y4).setCell ⟨b, 5, none⟩ y5).setCell ⟨b, 6, none⟩ y6).setCell ⟨b, 7, none⟩ y7).heap[c]? = some o := by
  rw [Below.heap_setCell _ _ _ _ hne, Below.heap_setCell _ _ _ _ hne, Below.heap_setCell _ _ _ _ hne, Below.heap_setCell _ _ _ _ hne, Below.heap_setCell _ _ _ _ hne, Below.heap_setCell _ _ _ _ hne, Below.heap_setCell _ _ _ _ hne, Below.heap_setCell _ _ _ _ hne]
  exact h
theorem frozN {b : Nat} {t : TypeId} {w : World} {cs : Array Value} (h : w.heap[b]? = some (.cells cs t (0, 0))) (i : Nat) : w.frozen? ⟨b, i, none⟩ = false := by
  unfold World.frozen?
  dsimp only
  rw [h]
  simp
theorem kp_drewM {a b : World} (h : Kp a b) : Kp a b.drew := ⟨h.os, h.tape, h.output, h.size, h.block⟩
theorem fS0 (a b c d : Int) (w : World) : (Instr.field 23 (.agg #[.int .i64 a, .int .i64 b, .int .i64 c, .int .i64 d]) 0).run Tryd.prog w = .ok (.int .i64 a) w := by kernel_rfl
theorem fS1 (a b c d : Int) (w : World) : (Instr.field 23 (.agg #[.int .i64 a, .int .i64 b, .int .i64 c, .int .i64 d]) 1).run Tryd.prog w = .ok (.int .i64 b) w := by kernel_rfl
theorem fS2 (a b c d : Int) (w : World) : (Instr.field 23 (.agg #[.int .i64 a, .int .i64 b, .int .i64 c, .int .i64 d]) 2).run Tryd.prog w = .ok (.int .i64 c) w := by kernel_rfl
theorem fS3 (a b c d : Int) (w : World) : (Instr.field 23 (.agg #[.int .i64 a, .int .i64 b, .int .i64 c, .int .i64 d]) 3).run Tryd.prog w = .ok (.int .i64 d) w := by kernel_rfl
theorem drew_heapM (w : World) : w.drew.heap = w.heap := rfl
set_option maxRecDepth 100000 in
theorem refWork_any (z : SeatM) (w : World) : Calls Tryd.prog 20 #[.agg (seatV z)] w fun r w' => r = .returned (.int .i64 z.work) ∧ Kp w w' := by
  obtain ⟨p, e, s, h⟩ := z
  dsimp only [seatV]
  have KB := Lib.hid (kp_alloc w (.cells #[.int .i64 p, .int .i64 e, .int .i64 s, .int .i64 h] 25))
  have HR := Lib.hid (MapKept.heap_alloc w (.cells #[.int .i64 p, .int .i64 e, .int .i64 s, .int .i64 h] 25)).1
  obtain ⟨g0, g1, g2, g3⟩ := cells_4 HR.out
  by_cases he : e = 2
  · subst he
    by_cases h4 : s = 4
    · subst h4; (go_enter Tryd.func20, Tryd.ntmps20; go_wp2; go_ret; exact ⟨by first | rfl | (simp [SeatM.work, *]; done), KB.out⟩)
    by_cases h6 : s = 6
    · subst h6; (go_enter Tryd.func20, Tryd.ntmps20; go_wp2; go_ret; exact ⟨by first | rfl | (simp [SeatM.work, *]; done), KB.out⟩)
    by_cases h2 : s = 2
    · subst h2; (go_enter Tryd.func20, Tryd.ntmps20; go_wp2; go_ret; exact ⟨by first | rfl | (simp [SeatM.work, *]; done), KB.out⟩)
    by_cases h7 : s = 7
    · subst h7; (go_enter Tryd.func20, Tryd.ntmps20; go_wp2; go_ret; exact ⟨by first | rfl | (simp [SeatM.work, *]; done), KB.out⟩)
    have b4 : (s == 4) = false := by simpa using h4
    have b6 : (s == 6) = false := by simpa using h6
    have b2 : (s == 2) = false := by simpa using h2
    have b7 : (s == 7) = false := by simpa using h7
    rw [show SeatM.work ⟨p, 2, s, h⟩ = 0 by simp [SeatM.work, h4, h6, h2, h7]]
    clear h4 h6 h2 h7
    (go_enter Tryd.func20, Tryd.ntmps20; go_wp2; go_ret; exact ⟨by first | rfl | (simp [SeatM.work, *]; done), KB.out⟩)
  · rw [show SeatM.work ⟨p, e, s, h⟩ = 0 by simp [SeatM.work, he]]
    have be : (e == 2) = false := by simpa using he
    clear he
    (go_enter Tryd.func20, Tryd.ntmps20; go_wp2; go_ret; exact ⟨by first | rfl | (simp [SeatM.work, *]; done), KB.out⟩)
set_option maxHeartbeats 2000000 in
set_option maxRecDepth 100000 in
theorem refRight_any (z : SeatM) (w : World) : Calls Tryd.prog 17 #[.agg (seatV z)] w fun r w' => r = .returned (.bool z.right) ∧ Kp w w' := by
  obtain ⟨p, e, s, h⟩ := z
  dsimp only [seatV]
  have KB := Lib.hid (kp_alloc w (.cells #[.int .i64 p, .int .i64 e, .int .i64 s, .int .i64 h] 25))
  have HR := Lib.hid (MapKept.heap_alloc w (.cells #[.int .i64 p, .int .i64 e, .int .i64 s, .int .i64 h] 25)).1
  obtain ⟨g0, g1, g2, g3⟩ := cells_4 HR.out
  cases hr : rightT p e with
  | false =>
    rw [show SeatM.right ⟨p, e, s, h⟩ = false by simp [SeatM.right, hr]]
    have hn := of_decide_eq_false hr
    by_cases h1 : p < 1
    · clear hn hr; (go_enter Tryd.func17, Tryd.ntmps17; go_wp2; go_ret; exact ⟨rfl, KB.out⟩)
    by_cases h2 : p > 2
    · clear hn hr; (go_enter Tryd.func17, Tryd.ntmps17; go_wp2; go_ret; exact ⟨rfl, KB.out⟩)
    by_cases h3 : e < 1
    · clear hn hr; (go_enter Tryd.func17, Tryd.ntmps17; go_wp2; go_ret; exact ⟨rfl, KB.out⟩)
    by_cases h4 : e > 2
    · clear hn hr; (go_enter Tryd.func17, Tryd.ntmps17; go_wp2; go_ret; exact ⟨rfl, KB.out⟩)
    · exact absurd ⟨by omega, by omega⟩ hn
  | true =>
    have hh := fun w => refHas_any p e s w
    cases hs : hasT p e s with
    | false =>
      rw [hs] at hh
      have HH := Lib.hid hh
      rw [show SeatM.right ⟨p, e, s, h⟩ = false by simp [SeatM.right, hr, hs]]
      obtain ⟨hp, he⟩ := of_decide_eq_true hr
      clear hr hs hh
      rcases hp with rfl | rfl <;> rcases he with rfl | rfl <;> (go_enter Tryd.func17, Tryd.ntmps17; go_wp2_with (go_at_call 42; (with_reducible refine (HH.out _).mono ?_); rintro e' w' ⟨rfl, rfl⟩); go_ret; exact ⟨rfl, KB.out⟩)
    | true =>
      rw [hs] at hh
      have HH := Lib.hid hh
      have hp := (of_decide_eq_true hr).1
      have he := (of_decide_eq_true hr).2
      by_cases h14 : s = 14
      · subst h14
        rw [show SeatM.right ⟨p, e, 14, h⟩ = decide (h = 1 ∨ (4 ≤ h ∧ h ≤ 8)) by simp [SeatM.right, hr, hs]]
        clear hr hs hh
        by_cases h1 : h = 1
        · subst h1
          rcases hp with rfl | rfl <;> rcases he with rfl | rfl <;> (go_enter Tryd.func17, Tryd.ntmps17; go_wp2_with (go_at_call 42; (with_reducible refine (HH.out _).mono ?_); rintro e' w' ⟨rfl, rfl⟩); go_ret; exact ⟨rfl, KB.out⟩)
        · have b1 : (h == 1) = false := by simpa using h1
          by_cases h4 : 4 ≤ h
          · by_cases h8 : h ≤ 8
            · rw [decide_eq_true (Or.inr (And.intro h4 h8))]
              have q4 : decide (h ≥ 4) = true := decide_eq_true h4
              have q8 : decide (h ≤ 8) = true := decide_eq_true h8
              rcases hp with rfl | rfl <;> rcases he with rfl | rfl <;> (go_enter Tryd.func17, Tryd.ntmps17; go_wp2_with (go_at_call 42; (with_reducible refine (HH.out _).mono ?_); rintro e' w' ⟨rfl, rfl⟩); go_ret; exact ⟨rfl, KB.out⟩)
            · rw [decide_eq_false (by omega)]
              have q4 : decide (h ≥ 4) = true := decide_eq_true h4
              have q8 : decide (h ≤ 8) = false := decide_eq_false h8
              rcases hp with rfl | rfl <;> rcases he with rfl | rfl <;> (go_enter Tryd.func17, Tryd.ntmps17; go_wp2_with (go_at_call 42; (with_reducible refine (HH.out _).mono ?_); rintro e' w' ⟨rfl, rfl⟩); go_ret; exact ⟨rfl, KB.out⟩)
          · rw [decide_eq_false (by omega)]
            have q4 : decide (h ≥ 4) = false := decide_eq_false h4
            rcases hp with rfl | rfl <;> rcases he with rfl | rfl <;> (go_enter Tryd.func17, Tryd.ntmps17; go_wp2_with (go_at_call 42; (with_reducible refine (HH.out _).mono ?_); rintro e' w' ⟨rfl, rfl⟩); go_ret; exact ⟨rfl, KB.out⟩)
      · rw [show SeatM.right ⟨p, e, s, h⟩ = (h == 0) by simp [SeatM.right, hr, hs, h14]; rw [Bool.eq_iff_iff]; simp]
        have b14 : (s == 14) = false := by simpa using h14
        clear hr hs hh
        rcases hp with rfl | rfl <;> rcases he with rfl | rfl <;> (go_enter Tryd.func17, Tryd.ntmps17; go_wp2_with (go_at_call 42; (with_reducible refine (HH.out _).mono ?_); rintro e' w' ⟨rfl, rfl⟩); go_ret; exact ⟨rfl, KB.out⟩)
end Go.Proofs.YtghjnhdepeiloaaDoor
