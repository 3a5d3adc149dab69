/- Parts of this proof (own work). -/
import Derived.Test.YtlmlmhmhgdjhnaaGreatDoorZa05
set_option maxRecDepth 100000
set_option maxHeartbeats 40000000
namespace Go.Proofs.YtlmlmhmhgdjhnaaGreatDoor
open Go.RowKit Go.ChangeShapes Go.WideShapes
theorem refHas_any (p e s : Int) (w : World) : Calls Tryz.prog 166 #[.int .i64 p, .int .i64 e, .int .i64 s] w fun e' w' => e' = .returned (.bool (hasT p e s)) ∧ w = w' := by
 by_cases h4 : s = 4
 ·subst h4; rw [show hasT p e 4 = (p == 2) by simp [hasT]; rw [Bool.eq_iff_iff]; simp]
  (go_enter Tryz.func166, Tryz.ntmps166; go_wp2; go_ret; exact ⟨rfl, rfl⟩)
 by_cases h10 : s = 10
 ·subst h10; rw [show hasT p e 10 = (p == 2) by simp [hasT]; rw [Bool.eq_iff_iff]; simp]
  (go_enter Tryz.func166, Tryz.ntmps166; go_wp2; go_ret; exact ⟨rfl, rfl⟩)
 have b4 : (s == 4) = false := by simpa using h4
 have b10 : (s == 10) = false := by simpa using h10
 by_cases h3 : s = 3
 ·subst h3
  by_cases hp : p = 2
  ·subst hp; rw [show hasT 2 e 3 = (e == 1) by simp [hasT]; rw [Bool.eq_iff_iff]; simp]
   (go_enter Tryz.func166, Tryz.ntmps166; go_wp2; go_ret; exact ⟨rfl, rfl⟩)
  ·rw [show hasT p e 3 = false by simp [hasT, hp]]; have bp : (p == 2) = false := by simpa using hp
   (go_enter Tryz.func166, Tryz.ntmps166; go_wp2; go_ret; exact ⟨rfl, rfl⟩)
 have b3 : (s == 3) = false := by simpa using h3
 by_cases h1 : 1 ≤ s
 ·by_cases h2 : s ≤ 14
  ·rw [show hasT p e s = true by simp [hasT, h4, h10, h3, h1, h2]]
   (go_enter Tryz.func166, Tryz.ntmps166; go_wp2; go_ret; exact ⟨rfl, rfl⟩)
  ·rw [show hasT p e s = false by simp [hasT, h4, h10, h3, h2]]
   (go_enter Tryz.func166, Tryz.ntmps166; go_wp2; go_ret; exact ⟨rfl, rfl⟩)
 ·rw [show hasT p e s = false by simp [hasT, h4, h10, h3, h1]]
  (go_enter Tryz.func166, Tryz.ntmps166; go_wp2; go_ret; exact ⟨rfl, rfl⟩)
theorem cells3 {b : Nat} {t : TypeId} {w : World} {x0 x1 x2 : Value} (h : w.heap[b]? = some (.cells #[x0, x1, x2] t (0, 0))) : w.cell? ⟨b, 0, none⟩ = some x0 ∧ w.cell? ⟨b, 1, none⟩ = some x1 ∧ w.cell? ⟨b, 2, none⟩ = some x2 := by
 refine ⟨?_, ?_, ?_⟩ <;> (unfold World.cell?; dsimp only; rw [h]; rfl)
theorem froz3 {b : Nat} {t : TypeId} {w : World} {cs : Array Value} (h : w.heap[b]? = some (.cells cs t (0, 0))) (i : Nat) : w.frozen? ⟨b, i, none⟩ = false := by
 unfold World.frozen?; dsimp only; rw [h]
 simp
theorem set3 {b : Nat} {t : TypeId} {w : World} {x0 x1 x2 : Value} (y0 y1 y2 : Value) (h : w.heap[b]? = some (.cells #[x0, x1, x2] t (0, 0))) : (((w.setCell ⟨b, 0, none⟩ y0).setCell ⟨b, 1, none⟩ y1).setCell ⟨b, 2, none⟩ y2).heap[b]? = some (.cells #[y0, y1, y2] t (0, 0)) := by
 have h1 : (w.setCell ⟨b, 0, none⟩ y0).heap[b]? = some (.cells #[y0, x1, x2] t (0, 0)) := (Joins.block_setCell h _).trans rfl; have h2 : ((w.setCell ⟨b, 0, none⟩ y0).setCell ⟨b, 1, none⟩ y1).heap[b]? = some (.cells #[y0, y1, x2] t (0, 0)) := (Joins.block_setCell h1 _).trans rfl; have h3 : (((w.setCell ⟨b, 0, none⟩ y0).setCell ⟨b, 1, none⟩ y1).setCell ⟨b, 2, none⟩ y2).heap[b]? = some (.cells #[y0, y1, y2] t (0, 0)) := (Joins.block_setCell h2 _).trans rfl; exact h3
theorem set3_kp {b : Nat} {w0 w : World} (hk : Kp w0 w) (hb : w0.heap.size ≤ b) (y0 y1 y2 : Value) : Kp w0 (((w.setCell ⟨b, 0, none⟩ y0).setCell ⟨b, 1, none⟩ y1).setCell ⟨b, 2, none⟩ y2) := by
 refine Below.setCell ?_ hb _
 refine Below.setCell ?_ hb _
 refine Below.setCell ?_ hb _
 exact hk
theorem cells_4 {b : Nat} {t : TypeId} {w : World} {x0 x1 x2 x3 : Value} (h : w.heap[b]? = some (.cells #[x0, x1, x2, x3] t (0, 0))) : w.cell? ⟨b, 0, none⟩ = some x0 ∧ w.cell? ⟨b, 1, none⟩ = some x1 ∧ w.cell? ⟨b, 2, none⟩ = some x2 ∧ w.cell? ⟨b, 3, none⟩ = some x3 := by
 refine ⟨?_, ?_, ?_, ?_⟩ <;> (unfold World.cell?; dsimp only; rw [h]; rfl)
theorem set_4 {b : Nat} {t : TypeId} {w : World} {x0 x1 x2 x3 : Value} (y0 y1 y2 y3 : Value) (h : w.heap[b]? = some (.cells #[x0, x1, x2, x3] t (0, 0))) : ((((w.setCell ⟨b, 0, none⟩ y0).setCell ⟨b, 1, none⟩ y1).setCell ⟨b, 2, none⟩ y2).setCell ⟨b, 3, none⟩ y3).heap[b]? = some (.cells #[y0, y1, y2, y3] t (0, 0)) := by
 have h0 : (w.setCell ⟨b, 0, none⟩ y0).heap[b]? = some (.cells #[y0, x1, x2, x3] t (0, 0)) := (Joins.block_setCell h _).trans rfl; have h1 : ((w.setCell ⟨b, 0, none⟩ y0).setCell ⟨b, 1, none⟩ y1).heap[b]? = some (.cells #[y0, y1, x2, x3] t (0, 0)) := (Joins.block_setCell h0 _).trans rfl; have h2 : (((w.setCell ⟨b, 0, none⟩ y0).setCell ⟨b, 1, none⟩ y1).setCell ⟨b, 2, none⟩ y2).heap[b]? = some (.cells #[y0, y1, y2, x3] t (0, 0)) := (Joins.block_setCell h1 _).trans rfl; have h3 : ((((w.setCell ⟨b, 0, none⟩ y0).setCell ⟨b, 1, none⟩ y1).setCell ⟨b, 2, none⟩ y2).setCell ⟨b, 3, none⟩ y3).heap[b]? = some (.cells #[y0, y1, y2, y3] t (0, 0)) := (Joins.block_setCell h2 _).trans rfl; exact h3
theorem set_4_kp {b : Nat} {w0 w : World} (hk : Kp w0 w) (hb : w0.heap.size ≤ b) (y0 y1 y2 y3 : Value) : Kp w0 ((((w.setCell ⟨b, 0, none⟩ y0).setCell ⟨b, 1, none⟩ y1).setCell ⟨b, 2, none⟩ y2).setCell ⟨b, 3, none⟩ y3) := by
 refine Below.setCell ?_ hb _
 refine Below.setCell ?_ hb _
 refine Below.setCell ?_ hb _
 refine Below.setCell ?_ hb _
 exact hk
theorem cells_5 {b : Nat} {t : TypeId} {w : World} {x0 x1 x2 x3 x4 : Value} (h : w.heap[b]? = some (.cells #[x0, x1, x2, x3, x4] t (0, 0))) : w.cell? ⟨b, 0, none⟩ = some x0 ∧ w.cell? ⟨b, 1, none⟩ = some x1 ∧ w.cell? ⟨b, 2, none⟩ = some x2 ∧ w.cell? ⟨b, 3, none⟩ = some x3 ∧ w.cell? ⟨b, 4, none⟩ = some x4 := by
 refine ⟨?_, ?_, ?_, ?_, ?_⟩ <;> (unfold World.cell?; dsimp only; rw [h]; rfl)
theorem c8X {b : Nat} {t : TypeId} {w : World} {x0 x1 x2 x3 x4 x5 x6 x7 : Value} (h : w.heap[b]? = some (.cells #[x0, x1, x2, x3, x4, x5, x6, x7] t (0, 0))) : w.cell? ⟨b, 0, none⟩ = some x0 ∧ w.cell? ⟨b, 1, none⟩ = some x1 ∧ w.cell? ⟨b, 2, none⟩ = some x2 ∧ w.cell? ⟨b, 3, none⟩ = some x3 ∧ w.cell? ⟨b, 4, none⟩ = some x4 ∧ w.cell? ⟨b, 5, none⟩ = some x5 ∧ w.cell? ⟨b, 6, none⟩ = some x6 ∧ w.cell? ⟨b, 7, none⟩ = some x7 := by
 refine ⟨?_, ?_, ?_, ?_, ?_, ?_, ?_, ?_⟩ <;> (unfold World.cell?; dsimp only; rw [h]; rfl)
theorem set_8 {b : Nat} {t : TypeId} {w : World} {x0 x1 x2 x3 x4 x5 x6 x7 : Value} (y0 y1 y2 y3 y4 y5 y6 y7 : Value) (h : w.heap[b]? = some (.cells #[x0, x1, x2, x3, x4, x5, x6, x7] t (0, 0))) : ((((((((w.setCell ⟨b, 0, none⟩ y0).setCell ⟨b, 1, none⟩ y1).setCell ⟨b, 2, none⟩ y2).setCell ⟨b, 3, none⟩ y3).setCell ⟨b, 4, none⟩ y4).setCell ⟨b, 5, none⟩ y5).setCell ⟨b, 6, none⟩ y6).setCell ⟨b, 7, none⟩ y7).heap[b]? = some (.cells #[y0, y1, y2, y3, y4, y5, y6, y7] t (0, 0)) := by
 have h0 : (w.setCell ⟨b, 0, none⟩ y0).heap[b]? = some (.cells #[y0, x1, x2, x3, x4, x5, x6, x7] t (0, 0)) := (Joins.block_setCell h _).trans rfl; have h1 : ((w.setCell ⟨b, 0, none⟩ y0).setCell ⟨b, 1, none⟩ y1).heap[b]? = some (.cells #[y0, y1, x2, x3, x4, x5, x6, x7] t (0, 0)) := (Joins.block_setCell h0 _).trans rfl; have h2 : (((w.setCell ⟨b, 0, none⟩ y0).setCell ⟨b, 1, none⟩ y1).setCell ⟨b, 2, none⟩ y2).heap[b]? = some (.cells #[y0, y1, y2, x3, x4, x5, x6, x7] t (0, 0)) := (Joins.block_setCell h1 _).trans rfl; have h3 : ((((w.setCell ⟨b, 0, none⟩ y0).setCell ⟨b, 1, none⟩ y1).setCell ⟨b, 2, none⟩ y2).setCell ⟨b, 3, none⟩ y3).heap[b]? = some (.cells #[y0, y1, y2, y3, x4, x5, x6, x7] t (0, 0)) := (Joins.block_setCell h2 _).trans rfl; have h4 : (((((w.setCell ⟨b, 0, none⟩ y0).setCell ⟨b, 1, none⟩ y1).setCell ⟨b, 2, none⟩ y2).setCell ⟨b, 3, none⟩ y3).setCell ⟨b, 4, none⟩ y4).heap[b]? = some (.cells #[y0, y1, y2, y3, y4, x5, x6, x7] t (0, 0)) := (Joins.block_setCell h3 _).trans rfl
 have h5 : ((((((w.setCell ⟨b, 0, none⟩ y0).setCell ⟨b, 1, none⟩ y1).setCell ⟨b, 2, none⟩ y2).setCell ⟨b, 3, none⟩ y3).setCell ⟨b, 4, none⟩ y4).setCell ⟨b, 5, none⟩ y5).heap[b]? = some (.cells #[y0, y1, y2, y3, y4, y5, x6, x7] t (0, 0)) := (Joins.block_setCell h4 _).trans rfl; have h6 : (((((((w.setCell ⟨b, 0, none⟩ y0).setCell ⟨b, 1, none⟩ y1).setCell ⟨b, 2, none⟩ y2).setCell ⟨b, 3, none⟩ y3).setCell ⟨b, 4, none⟩ y4).setCell ⟨b, 5, none⟩ y5).setCell ⟨b, 6, none⟩ y6).heap[b]? = some (.cells #[y0, y1, y2, y3, y4, y5, y6, x7] t (0, 0)) := (Joins.block_setCell h5 _).trans rfl; have h7 : ((((((((w.setCell ⟨b, 0, none⟩ y0).setCell ⟨b, 1, none⟩ y1).setCell ⟨b, 2, none⟩ y2).setCell ⟨b, 3, none⟩ y3).setCell ⟨b, 4, none⟩ y4).setCell ⟨b, 5, none⟩ y5).setCell ⟨b, 6, none⟩ y6).setCell ⟨b, 7, none⟩ y7).heap[b]? = some (.cells #[y0, y1, y2, y3, y4, y5, y6, y7] t (0, 0)) := (Joins.block_setCell h6 _).trans rfl
 exact h7
theorem set_8_kp {b : Nat} {w0 w : World} (hk : Kp w0 w) (hb : w0.heap.size ≤ b) (y0 y1 y2 y3 y4 y5 y6 y7 : Value) : Kp w0 ((((((((w.setCell ⟨b, 0, none⟩ y0).setCell ⟨b, 1, none⟩ y1).setCell ⟨b, 2, none⟩ y2).setCell ⟨b, 3, none⟩ y3).setCell ⟨b, 4, none⟩ y4).setCell ⟨b, 5, none⟩ y5).setCell ⟨b, 6, none⟩ y6).setCell ⟨b, 7, none⟩ y7) := by
 refine Below.setCell ?_ hb _
 refine Below.setCell ?_ hb _
 refine Below.setCell ?_ hb _
 refine Below.setCell ?_ hb _
 refine Below.setCell ?_ hb _
 refine Below.setCell ?_ hb _
 refine Below.setCell ?_ hb _
 refine Below.setCell ?_ hb _
 exact hk
theorem set_8_ne {b c : Nat} {w : World} {o : Obj} (y0 y1 y2 y3 y4 y5 y6 y7 : Value) (h : w.heap[c]? = some o) (hne : c ≠ b) : ((((((((w.setCell ⟨b, 0, none⟩ y0).setCell ⟨b, 1, none⟩ y1).setCell ⟨b, 2, none⟩ y2).setCell ⟨b, 3, none⟩ y3).setCell ⟨b, 4, none⟩ y4).setCell ⟨b, 5, none⟩ y5).setCell ⟨b, 6, none⟩ y6).setCell ⟨b, 7, none⟩ y7).heap[c]? = some o := by
 rw [bS _ _ _ _ hne, bS _ _ _ _ hne, bS _ _ _ _ hne, bS _ _ _ _ hne, bS _ _ _ _ hne, bS _ _ _ _ hne, bS _ _ _ _ hne, bS _ _ _ _ hne]; exact h
theorem frozN {b : Nat} {t : TypeId} {w : World} {cs : Array Value} (h : w.heap[b]? = some (.cells cs t (0, 0))) (i : Nat) : w.frozen? ⟨b, i, none⟩ = false := by
 unfold World.frozen?; dsimp only; rw [h]
 simp
theorem kp_drewM {a b : World} (h : Kp a b) : Kp a b.drew := ⟨h.os, h.tape, h.output, h.size, h.block⟩
theorem drew_heapM (w : World) : w.drew.heap = w.heap := rfl
theorem refSeatRt_any (z : SeatM) (w : World) : Calls Tryz.prog 120 #[.agg (seatV z)] w fun r w' => r = .returned (.bool z.right) ∧ Kp w w' := by
 obtain ⟨p, e, s, h⟩ := z; dsimp only [seatV]; have KB := hD (kA w (.cells #[p, e, s, h] 128)); have HR := hD (mH w (.cells #[p, e, s, h] 128)); obtain ⟨g0, g1, g2, g3⟩ := cells_4 HR.out
 cases hr : rightT p e with
 | false =>
  rw [show SeatM.right ⟨p, e, s, h⟩ = false by simp [SeatM.right, hr]]; have hn := of_decide_eq_false hr
  by_cases h1 : p < 1
  ·clear hn hr; (go_enter Tryz.func120, Tryz.ntmps120; go_wp2; go_ret; exact ⟨rfl, KB.out⟩)
  by_cases h2 : p > 2
  ·clear hn hr; (go_enter Tryz.func120, Tryz.ntmps120; go_wp2; go_ret; exact ⟨rfl, KB.out⟩)
  by_cases h3 : e < 1
  ·clear hn hr; (go_enter Tryz.func120, Tryz.ntmps120; go_wp2; go_ret; exact ⟨rfl, KB.out⟩)
  by_cases h4 : e > 2
  ·clear hn hr; (go_enter Tryz.func120, Tryz.ntmps120; go_wp2; go_ret; exact ⟨rfl, KB.out⟩)
  ·exact absurd ⟨by omega, by omega⟩ hn
 | true =>
  have hh := fun w => refHas_any p e s w
  cases hs : hasT p e s with
  | false =>
   rw [hs] at hh; have HH := hD hh; rw [show SeatM.right ⟨p, e, s, h⟩ = false by simp [SeatM.right, hr, hs]]; obtain ⟨hp, he⟩ := of_decide_eq_true hr; clear hr hs hh
   rcases hp with rfl | rfl <;> rcases he with rfl | rfl <;> (go_enter Tryz.func120, Tryz.ntmps120; go_wp2_with (go_at_call 166; (with_reducible refine (HH.out _).mono ?_); rintro e' w' ⟨rfl, rfl⟩); go_ret; exact ⟨rfl, KB.out⟩)
  | true =>
   rw [hs] at hh; have HH := hD hh; have hp := (of_decide_eq_true hr).1; have he := (of_decide_eq_true hr).2
   by_cases h14 : s = 14
   ·subst h14; rw [show SeatM.right ⟨p, e, 14, h⟩ = decide (h = 1 ∨ (4 ≤ h ∧ h ≤ 8)) by simp [SeatM.right, hr, hs]]; clear hr hs hh
    by_cases h1 : h = 1
    ·subst h1
     rcases hp with rfl | rfl <;> rcases he with rfl | rfl <;> (go_enter Tryz.func120, Tryz.ntmps120; go_wp2_with (go_at_call 166; (with_reducible refine (HH.out _).mono ?_); rintro e' w' ⟨rfl, rfl⟩); go_ret; exact ⟨rfl, KB.out⟩)
    ·have b1 : (h == 1) = false := by simpa using h1
     by_cases h4 : 4 ≤ h
     ·by_cases h8 : h ≤ 8
      ·rw [dT (Or.inr (And.intro h4 h8))]; have q4 : decide (h ≥ 4) = true := dT h4; have q8 : decide (h ≤ 8) = true := dT h8
       rcases hp with rfl | rfl <;> rcases he with rfl | rfl <;> (go_enter Tryz.func120, Tryz.ntmps120; go_wp2_with (go_at_call 166; (with_reducible refine (HH.out _).mono ?_); rintro e' w' ⟨rfl, rfl⟩); go_ret; exact ⟨rfl, KB.out⟩)
      ·rw [dF (by omega)]; have q4 : decide (h ≥ 4) = true := dT h4; have q8 : decide (h ≤ 8) = false := dF h8
       rcases hp with rfl | rfl <;> rcases he with rfl | rfl <;> (go_enter Tryz.func120, Tryz.ntmps120; go_wp2_with (go_at_call 166; (with_reducible refine (HH.out _).mono ?_); rintro e' w' ⟨rfl, rfl⟩); go_ret; exact ⟨rfl, KB.out⟩)
     ·rw [dF (by omega)]; have q4 : decide (h ≥ 4) = false := dF h4
      rcases hp with rfl | rfl <;> rcases he with rfl | rfl <;> (go_enter Tryz.func120, Tryz.ntmps120; go_wp2_with (go_at_call 166; (with_reducible refine (HH.out _).mono ?_); rintro e' w' ⟨rfl, rfl⟩); go_ret; exact ⟨rfl, KB.out⟩)
   ·rw [show SeatM.right ⟨p, e, s, h⟩ = (h == 0) by simp [SeatM.right, hr, hs, h14]; rw [Bool.eq_iff_iff]; simp]; have b14 : (s == 14) = false := by simpa using h14
    clear hr hs hh
    rcases hp with rfl | rfl <;> rcases he with rfl | rfl <;> (go_enter Tryz.func120, Tryz.ntmps120; go_wp2_with (go_at_call 166; (with_reducible refine (HH.out _).mono ?_); rintro e' w' ⟨rfl, rfl⟩); go_ret; exact ⟨rfl, KB.out⟩)
theorem msg_fields : Tryz.prog.underlying 63 = some (.struct (Tryz.prog.fieldsOf 63)) := by
 unfold Program.fieldsOf; rw [Tryz.underlying63]
theorem msg_eq (a b : MM) (w : World) : (Op.equalIn 10000 63 (.agg a.cells) (.agg b.cells)).run Tryz.prog w = .ok (decide (a = b)) w := by
 obtain ⟨k, f, t, n, s, r, p, o, c⟩ := a; obtain ⟨k', f', t', n', s', r', p', o', c'⟩ := b; have hm : Tryz.prog.stoodInHeld 63 = false := by kernel_rfl
 have ha : Tryz.prog.stoodInHeld 25 = false := by kernel_rfl
 dsimp only [MM.cells]; rw [show (10000 : Nat) = 9998 + 1 + 1 from rfl, run_equalIn_agg w (9998 + 1) 63 _ _ msg_fields hm]
 simp [Program.fieldsOf, Tryz.underlying63, Tryz.underlying25, Op.eqFields, part, go_sem]
 by_cases h0 : k = k'
 rotate_left
 ·simp [h0]
 subst h0
 by_cases h1 : f = f'
 rotate_left
 ·simp [h1]
 subst h1
 by_cases h2 : t = t'
 rotate_left
 ·simp [h2]
 subst h2
 by_cases h3 : n = n'
 rotate_left
 ·simp [h3]
 subst h3
 by_cases h4 : s = s'
 rotate_left
 ·simp [h4]
 subst h4
 by_cases h5 : r = r'
 rotate_left
 ·simp [h5]
 subst h5
 by_cases h6 : p = p'
 rotate_left
 ·simp [h6]
 subst h6
 by_cases h7 : o = o'
 rotate_left
 ·simp [h7]
 subst h7
 by_cases h8 : c = c'
 rotate_left
 ·simp [h8]
 subst h8
 simp [*]
theorem msg_eql (a b : MM) (w : World) : (binOp .eql 63 (.agg a.cells) (.agg b.cells)).run Tryz.prog w = .ok (.bool (decide (a = b))) w := by
 rw [run_eql_struct, msg_eq]; rfl
theorem msg_guard (op : BinOp) (x y : Operand) (a b : MM) (w : World) : (eqGuard op 63 x y (.agg a.cells) (.agg b.cells)).run Tryz.prog w = .ok () w := run_eqGuard_agg w op 63 x y _ _ (by kernel_rfl)
theorem answer_any (m : MM) (x y : Int) (w : World) : Calls Tryz.prog 171 #[.agg m.cells, .int .i64 x, .int .i64 y] w fun e w' => e = .returned (.agg (answerM m x y).cells) ∧ Kp w w' := by
 obtain ⟨k, f, t, n, s, r, p, o, c⟩ := m; dsimp only [MM.cells]; have kb := hD (kA w (.cells #[k, f, t, n, s, r, p, o, c] 63)); have hr := (mH w (.cells #[k, f, t, n, s, r, p, o, c] 63))
 obtain ⟨g0, g1, g2, g3, g4, g5, g6, g7, g8⟩ := cells9 (rZ (kA _ (.cells #[(0:Int), (0:Int), (0:Int), (0:Int), (0:Int), (0:Int), (0:Int), (0:Int), (0:Int)] 63)) hr); go_enter Tryz.func171, Tryz.ntmps171; go_wp2; refine bodyPost_ret (results_cell_row (p := 6) rfl _ _ (w.heap.size + 1) 63 _ (0, 0) _ rfl (nX1 w _ _) Tryz.underlying63 rfl (by kernel_rfl)) rfl ?_
 exact ⟨rfl, kT kb.out (kA _ _)⟩
theorem letWithin_any (n l m : Int) (w : World) : Calls Tryz.prog 77 #[.int .i64 n, .int .i64 l, .int .i64 m] w fun e w' => e = .returned (.bool (decide (l ≤ n ∧ n ≤ m))) ∧ w = w' := by
 by_cases h : l ≤ n
 ·by_cases g : n ≤ m
  ·rw [dT (And.intro h g)]; go_enter Tryz.func77, Tryz.ntmps77; go_wp2; go_ret; exact ⟨rfl, rfl⟩
  ·rw [dF (fun q => g q.2)]; go_enter Tryz.func77, Tryz.ntmps77; go_wp2; go_ret; exact ⟨rfl, rfl⟩
 ·rw [dF (fun q => h q.1)]; go_enter Tryz.func77, Tryz.ntmps77; go_wp2; go_ret; exact ⟨rfl, rfl⟩
theorem mostReg_any (k : Int) (w : World) : Calls Tryz.prog 79 #[.int .i64 k] w fun e w' => e = .returned (.int .i64 (if k = 17 then 0 else 5)) ∧ w = w' := by
 by_cases h : k = 17
 ·rw [if_pos h]; go_enter Tryz.func79, Tryz.ntmps79; go_wp2; go_ret; exact ⟨rfl, rfl⟩
 ·rw [if_neg h]; go_enter Tryz.func79, Tryz.ntmps79; go_wp2; go_ret; exact ⟨rfl, rfl⟩
def protM (k p : Int) : Bool := if k = 17 ∨ k = 18 then decide (1 ≤ p ∧ p ≤ 2) else decide (p = 0)
def codeM (k c : Int) : Bool := if k = 19 then decide (1 ≤ c ∧ c ≤ 5) else if k = 16 then decide (1 ≤ c ∧ c ≤ 14) else decide (c = 0)
theorem rightProtocol_any (k p : Int) (w : World) : Calls Tryz.prog 80 #[.int .i64 k, .int .i64 p] w fun e w' => e = .returned (.bool (protM k p)) ∧ w = w' := by
 by_cases h : k = 17
 ·subst h; rw [show protM 17 p = decide (1 ≤ p ∧ p ≤ 2) from if_pos (.inl rfl)]; go_enter Tryz.func80, Tryz.ntmps80; go_wp2_with (go_at_call 77; (with_reducible refine (letWithin_any _ 1 2 _).mono ?_); rintro e w' ⟨rfl, rfl⟩)
  go_ret; exact ⟨by first | rfl | simp [*], rfl⟩
 by_cases g : k = 18
 ·subst g; rw [show protM 18 p = decide (1 ≤ p ∧ p ≤ 2) from if_pos (.inr rfl)]; go_enter Tryz.func80, Tryz.ntmps80; go_wp2_with (go_at_call 77; (with_reducible refine (letWithin_any _ 1 2 _).mono ?_); rintro e w' ⟨rfl, rfl⟩)
  go_ret; exact ⟨by first | rfl | simp [*], rfl⟩
 rw [show protM k p = decide (p = 0) from if_neg (fun q => q.elim h g)]
 by_cases z : p = 0
 ·subst z; go_enter Tryz.func80, Tryz.ntmps80; go_wp2; go_ret; exact ⟨by first | rfl | simp [*], rfl⟩
 ·rw [dF z]; go_enter Tryz.func80, Tryz.ntmps80; go_wp2; go_ret; exact ⟨by first | rfl | simp [*], rfl⟩
theorem rightCode_any (k p : Int) (w : World) : Calls Tryz.prog 81 #[.int .i64 k, .int .i64 p] w fun e w' => e = .returned (.bool (codeM k p)) ∧ w = w' := by
 by_cases h : k = 19
 ·subst h; rw [show codeM 19 p = decide (1 ≤ p ∧ p ≤ 5) from if_pos rfl]; go_enter Tryz.func81, Tryz.ntmps81; go_wp2_with (go_at_call 77; (with_reducible refine (letWithin_any _ 1 5 _).mono ?_); rintro e w' ⟨rfl, rfl⟩)
  go_ret; exact ⟨by first | rfl | simp [*], rfl⟩
 by_cases g : k = 16
 ·subst g; rw [show codeM 16 p = decide (1 ≤ p ∧ p ≤ 14) by unfold codeM; rw [if_neg (by decide), if_pos rfl]]; go_enter Tryz.func81, Tryz.ntmps81; go_wp2_with (go_at_call 77; (with_reducible refine (letWithin_any _ 1 14 _).mono ?_); rintro e w' ⟨rfl, rfl⟩)
  go_ret; exact ⟨by first | rfl | simp [*], rfl⟩
 rw [show codeM k p = decide (p = 0) by unfold codeM; rw [if_neg h, if_neg g]]
 by_cases z : p = 0
 ·subst z; go_enter Tryz.func81, Tryz.ntmps81; go_wp2; go_ret; exact ⟨by first | rfl | simp [*], rfl⟩
 ·rw [dF z]; go_enter Tryz.func81, Tryz.ntmps81; go_wp2; go_ret; exact ⟨by first | rfl | simp [*], rfl⟩
theorem up_any (k : Int) (w : World) : Calls Tryz.prog 75 #[.int .i64 k] w fun e w' => e = .returned (.bool (upM k)) ∧ w = w' := by
 by_cases h1 : k = 1
 ·subst h1; rw [show upM 1 = true by decide]; go_enter Tryz.func75, Tryz.ntmps75; go_wp2; go_ret; exact ⟨by first | rfl | simp [*], rfl⟩
 by_cases h3 : k = 3
 ·subst h3; rw [show upM 3 = true by decide]; go_enter Tryz.func75, Tryz.ntmps75; go_wp2; go_ret; exact ⟨by first | rfl | simp [*], rfl⟩
 by_cases h4 : k = 4
 ·subst h4; rw [show upM 4 = true by decide]; go_enter Tryz.func75, Tryz.ntmps75; go_wp2; go_ret; exact ⟨by first | rfl | simp [*], rfl⟩
 by_cases h5 : k = 5
 ·subst h5; rw [show upM 5 = true by decide]; go_enter Tryz.func75, Tryz.ntmps75; go_wp2; go_ret; exact ⟨by first | rfl | simp [*], rfl⟩
 by_cases h6 : k = 6
 ·subst h6; rw [show upM 6 = true by decide]; go_enter Tryz.func75, Tryz.ntmps75; go_wp2; go_ret; exact ⟨by first | rfl | simp [*], rfl⟩
 by_cases h7 : k = 7
 ·subst h7; rw [show upM 7 = true by decide]; go_enter Tryz.func75, Tryz.ntmps75; go_wp2; go_ret; exact ⟨by first | rfl | simp [*], rfl⟩
 by_cases h8 : k = 8
 ·subst h8; rw [show upM 8 = true by decide]; go_enter Tryz.func75, Tryz.ntmps75; go_wp2; go_ret; exact ⟨by first | rfl | simp [*], rfl⟩
 rw [show upM k = false from dF (by omega)]; go_enter Tryz.func75, Tryz.ntmps75; go_wp2; go_ret; exact ⟨by first | rfl | simp [*], rfl⟩
theorem right_parts (m : MM) : rightM m = (decide (1 ≤ m.k ∧ m.k ≤ 19) && (decide (0 ≤ m.f ∧ m.f ≤ 3) && (decide (0 ≤ m.t ∧ m.t ≤ 3) && (rightA m.n m.s && (decide (0 ≤ m.r ∧ m.r ≤ (if m.k = 17 then 0 else 5)) && (decide (0 ≤ m.p ∧ m.p ≤ 7) && (protM m.k m.o && codeM m.k m.c))))))) := by
 obtain ⟨k, f, t, n, s, r, p, o, c⟩ := m; unfold rightM protM codeM; dsimp only; rw [Bool.eq_iff_iff]
 generalize rightA n s = ra
 simp only [Bool.and_eq_true, decide_eq_true_eq]
 by_cases h17 : k = 17
 ·subst h17; simp only [if_true, true_or, decide_eq_true_eq, show ¬ (17 : Int) = 19 by decide, show ¬ (17 : Int) = 16 by decide, if_false]
  constructor
  ·rintro ⟨⟨⟨h1, h2⟩, h3⟩, h4⟩; exact ⟨by omega, by omega, by omega, h2, by omega, by omega, by omega, by omega⟩
  ·rintro ⟨h1, h2, h3, h4, h5, h6, h7, h8⟩; exact ⟨⟨⟨by omega, h4⟩, by omega⟩, by omega⟩
 by_cases h18 : k = 18
 ·subst h18; simp only [if_true, or_true, decide_eq_true_eq, show ¬ (18 : Int) = 17 by decide, show ¬ (18 : Int) = 19 by decide, show ¬ (18 : Int) = 16 by decide, if_false]
  constructor
  ·rintro ⟨⟨⟨h1, h2⟩, h3⟩, h4⟩; exact ⟨by omega, by omega, by omega, h2, by omega, by omega, by omega, by omega⟩
  ·rintro ⟨h1, h2, h3, h4, h5, h6, h7, h8⟩; exact ⟨⟨⟨by omega, h4⟩, by omega⟩, by omega⟩
 simp only [h17, h18, or_self, if_false]
 by_cases h19 : k = 19
 ·subst h19; simp only [if_true, decide_eq_true_eq]
  constructor
  ·rintro ⟨⟨⟨h1, h2⟩, h3⟩, h4⟩; exact ⟨by omega, by omega, by omega, h2, by omega, by omega, by omega, by omega⟩
  ·rintro ⟨h1, h2, h3, h4, h5, h6, h7, h8⟩; exact ⟨⟨⟨by omega, h4⟩, by omega⟩, by omega⟩
 by_cases h16 : k = 16
 ·subst h16; simp only [if_true, decide_eq_true_eq, show ¬ (16 : Int) = 19 by decide, if_false]
  constructor
  ·rintro ⟨⟨⟨h1, h2⟩, h3⟩, h4⟩; exact ⟨by omega, by omega, by omega, h2, by omega, by omega, by omega, by omega⟩
  ·rintro ⟨h1, h2, h3, h4, h5, h6, h7, h8⟩; exact ⟨⟨⟨by omega, h4⟩, by omega⟩, by omega⟩
 simp only [h19, h16, if_false, decide_eq_true_eq]
 constructor
 ·rintro ⟨⟨⟨h1, h2⟩, h3⟩, h4⟩; exact ⟨by omega, by omega, by omega, h2, by omega, by omega, by omega, by omega⟩
 ·rintro ⟨h1, h2, h3, h4, h5, h6, h7, h8⟩; exact ⟨⟨⟨by omega, h4⟩, by omega⟩, by omega⟩
theorem letRight_any (ads : List Addr) (m : MM) (w : World) (V : St ads w) (T : Tab w) :
  Calls Tryz.prog 30 #[.agg m.cells] w fun e w' => e = .returned (.bool (rightM m)) ∧ Kp w w' := by
 have hp := right_parts m; obtain ⟨k, f, t, n, s, r, p, o, c⟩ := m; dsimp only at hp; rw [hp]; clear hp; dsimp only [MM.cells]; have HW1 := fun w1 => letWithin_any k 1 19 w1
 have HW2 := fun w1 => letWithin_any f 0 3 w1
 have HW3 := fun w1 => letWithin_any t 0 3 w1
 have HWM := fun w1 => mostReg_any k w1
 obtain ⟨mr, hmr⟩ : ∃ x : Int, (if k = 17 then 0 else 5) = x := ⟨_, rfl⟩
 rw [hmr] at HWM ⊢; have HW5 := fun w1 => letWithin_any r 0 mr w1
 have HW6 := fun w1 => letWithin_any p 0 7 w1
 have HW7 := fun w1 => rightProtocol_any k o w1
 have HW8 := fun w1 => rightCode_any k c w1
 have kb := kA w (.cells #[k, f, t, n, s, r, p, o, c] 63); have HW4 := fun w1 (hk : Kp (w.alloc (.cells #[k, f, t, n, s, r, p, o, c] 63)) w1) => right_any ads w1 (V.below (kT kb hk)) (T.kp (kT kb hk)) n s
 obtain ⟨x0, hx0⟩ : ∃ b, decide (1 ≤ k ∧ k ≤ 19) = b := ⟨_, rfl⟩
 obtain ⟨x1, hx1⟩ : ∃ b, decide (0 ≤ f ∧ f ≤ 3) = b := ⟨_, rfl⟩
 obtain ⟨x2, hx2⟩ : ∃ b, decide (0 ≤ t ∧ t ≤ 3) = b := ⟨_, rfl⟩
 obtain ⟨x3, hx3⟩ : ∃ b, rightA n s = b := ⟨_, rfl⟩
 obtain ⟨x4, hx4⟩ : ∃ b, decide (0 ≤ r ∧ r ≤ mr) = b := ⟨_, rfl⟩
 obtain ⟨x5, hx5⟩ : ∃ b, decide (0 ≤ p ∧ p ≤ 7) = b := ⟨_, rfl⟩
 obtain ⟨x6, hx6⟩ : ∃ b, protM k o = b := ⟨_, rfl⟩
 obtain ⟨x7, hx7⟩ : ∃ b, codeM k c = b := ⟨_, rfl⟩
 rw [hx0] at HW1 ⊢; rw [hx1] at HW2 ⊢; rw [hx2] at HW3 ⊢; rw [hx3] at HW4 ⊢; rw [hx4] at HW5 ⊢; rw [hx5] at HW6 ⊢; rw [hx6] at HW7 ⊢; rw [hx7] at HW8 ⊢; have hr := (mH w (.cells #[k, f, t, n, s, r, p, o, c] 63))
 go_enter Tryz.func30, Tryz.ntmps30; go_wp2; obtain ⟨w0, hw0⟩ : ∃ x, w.alloc (.cells #[k, f, t, n, s, r, p, o, c] 63) = x := ⟨_, rfl⟩
 obtain ⟨p0, hp0⟩ : ∃ x, w.heap.size = x := ⟨_, rfl⟩
 rw [hw0] at kb hr HW4 ⊢; rw [hp0] at hr ⊢; have b0 : w0.cell? ⟨p0, 0, none⟩ = some (.int .i64 k) := by unfold World.cell?; dsimp only; rw [hr]; rfl
 have b1 : w0.cell? ⟨p0, 1, none⟩ = some (.int .i64 f) := by unfold World.cell?; dsimp only; rw [hr]; rfl
 have b2 : w0.cell? ⟨p0, 2, none⟩ = some (.int .i64 t) := by unfold World.cell?; dsimp only; rw [hr]; rfl
 have b3 : w0.cell? ⟨p0, 3, none⟩ = some (.int .i64 n) := by unfold World.cell?; dsimp only; rw [hr]; rfl
 have b4 : w0.cell? ⟨p0, 4, none⟩ = some (.int .i64 s) := by unfold World.cell?; dsimp only; rw [hr]; rfl
 have b5 : w0.cell? ⟨p0, 5, none⟩ = some (.int .i64 r) := by unfold World.cell?; dsimp only; rw [hr]; rfl
 have b6 : w0.cell? ⟨p0, 6, none⟩ = some (.int .i64 p) := by unfold World.cell?; dsimp only; rw [hr]; rfl
 have b7 : w0.cell? ⟨p0, 7, none⟩ = some (.int .i64 o) := by unfold World.cell?; dsimp only; rw [hr]; rfl
 have b8 : w0.cell? ⟨p0, 8, none⟩ = some (.int .i64 c) := by unfold World.cell?; dsimp only; rw [hr]; rfl
 obtain ⟨K0, HW1, HW2, HW3, HW4, HW5, HW6, HW7⟩ := hD8 kb HW1 HW2 HW3 HW4 HW5 HW6 HW7; obtain ⟨HW8, HWM⟩ := hD2 HW8 HWM; clear hr hw0 kb hp0 hx0 hx1 hx2 hx3 hx4 hx5 hx6 hx7 hmr V T; refine rgW (fun w' => Kp w0 w') ?_ fun hH => ?_
 ·exact (Kp.refl w0).drew
 refine tkP 0 ?_
 go_simp; refine tkP 1 ?_ (y := by intro w hZ; have q := kZ hZ b0; go_simp; try rfl)
 go_simp; refine rdW 2 fun K hK => ?_
 go_simp; go_wp2_with (go_at_call 77; (with_reducible refine (HW1.out _).mono ?_); rintro e w' ⟨rfl, rfl⟩)
 refine hK.out _ _ (hH) fun hH => ?_
 clear hK K; refine tkP 3 ?_
 go_simp
 cases x0 with
 | false =>
  refine skW 4 ?_
  go_simp; refine skW 5 ?_
  go_simp; refine skW 6 ?_
  go_simp; refine tkP 7 ?_
  go_simp; refine tkP 8 ?_
  go_simp; refine skW 9 ?_
  go_simp; refine skW 10 ?_
  go_simp; refine skW 11 ?_
  go_simp; refine tkP 12 ?_
  go_simp; refine tkP 13 ?_
  go_simp; refine skW 14 ?_
  go_simp; refine skW 15 ?_
  go_simp; refine skW 16 ?_
  go_simp; refine tkP 17 ?_
  go_simp; refine tkP 18 ?_
  go_simp; refine skW 19 ?_
  go_simp; refine skW 20 ?_
  go_simp; refine skW 21 ?_
  go_simp; refine skW 22 ?_
  go_simp; refine skW 23 ?_
  go_simp; refine skW 24 ?_
  go_simp; refine tkP 25 ?_
  go_simp; refine tkP 26 ?_
  go_simp; refine skW 27 ?_
  go_simp; refine skW 28 ?_
  go_simp; refine skW 29 ?_
  go_simp; refine tkP 30 ?_
  go_simp; refine tkP 31 ?_
  go_simp; refine skW 32 ?_
  go_simp; refine skW 33 ?_
  go_simp; refine skW 34 ?_
  go_simp; refine skW 35 ?_
  go_simp; refine skW 36 ?_
  go_simp; refine tkP 37 ?_
  go_simp; refine tkP 38 ?_
  go_simp; refine skW 39 ?_
  go_simp; refine skW 40 ?_
  go_simp; refine skW 41 ?_
  go_simp; refine skW 42 ?_
  go_simp; refine skW 43 ?_
  go_simp; refine tkP 44 ?_
  go_simp; refine tkP 45 ?_
  go_simp; refine dnW ?_ _
  go_wp2; go_ret; exact ⟨rfl, kT K0.out hH⟩
 | true =>
  refine tkP 4 ?_
  go_simp; refine tkP 5 ?_ (y := by intro w hZ; have q := kZ hZ b1; go_simp; try rfl)
  go_simp; refine rdW 6 fun K hK => ?_
  go_simp; go_wp2_with (go_at_call 77; (with_reducible refine (HW2.out _).mono ?_); rintro e w' ⟨rfl, rfl⟩)
  refine hK.out _ _ (hH) fun hH => ?_
  clear hK K; refine tkP 7 ?_
  go_simp; refine tkP 8 ?_
  go_simp
  cases x1 with
  | false =>
   refine skW 9 ?_
   go_simp; refine skW 10 ?_
   go_simp; refine skW 11 ?_
   go_simp; refine tkP 12 ?_
   go_simp; refine tkP 13 ?_
   go_simp; refine skW 14 ?_
   go_simp; refine skW 15 ?_
   go_simp; refine skW 16 ?_
   go_simp; refine tkP 17 ?_
   go_simp; refine tkP 18 ?_
   go_simp; refine skW 19 ?_
   go_simp; refine skW 20 ?_
   go_simp; refine skW 21 ?_
   go_simp; refine skW 22 ?_
   go_simp; refine skW 23 ?_
   go_simp; refine skW 24 ?_
   go_simp; refine tkP 25 ?_
   go_simp; refine tkP 26 ?_
   go_simp; refine skW 27 ?_
   go_simp; refine skW 28 ?_
   go_simp; refine skW 29 ?_
   go_simp; refine tkP 30 ?_
   go_simp; refine tkP 31 ?_
   go_simp; refine skW 32 ?_
   go_simp; refine skW 33 ?_
   go_simp; refine skW 34 ?_
   go_simp; refine skW 35 ?_
   go_simp; refine skW 36 ?_
   go_simp; refine tkP 37 ?_
   go_simp; refine tkP 38 ?_
   go_simp; refine skW 39 ?_
   go_simp; refine skW 40 ?_
   go_simp; refine skW 41 ?_
   go_simp; refine skW 42 ?_
   go_simp; refine skW 43 ?_
   go_simp; refine tkP 44 ?_
   go_simp; refine tkP 45 ?_
   go_simp; refine dnW ?_ _
   go_wp2; go_ret; exact ⟨rfl, kT K0.out hH⟩
  | true =>
   refine tkP 9 ?_
   go_simp; refine tkP 10 ?_ (y := by intro w hZ; have q := kZ hZ b2; go_simp; try rfl)
   go_simp; refine rdW 11 fun K hK => ?_
   go_simp; go_wp2_with (go_at_call 77; (with_reducible refine (HW3.out _).mono ?_); rintro e w' ⟨rfl, rfl⟩)
   refine hK.out _ _ (hH) fun hH => ?_
   clear hK K; refine tkP 12 ?_
   go_simp; refine tkP 13 ?_
   go_simp
   cases x2 with
   | false =>
    refine skW 14 ?_
    go_simp; refine skW 15 ?_
    go_simp; refine skW 16 ?_
    go_simp; refine tkP 17 ?_
    go_simp; refine tkP 18 ?_
    go_simp; refine skW 19 ?_
    go_simp; refine skW 20 ?_
    go_simp; refine skW 21 ?_
    go_simp; refine skW 22 ?_
    go_simp; refine skW 23 ?_
    go_simp; refine skW 24 ?_
    go_simp; refine tkP 25 ?_
    go_simp; refine tkP 26 ?_
    go_simp; refine skW 27 ?_
    go_simp; refine skW 28 ?_
    go_simp; refine skW 29 ?_
    go_simp; refine tkP 30 ?_
    go_simp; refine tkP 31 ?_
    go_simp; refine skW 32 ?_
    go_simp; refine skW 33 ?_
    go_simp; refine skW 34 ?_
    go_simp; refine skW 35 ?_
    go_simp; refine skW 36 ?_
    go_simp; refine tkP 37 ?_
    go_simp; refine tkP 38 ?_
    go_simp; refine skW 39 ?_
    go_simp; refine skW 40 ?_
    go_simp; refine skW 41 ?_
    go_simp; refine skW 42 ?_
    go_simp; refine skW 43 ?_
    go_simp; refine tkP 44 ?_
    go_simp; refine tkP 45 ?_
    go_simp; refine dnW ?_ _
    go_wp2; go_ret; exact ⟨rfl, kT K0.out hH⟩
   | true =>
    refine tkP 14 ?_
    go_simp; refine tkP 15 ?_ (y := by intro w hZ; obtain ⟨q, q2⟩ := kZ2 hZ b3 b4; go_simp; try rfl)
    go_simp; refine rdW 16 fun K hK => ?_
    go_simp; go_wp2_with (go_at_call 78; (with_reducible refine (HW4.out _ hH).mono ?_); rintro e w' ⟨rfl, hk4⟩; have K4 := hD (kT hH hk4); clear hk4)
    refine hK.out _ _ (K4.out) fun hH => ?_
    clear hK K; refine tkP 17 ?_
    go_simp; refine tkP 18 ?_
    go_simp
    cases x3 with
    | false =>
     refine skW 19 ?_
     go_simp; refine skW 20 ?_
     go_simp; refine skW 21 ?_
     go_simp; refine skW 22 ?_
     go_simp; refine skW 23 ?_
     go_simp; refine skW 24 ?_
     go_simp; refine tkP 25 ?_
     go_simp; refine tkP 26 ?_
     go_simp; refine skW 27 ?_
     go_simp; refine skW 28 ?_
     go_simp; refine skW 29 ?_
     go_simp; refine tkP 30 ?_
     go_simp; refine tkP 31 ?_
     go_simp; refine skW 32 ?_
     go_simp; refine skW 33 ?_
     go_simp; refine skW 34 ?_
     go_simp; refine skW 35 ?_
     go_simp; refine skW 36 ?_
     go_simp; refine tkP 37 ?_
     go_simp; refine tkP 38 ?_
     go_simp; refine skW 39 ?_
     go_simp; refine skW 40 ?_
     go_simp; refine skW 41 ?_
     go_simp; refine skW 42 ?_
     go_simp; refine skW 43 ?_
     go_simp; refine tkP 44 ?_
     go_simp; refine tkP 45 ?_
     go_simp; refine dnW ?_ _
     go_wp2; go_ret; exact ⟨rfl, kT K0.out hH⟩
    | true =>
     refine tkP 19 ?_
     go_simp; refine tkP 20 ?_ (y := by intro w hZ; have q := kZ hZ b5; go_simp; try rfl)
     go_simp; refine tkP 21 ?_
     go_simp; refine tkP 22 ?_ (y := by intro w hZ; have q := kZ hZ b0; go_simp; try rfl)
     go_simp; refine rdW 23 fun K hK => ?_
     go_simp; go_wp2_with (go_at_call 79; (with_reducible refine (HWM.out _).mono ?_); rintro e w' ⟨rfl, rfl⟩)
     refine hK.out _ _ (hH) fun hH => ?_
     clear hK K; refine rdW 24 fun K hK => ?_
     go_simp; go_wp2_with (go_at_call 77; (with_reducible refine (HW5.out _).mono ?_); rintro e w' ⟨rfl, rfl⟩)
     refine hK.out _ _ (hH) fun hH => ?_
     clear hK K; refine tkP 25 ?_
     go_simp; refine tkP 26 ?_
     go_simp
     cases x4 with
     | false =>
      refine skW 27 ?_
      go_simp; refine skW 28 ?_
      go_simp; refine skW 29 ?_
      go_simp; refine tkP 30 ?_
      go_simp; refine tkP 31 ?_
      go_simp; refine skW 32 ?_
      go_simp; refine skW 33 ?_
      go_simp; refine skW 34 ?_
      go_simp; refine skW 35 ?_
      go_simp; refine skW 36 ?_
      go_simp; refine tkP 37 ?_
      go_simp; refine tkP 38 ?_
      go_simp; refine skW 39 ?_
      go_simp; refine skW 40 ?_
      go_simp; refine skW 41 ?_
      go_simp; refine skW 42 ?_
      go_simp; refine skW 43 ?_
      go_simp; refine tkP 44 ?_
      go_simp; refine tkP 45 ?_
      go_simp; refine dnW ?_ _
      go_wp2; go_ret; exact ⟨rfl, kT K0.out hH⟩
     | true =>
      refine tkP 27 ?_
      go_simp; refine tkP 28 ?_ (y := by intro w hZ; have q := kZ hZ b6; go_simp; try rfl)
      go_simp; refine rdW 29 fun K hK => ?_
      go_simp; go_wp2_with (go_at_call 77; (with_reducible refine (HW6.out _).mono ?_); rintro e w' ⟨rfl, rfl⟩)
      refine hK.out _ _ (hH) fun hH => ?_
      clear hK K; refine tkP 30 ?_
      go_simp; refine tkP 31 ?_
      go_simp
      cases x5 with
      | false =>
       refine skW 32 ?_
       go_simp; refine skW 33 ?_
       go_simp; refine skW 34 ?_
       go_simp; refine skW 35 ?_
       go_simp; refine skW 36 ?_
       go_simp; refine tkP 37 ?_
       go_simp; refine tkP 38 ?_
       go_simp; refine skW 39 ?_
       go_simp; refine skW 40 ?_
       go_simp; refine skW 41 ?_
       go_simp; refine skW 42 ?_
       go_simp; refine skW 43 ?_
       go_simp; refine tkP 44 ?_
       go_simp; refine tkP 45 ?_
       go_simp; refine dnW ?_ _
       go_wp2; go_ret; exact ⟨rfl, kT K0.out hH⟩
      | true =>
       refine tkP 32 ?_
       go_simp; refine tkP 33 ?_ (y := by intro w hZ; have q := kZ hZ b0; go_simp; try rfl)
       go_simp; refine tkP 34 ?_
       go_simp; refine tkP 35 ?_ (y := by intro w hZ; have q := kZ hZ b7; go_simp; try rfl)
       go_simp; refine rdW 36 fun K hK => ?_
       go_simp; go_wp2_with (go_at_call 80; (with_reducible refine (HW7.out _).mono ?_); rintro e w' ⟨rfl, rfl⟩)
       refine hK.out _ _ (hH) fun hH => ?_
       clear hK K; refine tkP 37 ?_
       go_simp; refine tkP 38 ?_
       go_simp
       cases x6 with
       | false =>
        refine skW 39 ?_
        go_simp; refine skW 40 ?_
        go_simp; refine skW 41 ?_
        go_simp; refine skW 42 ?_
        go_simp; refine skW 43 ?_
        go_simp; refine tkP 44 ?_
        go_simp; refine tkP 45 ?_
        go_simp; refine dnW ?_ _
        go_wp2; go_ret; exact ⟨rfl, kT K0.out hH⟩
       | true =>
        refine tkP 39 ?_
        go_simp; refine tkP 40 ?_ (y := by intro w hZ; have q := kZ hZ b0; go_simp; try rfl)
        go_simp; refine tkP 41 ?_
        go_simp; refine tkP 42 ?_ (y := by intro w hZ; have q := kZ hZ b8; go_simp; try rfl)
        go_simp; refine rdW 43 fun K hK => ?_
        go_simp; go_wp2_with (go_at_call 81; (with_reducible refine (HW8.out _).mono ?_); rintro e w' ⟨rfl, rfl⟩)
        refine hK.out _ _ (hH) fun hH => ?_
        clear hK K; refine tkP 44 ?_
        go_simp; refine tkP 45 ?_
        go_simp; refine dnW ?_ _
        go_wp2; go_ret; exact ⟨rfl, kT K0.out hH⟩
variable {w0 w w' W w3 : World} {ads : List Addr}
theorem p3_0 (w : World) (o o' o'' : Obj) : (((w.alloc o).alloc o').alloc o'').heap[w.heap.size]? = some o := rZ (kA _ o'') (nX0 w o o')
theorem p3_1 (w : World) (o o' o'' : Obj) : (((w.alloc o).alloc o').alloc o'').heap[w.heap.size + 1]? = some o' := rZ (kA _ o'') (nX1 w o o')
theorem p3_2 (w : World) (o o' o'' : Obj) : (((w.alloc o).alloc o').alloc o'').heap[w.heap.size + 1 + 1]? = some o'' := by
 have := (mH ((w.alloc o).alloc o') o'')
 rwa [show ((w.alloc o).alloc o').heap.size = w.heap.size + 1 + 1 by simp] at this
theorem pk2 (w : World) (o o' : Obj) : Kp w ((w.alloc o).alloc o') := kT (kA _ _) (kA _ _)
theorem pk3 (w : World) (o o' o'' : Obj) : Kp w (((w.alloc o).alloc o').alloc o'') := kT (pk2 w o o') (kA _ _)
theorem cellsR3 {b : Nat} {t : TypeId} {w : World} {x0 x1 x2 : Value} (h : w.heap[b]? = some (.cells #[x0, x1, x2] t (0, 0))) : w.cell? ⟨b, 0, none⟩ = some x0 ∧ w.cell? ⟨b, 1, none⟩ = some x1 ∧ w.cell? ⟨b, 2, none⟩ = some x2 := by
 refine ⟨?_, ?_, ?_⟩ <;> (unfold World.cell?; dsimp only; rw [h]; rfl)
theorem setR3 {b : Nat} {t : TypeId} {w : World} {x0 x1 x2 : Value} (y0 y1 y2 : Value) (h : w.heap[b]? = some (.cells #[x0, x1, x2] t (0, 0))) : (((w.setCell ⟨b, 0, none⟩ y0).setCell ⟨b, 1, none⟩ y1).setCell ⟨b, 2, none⟩ y2).heap[b]? = some (.cells #[y0, y1, y2] t (0, 0)) := by
 have h1 : (w.setCell ⟨b, 0, none⟩ y0).heap[b]? = some (.cells #[y0, x1, x2] t (0, 0)) := (Joins.block_setCell h _).trans rfl; have h2 : ((w.setCell ⟨b, 0, none⟩ y0).setCell ⟨b, 1, none⟩ y1).heap[b]? = some (.cells #[y0, y1, x2] t (0, 0)) := (Joins.block_setCell h1 _).trans rfl; exact (Joins.block_setCell h2 _).trans rfl
theorem setR3_kp {b : Nat} {w0 w : World} (hk : Kp w0 w) (hb : w0.heap.size ≤ b) (y0 y1 y2 : Value) : Kp w0 (((w.setCell ⟨b, 0, none⟩ y0).setCell ⟨b, 1, none⟩ y1).setCell ⟨b, 2, none⟩ y2) :=
 Below.setCell (Below.setCell (Below.setCell hk hb _) hb _) hb _
theorem setR3_ne {b c : Nat} {w : World} (y0 y1 y2 : Value) (hne : c ≠ b) : (((w.setCell ⟨b, 0, none⟩ y0).setCell ⟨b, 1, none⟩ y1).setCell ⟨b, 2, none⟩ y2).heap[c]? = w.heap[c]? := by
 rw [bS _ _ _ _ hne, bS _ _ _ _ hne, bS _ _ _ _ hne]
end Go.Proofs.YtlmlmhmhgdjhnaaGreatDoor
