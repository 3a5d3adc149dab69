/- Parts of this proof (own work). -/
import Derived.Test.YtncoofnhifcnhaaGreatDoorZa06
set_option maxRecDepth 100000
set_option maxHeartbeats 40000000
namespace Go.Proofs.YtncoofnhifcnhaaGreatDoor
open Go.RowKit Go.ChangeShapes Go.WideShapes
theorem cells_4 {b : Nat} {t : TypeId} {w : World} {x0 x1 x2 x3 : Value} (h : w.heap[b]? = some (.cells #[x0, x1, x2, x3] t (0, 0))) : w.cell? ⟨b, 0, none⟩ = some x0 ∧ w.cell? ⟨b, 1, none⟩ = some x1 ∧ w.cell? ⟨b, 2, none⟩ = some x2 ∧ w.cell? ⟨b, 3, none⟩ = some x3 := by
 refine ⟨?_, ?_, ?_, ?_⟩ <;> (unfold World.cell?; dsimp only; rw [h]; rfl)
theorem set_4 {b : Nat} {t : TypeId} {w : World} {x0 x1 x2 x3 : Value} (y0 y1 y2 y3 : Value) (h : w.heap[b]? = some (.cells #[x0, x1, x2, x3] t (0, 0))) : ((((w.setCell ⟨b, 0, none⟩ y0).setCell ⟨b, 1, none⟩ y1).setCell ⟨b, 2, none⟩ y2).setCell ⟨b, 3, none⟩ y3).heap[b]? = some (.cells #[y0, y1, y2, y3] t (0, 0)) := by
 have h0 : (w.setCell ⟨b, 0, none⟩ y0).heap[b]? = some (.cells #[y0, x1, x2, x3] t (0, 0)) := (Joins.block_setCell h _).trans rfl; have h1 : ((w.setCell ⟨b, 0, none⟩ y0).setCell ⟨b, 1, none⟩ y1).heap[b]? = some (.cells #[y0, y1, x2, x3] t (0, 0)) := (Joins.block_setCell h0 _).trans rfl; have h2 : (((w.setCell ⟨b, 0, none⟩ y0).setCell ⟨b, 1, none⟩ y1).setCell ⟨b, 2, none⟩ y2).heap[b]? = some (.cells #[y0, y1, y2, x3] t (0, 0)) := (Joins.block_setCell h1 _).trans rfl; have h3 : ((((w.setCell ⟨b, 0, none⟩ y0).setCell ⟨b, 1, none⟩ y1).setCell ⟨b, 2, none⟩ y2).setCell ⟨b, 3, none⟩ y3).heap[b]? = some (.cells #[y0, y1, y2, y3] t (0, 0)) := (Joins.block_setCell h2 _).trans rfl; exact h3
theorem set_4_kp {b : Nat} {w0 w : World} (hk : Kp w0 w) (hb : w0.heap.size ≤ b) (y0 y1 y2 y3 : Value) : Kp w0 ((((w.setCell ⟨b, 0, none⟩ y0).setCell ⟨b, 1, none⟩ y1).setCell ⟨b, 2, none⟩ y2).setCell ⟨b, 3, none⟩ y3) := by
 refine Below.setCell ?_ hb _
 refine Below.setCell ?_ hb _
 refine Below.setCell ?_ hb _
 refine Below.setCell ?_ hb _
 exact hk
theorem cells_5 {b : Nat} {t : TypeId} {w : World} {x0 x1 x2 x3 x4 : Value} (h : w.heap[b]? = some (.cells #[x0, x1, x2, x3, x4] t (0, 0))) : w.cell? ⟨b, 0, none⟩ = some x0 ∧ w.cell? ⟨b, 1, none⟩ = some x1 ∧ w.cell? ⟨b, 2, none⟩ = some x2 ∧ w.cell? ⟨b, 3, none⟩ = some x3 ∧ w.cell? ⟨b, 4, none⟩ = some x4 := by
 refine ⟨?_, ?_, ?_, ?_, ?_⟩ <;> (unfold World.cell?; dsimp only; rw [h]; rfl)
theorem c8X {b : Nat} {t : TypeId} {w : World} {x0 x1 x2 x3 x4 x5 x6 x7 : Value} (h : w.heap[b]? = some (.cells #[x0, x1, x2, x3, x4, x5, x6, x7] t (0, 0))) : w.cell? ⟨b, 0, none⟩ = some x0 ∧ w.cell? ⟨b, 1, none⟩ = some x1 ∧ w.cell? ⟨b, 2, none⟩ = some x2 ∧ w.cell? ⟨b, 3, none⟩ = some x3 ∧ w.cell? ⟨b, 4, none⟩ = some x4 ∧ w.cell? ⟨b, 5, none⟩ = some x5 ∧ w.cell? ⟨b, 6, none⟩ = some x6 ∧ w.cell? ⟨b, 7, none⟩ = some x7 := by
 refine ⟨?_, ?_, ?_, ?_, ?_, ?_, ?_, ?_⟩ <;> (unfold World.cell?; dsimp only; rw [h]; rfl)
theorem set_8 {b : Nat} {t : TypeId} {w : World} {x0 x1 x2 x3 x4 x5 x6 x7 : Value} (y0 y1 y2 y3 y4 y5 y6 y7 : Value) (h : w.heap[b]? = some (.cells #[x0, x1, x2, x3, x4, x5, x6, x7] t (0, 0))) : ((((((((w.setCell ⟨b, 0, none⟩ y0).setCell ⟨b, 1, none⟩ y1).setCell ⟨b, 2, none⟩ y2).setCell ⟨b, 3, none⟩ y3).setCell ⟨b, 4, none⟩ y4).setCell ⟨b, 5, none⟩ y5).setCell ⟨b, 6, none⟩ y6).setCell ⟨b, 7, none⟩ y7).heap[b]? = some (.cells #[y0, y1, y2, y3, y4, y5, y6, y7] t (0, 0)) := by
 have h0 : (w.setCell ⟨b, 0, none⟩ y0).heap[b]? = some (.cells #[y0, x1, x2, x3, x4, x5, x6, x7] t (0, 0)) := (Joins.block_setCell h _).trans rfl; have h1 : ((w.setCell ⟨b, 0, none⟩ y0).setCell ⟨b, 1, none⟩ y1).heap[b]? = some (.cells #[y0, y1, x2, x3, x4, x5, x6, x7] t (0, 0)) := (Joins.block_setCell h0 _).trans rfl; have h2 : (((w.setCell ⟨b, 0, none⟩ y0).setCell ⟨b, 1, none⟩ y1).setCell ⟨b, 2, none⟩ y2).heap[b]? = some (.cells #[y0, y1, y2, x3, x4, x5, x6, x7] t (0, 0)) := (Joins.block_setCell h1 _).trans rfl; have h3 : ((((w.setCell ⟨b, 0, none⟩ y0).setCell ⟨b, 1, none⟩ y1).setCell ⟨b, 2, none⟩ y2).setCell ⟨b, 3, none⟩ y3).heap[b]? = some (.cells #[y0, y1, y2, y3, x4, x5, x6, x7] t (0, 0)) := (Joins.block_setCell h2 _).trans rfl; have h4 : (((((w.setCell ⟨b, 0, none⟩ y0).setCell ⟨b, 1, none⟩ y1).setCell ⟨b, 2, none⟩ y2).setCell ⟨b, 3, none⟩ y3).setCell ⟨b, 4, none⟩ y4).heap[b]? = some (.cells #[y0, y1, y2, y3, y4, x5, x6, x7] t (0, 0)) := (Joins.block_setCell h3 _).trans rfl
 have h5 : ((((((w.setCell ⟨b, 0, none⟩ y0).setCell ⟨b, 1, none⟩ y1).setCell ⟨b, 2, none⟩ y2).setCell ⟨b, 3, none⟩ y3).setCell ⟨b, 4, none⟩ y4).setCell ⟨b, 5, none⟩ y5).heap[b]? = some (.cells #[y0, y1, y2, y3, y4, y5, x6, x7] t (0, 0)) := (Joins.block_setCell h4 _).trans rfl; have h6 : (((((((w.setCell ⟨b, 0, none⟩ y0).setCell ⟨b, 1, none⟩ y1).setCell ⟨b, 2, none⟩ y2).setCell ⟨b, 3, none⟩ y3).setCell ⟨b, 4, none⟩ y4).setCell ⟨b, 5, none⟩ y5).setCell ⟨b, 6, none⟩ y6).heap[b]? = some (.cells #[y0, y1, y2, y3, y4, y5, y6, x7] t (0, 0)) := (Joins.block_setCell h5 _).trans rfl; have h7 : ((((((((w.setCell ⟨b, 0, none⟩ y0).setCell ⟨b, 1, none⟩ y1).setCell ⟨b, 2, none⟩ y2).setCell ⟨b, 3, none⟩ y3).setCell ⟨b, 4, none⟩ y4).setCell ⟨b, 5, none⟩ y5).setCell ⟨b, 6, none⟩ y6).setCell ⟨b, 7, none⟩ y7).heap[b]? = some (.cells #[y0, y1, y2, y3, y4, y5, y6, y7] t (0, 0)) := (Joins.block_setCell h6 _).trans rfl
 exact h7
theorem set_8_kp {b : Nat} {w0 w : World} (hk : Kp w0 w) (hb : w0.heap.size ≤ b) (y0 y1 y2 y3 y4 y5 y6 y7 : Value) : Kp w0 ((((((((w.setCell ⟨b, 0, none⟩ y0).setCell ⟨b, 1, none⟩ y1).setCell ⟨b, 2, none⟩ y2).setCell ⟨b, 3, none⟩ y3).setCell ⟨b, 4, none⟩ y4).setCell ⟨b, 5, none⟩ y5).setCell ⟨b, 6, none⟩ y6).setCell ⟨b, 7, none⟩ y7) := by
 refine Below.setCell ?_ hb _
 refine Below.setCell ?_ hb _
 refine Below.setCell ?_ hb _
 refine Below.setCell ?_ hb _
 refine Below.setCell ?_ hb _
 refine Below.setCell ?_ hb _
 refine Below.setCell ?_ hb _
 refine Below.setCell ?_ hb _
 exact hk
theorem set_8_ne {b c : Nat} {w : World} {o : Obj} (y0 y1 y2 y3 y4 y5 y6 y7 : Value) (h : w.heap[c]? = some o) (hne : c ≠ b) : ((((((((w.setCell ⟨b, 0, none⟩ y0).setCell ⟨b, 1, none⟩ y1).setCell ⟨b, 2, none⟩ y2).setCell ⟨b, 3, none⟩ y3).setCell ⟨b, 4, none⟩ y4).setCell ⟨b, 5, none⟩ y5).setCell ⟨b, 6, none⟩ y6).setCell ⟨b, 7, none⟩ y7).heap[c]? = some o := by
 rw [bS _ _ _ _ hne, bS _ _ _ _ hne, bS _ _ _ _ hne, bS _ _ _ _ hne, bS _ _ _ _ hne, bS _ _ _ _ hne, bS _ _ _ _ hne, bS _ _ _ _ hne]; exact h
theorem frozN {b : Nat} {t : TypeId} {w : World} {cs : Array Value} (h : w.heap[b]? = some (.cells cs t (0, 0))) (i : Nat) : w.frozen? ⟨b, i, none⟩ = false := by
 unfold World.frozen?; dsimp only; rw [h]
 simp
theorem kp_drewM {a b : World} (h : Kp a b) : Kp a b.drew := ⟨h.os, h.tape, h.output, h.size, h.block⟩
theorem drew_heapM (w : World) : w.drew.heap = w.heap := rfl
theorem refWork_any (z : SeatM) (w : World) : Calls Tryz.prog 126 #[.agg (seatV z)] w fun r w' => r = .returned (.int .i64 z.work) ∧ Kp w w' := by
 obtain ⟨p, e, s, h⟩ := z; dsimp only [seatV]; have KB := hD (kA w (.cells #[p, e, s, h] 93)); have HR := hD (mH w (.cells #[p, e, s, h] 93)); obtain ⟨g0, g1, g2, g3⟩ := cells_4 HR.out
 by_cases he : e = 2
 ·subst he
  by_cases h4 : s = 4
  ·subst h4; (go_enter Tryz.func126, Tryz.ntmps126; go_wp2; go_ret; exact ⟨by first | rfl | (simp [SeatM.work, *]; done), KB.out⟩)
  by_cases h6 : s = 6
  ·subst h6; (go_enter Tryz.func126, Tryz.ntmps126; go_wp2; go_ret; exact ⟨by first | rfl | (simp [SeatM.work, *]; done), KB.out⟩)
  by_cases h2 : s = 2
  ·subst h2; (go_enter Tryz.func126, Tryz.ntmps126; go_wp2; go_ret; exact ⟨by first | rfl | (simp [SeatM.work, *]; done), KB.out⟩)
  by_cases h7 : s = 7
  ·subst h7; (go_enter Tryz.func126, Tryz.ntmps126; go_wp2; go_ret; exact ⟨by first | rfl | (simp [SeatM.work, *]; done), KB.out⟩)
  have b4 : (s == 4) = false := by simpa using h4
  have b6 : (s == 6) = false := by simpa using h6
  have b2 : (s == 2) = false := by simpa using h2
  have b7 : (s == 7) = false := by simpa using h7
  rw [show SeatM.work ⟨p, 2, s, h⟩ = 0 by simp [SeatM.work, h4, h6, h2, h7]]; clear h4 h6 h2 h7
  (go_enter Tryz.func126, Tryz.ntmps126; go_wp2; go_ret; exact ⟨by first | rfl | (simp [SeatM.work, *]; done), KB.out⟩)
 ·rw [show SeatM.work ⟨p, e, s, h⟩ = 0 by simp [SeatM.work, he]]; have be : (e == 2) = false := by simpa using he
  clear he
  (go_enter Tryz.func126, Tryz.ntmps126; go_wp2; go_ret; exact ⟨by first | rfl | (simp [SeatM.work, *]; done), KB.out⟩)
theorem refSeatRt_any (z : SeatM) (w : World) : Calls Tryz.prog 84 #[.agg (seatV z)] w fun r w' => r = .returned (.bool z.right) ∧ Kp w w' := by
 obtain ⟨p, e, s, h⟩ := z; dsimp only [seatV]; have KB := hD (kA w (.cells #[p, e, s, h] 93)); have HR := hD (mH w (.cells #[p, e, s, h] 93)); obtain ⟨g0, g1, g2, g3⟩ := cells_4 HR.out
 cases hr : rightT p e with
 | false =>
  rw [show SeatM.right ⟨p, e, s, h⟩ = false by simp [SeatM.right, hr]]; have hn := of_decide_eq_false hr
  by_cases h1 : p < 1
  ·clear hn hr; (go_enter Tryz.func84, Tryz.ntmps84; go_wp2; go_ret; exact ⟨rfl, KB.out⟩)
  by_cases h2 : p > 2
  ·clear hn hr; (go_enter Tryz.func84, Tryz.ntmps84; go_wp2; go_ret; exact ⟨rfl, KB.out⟩)
  by_cases h3 : e < 1
  ·clear hn hr; (go_enter Tryz.func84, Tryz.ntmps84; go_wp2; go_ret; exact ⟨rfl, KB.out⟩)
  by_cases h4 : e > 2
  ·clear hn hr; (go_enter Tryz.func84, Tryz.ntmps84; go_wp2; go_ret; exact ⟨rfl, KB.out⟩)
  ·exact absurd ⟨by omega, by omega⟩ hn
 | true =>
  have hh := fun w => refHas_any p e s w
  cases hs : hasT p e s with
  | false =>
   rw [hs] at hh; have HH := hD hh; rw [show SeatM.right ⟨p, e, s, h⟩ = false by simp [SeatM.right, hr, hs]]; obtain ⟨hp, he⟩ := of_decide_eq_true hr; clear hr hs hh
   rcases hp with rfl | rfl <;> rcases he with rfl | rfl <;> (go_enter Tryz.func84, Tryz.ntmps84; go_wp2_with (go_at_call 122; (with_reducible refine (HH.out _).mono ?_); rintro e' w' ⟨rfl, rfl⟩); go_ret; exact ⟨rfl, KB.out⟩)
  | true =>
   rw [hs] at hh; have HH := hD hh; have hp := (of_decide_eq_true hr).1; have he := (of_decide_eq_true hr).2
   by_cases h14 : s = 14
   ·subst h14; rw [show SeatM.right ⟨p, e, 14, h⟩ = decide (h = 1 ∨ (4 ≤ h ∧ h ≤ 8)) by simp [SeatM.right, hr, hs]]; clear hr hs hh
    by_cases h1 : h = 1
    ·subst h1
     rcases hp with rfl | rfl <;> rcases he with rfl | rfl <;> (go_enter Tryz.func84, Tryz.ntmps84; go_wp2_with (go_at_call 122; (with_reducible refine (HH.out _).mono ?_); rintro e' w' ⟨rfl, rfl⟩); go_ret; exact ⟨rfl, KB.out⟩)
    ·have b1 : (h == 1) = false := by simpa using h1
     by_cases h4 : 4 ≤ h
     ·by_cases h8 : h ≤ 8
      ·rw [dT (Or.inr (And.intro h4 h8))]; have q4 : decide (h ≥ 4) = true := dT h4; have q8 : decide (h ≤ 8) = true := dT h8
       rcases hp with rfl | rfl <;> rcases he with rfl | rfl <;> (go_enter Tryz.func84, Tryz.ntmps84; go_wp2_with (go_at_call 122; (with_reducible refine (HH.out _).mono ?_); rintro e' w' ⟨rfl, rfl⟩); go_ret; exact ⟨rfl, KB.out⟩)
      ·rw [dF (by omega)]; have q4 : decide (h ≥ 4) = true := dT h4; have q8 : decide (h ≤ 8) = false := dF h8
       rcases hp with rfl | rfl <;> rcases he with rfl | rfl <;> (go_enter Tryz.func84, Tryz.ntmps84; go_wp2_with (go_at_call 122; (with_reducible refine (HH.out _).mono ?_); rintro e' w' ⟨rfl, rfl⟩); go_ret; exact ⟨rfl, KB.out⟩)
     ·rw [dF (by omega)]; have q4 : decide (h ≥ 4) = false := dF h4
      rcases hp with rfl | rfl <;> rcases he with rfl | rfl <;> (go_enter Tryz.func84, Tryz.ntmps84; go_wp2_with (go_at_call 122; (with_reducible refine (HH.out _).mono ?_); rintro e' w' ⟨rfl, rfl⟩); go_ret; exact ⟨rfl, KB.out⟩)
   ·rw [show SeatM.right ⟨p, e, s, h⟩ = (h == 0) by simp [SeatM.right, hr, hs, h14]; rw [Bool.eq_iff_iff]; simp]; have b14 : (s == 14) = false := by simpa using h14
    clear hr hs hh
    rcases hp with rfl | rfl <;> rcases he with rfl | rfl <;> (go_enter Tryz.func84, Tryz.ntmps84; go_wp2_with (go_at_call 122; (with_reducible refine (HH.out _).mono ?_); rintro e' w' ⟨rfl, rfl⟩); go_ret; exact ⟨rfl, KB.out⟩)
theorem msg_fields : Tryz.prog.underlying 26 = some (.struct (Tryz.prog.fieldsOf 26)) := by
 unfold Program.fieldsOf; rw [Tryz.underlying26]
theorem msg_eq (a b : MM) (w : World) : (Op.equalIn 10000 26 (.agg a.cells) (.agg b.cells)).run Tryz.prog w = .ok (decide (a = b)) w := by
 obtain ⟨k, f, t, n, s, r, p, o, c⟩ := a; obtain ⟨k', f', t', n', s', r', p', o', c'⟩ := b; have hm : Tryz.prog.stoodInHeld 26 = false := by kernel_rfl
 have ha : Tryz.prog.stoodInHeld 24 = false := by kernel_rfl
 dsimp only [MM.cells]; rw [show (10000 : Nat) = 9998 + 1 + 1 from rfl, run_equalIn_agg w (9998 + 1) 26 _ _ msg_fields hm]
 simp [Program.fieldsOf, Tryz.underlying26, Tryz.underlying24, Op.eqFields, part, go_sem]
 by_cases h0 : k = k'
 rotate_left
 ·simp [h0]
 subst h0
 by_cases h1 : f = f'
 rotate_left
 ·simp [h1]
 subst h1
 by_cases h2 : t = t'
 rotate_left
 ·simp [h2]
 subst h2
 by_cases h3 : n = n'
 rotate_left
 ·simp [h3]
 subst h3
 by_cases h4 : s = s'
 rotate_left
 ·simp [h4]
 subst h4
 by_cases h5 : r = r'
 rotate_left
 ·simp [h5]
 subst h5
 by_cases h6 : p = p'
 rotate_left
 ·simp [h6]
 subst h6
 by_cases h7 : o = o'
 rotate_left
 ·simp [h7]
 subst h7
 by_cases h8 : c = c'
 rotate_left
 ·simp [h8]
 subst h8
 simp [*]
theorem msg_eql (a b : MM) (w : World) : (binOp .eql 26 (.agg a.cells) (.agg b.cells)).run Tryz.prog w = .ok (.bool (decide (a = b))) w := by
 rw [run_eql_struct, msg_eq]; rfl
theorem msg_neq (a b : MM) (w : World) : (binOp .neq 26 (.agg a.cells) (.agg b.cells)).run Tryz.prog w = .ok (.bool (!decide (a = b))) w := by
 rw [run_neq_struct, msg_eq]; rfl
theorem msg_guard (op : BinOp) (x y : Operand) (a b : MM) (w : World) : (eqGuard op 26 x y (.agg a.cells) (.agg b.cells)).run Tryz.prog w = .ok () w := run_eqGuard_agg w op 26 x y _ _ (by kernel_rfl)
theorem answer_any (m : MM) (x y : Int) (w : World) : Calls Tryz.prog 78 #[.agg m.cells, .int .i64 x, .int .i64 y] w fun e w' => e = .returned (.agg (answerM m x y).cells) ∧ Kp w w' := by
 obtain ⟨k, f, t, n, s, r, p, o, c⟩ := m; dsimp only [MM.cells]; have kb := hD (kA w (.cells #[k, f, t, n, s, r, p, o, c] 26)); have hr := (mH w (.cells #[k, f, t, n, s, r, p, o, c] 26))
 obtain ⟨g0, g1, g2, g3, g4, g5, g6, g7, g8⟩ := cells9 (rZ (kA _ (.cells #[(0:Int), (0:Int), (0:Int), (0:Int), (0:Int), (0:Int), (0:Int), (0:Int), (0:Int)] 26)) hr); go_enter Tryz.func78, Tryz.ntmps78; go_wp2; refine bodyPost_ret (results_cell_row (p := 6) rfl _ _ (w.heap.size + 1) 26 _ (0, 0) _ rfl (nX1 w _ _) Tryz.underlying26 rfl (by kernel_rfl)) rfl ?_
 exact ⟨rfl, kT kb.out (kA _ _)⟩
theorem down_any (k : Int) (w : World) : Calls Tryz.prog 35 #[.int .i64 k] w fun e w' => e = .returned (.bool (downM k)) ∧ w = w' := by
 by_cases h2 : k = 2
 ·subst h2; rw [show downM 2 = true by decide]; go_enter Tryz.func35, Tryz.ntmps35; go_wp2; go_ret; exact ⟨by first | rfl | simp [*], rfl⟩
 by_cases h9 : k = 9
 ·subst h9; rw [show downM 9 = true by decide]; go_enter Tryz.func35, Tryz.ntmps35; go_wp2; go_ret; exact ⟨by first | rfl | simp [*], rfl⟩
 by_cases h10 : k = 10
 ·subst h10; rw [show downM 10 = true by decide]; go_enter Tryz.func35, Tryz.ntmps35; go_wp2; go_ret; exact ⟨by first | rfl | simp [*], rfl⟩
 by_cases h11 : k = 11
 ·subst h11; rw [show downM 11 = true by decide]; go_enter Tryz.func35, Tryz.ntmps35; go_wp2; go_ret; exact ⟨by first | rfl | simp [*], rfl⟩
 by_cases h12 : k = 12
 ·subst h12; rw [show downM 12 = true by decide]; go_enter Tryz.func35, Tryz.ntmps35; go_wp2; go_ret; exact ⟨by first | rfl | simp [*], rfl⟩
 by_cases h13 : k = 13
 ·subst h13; rw [show downM 13 = true by decide]; go_enter Tryz.func35, Tryz.ntmps35; go_wp2; go_ret; exact ⟨by first | rfl | simp [*], rfl⟩
 by_cases h14 : k = 14
 ·subst h14; rw [show downM 14 = true by decide]; go_enter Tryz.func35, Tryz.ntmps35; go_wp2; go_ret; exact ⟨by first | rfl | simp [*], rfl⟩
 rw [show downM k = false from dF (by omega)]; go_enter Tryz.func35, Tryz.ntmps35; go_wp2; go_ret; exact ⟨by first | rfl | simp [*], rfl⟩
variable {w0 w w' W w3 : World} {ads : List Addr}
theorem p3_0 (w : World) (o o' o'' : Obj) : (((w.alloc o).alloc o').alloc o'').heap[w.heap.size]? = some o := rZ (kA _ o'') (nX0 w o o')
theorem p3_1 (w : World) (o o' o'' : Obj) : (((w.alloc o).alloc o').alloc o'').heap[w.heap.size + 1]? = some o' := rZ (kA _ o'') (nX1 w o o')
theorem p3_2 (w : World) (o o' o'' : Obj) : (((w.alloc o).alloc o').alloc o'').heap[w.heap.size + 1 + 1]? = some o'' := by
 have := (mH ((w.alloc o).alloc o') o'')
 rwa [show ((w.alloc o).alloc o').heap.size = w.heap.size + 1 + 1 by simp] at this
theorem pk2 (w : World) (o o' : Obj) : Kp w ((w.alloc o).alloc o') := kT (kA _ _) (kA _ _)
theorem pk3 (w : World) (o o' o'' : Obj) : Kp w (((w.alloc o).alloc o').alloc o'') := kT (pk2 w o o') (kA _ _)
theorem cellsR3 {b : Nat} {t : TypeId} {w : World} {x0 x1 x2 : Value} (h : w.heap[b]? = some (.cells #[x0, x1, x2] t (0, 0))) : w.cell? ⟨b, 0, none⟩ = some x0 ∧ w.cell? ⟨b, 1, none⟩ = some x1 ∧ w.cell? ⟨b, 2, none⟩ = some x2 := by
 refine ⟨?_, ?_, ?_⟩ <;> (unfold World.cell?; dsimp only; rw [h]; rfl)
theorem setR3 {b : Nat} {t : TypeId} {w : World} {x0 x1 x2 : Value} (y0 y1 y2 : Value) (h : w.heap[b]? = some (.cells #[x0, x1, x2] t (0, 0))) : (((w.setCell ⟨b, 0, none⟩ y0).setCell ⟨b, 1, none⟩ y1).setCell ⟨b, 2, none⟩ y2).heap[b]? = some (.cells #[y0, y1, y2] t (0, 0)) := by
 have h1 : (w.setCell ⟨b, 0, none⟩ y0).heap[b]? = some (.cells #[y0, x1, x2] t (0, 0)) := (Joins.block_setCell h _).trans rfl; have h2 : ((w.setCell ⟨b, 0, none⟩ y0).setCell ⟨b, 1, none⟩ y1).heap[b]? = some (.cells #[y0, y1, x2] t (0, 0)) := (Joins.block_setCell h1 _).trans rfl; exact (Joins.block_setCell h2 _).trans rfl
theorem setR3_kp {b : Nat} {w0 w : World} (hk : Kp w0 w) (hb : w0.heap.size ≤ b) (y0 y1 y2 : Value) : Kp w0 (((w.setCell ⟨b, 0, none⟩ y0).setCell ⟨b, 1, none⟩ y1).setCell ⟨b, 2, none⟩ y2) :=
 Below.setCell (Below.setCell (Below.setCell hk hb _) hb _) hb _
theorem setR3_ne {b c : Nat} {w : World} (y0 y1 y2 : Value) (hne : c ≠ b) : (((w.setCell ⟨b, 0, none⟩ y0).setCell ⟨b, 1, none⟩ y1).setCell ⟨b, 2, none⟩ y2).heap[c]? = w.heap[c]? := by
 rw [bS _ _ _ _ hne, bS _ _ _ _ hne, bS _ _ _ _ hne]
theorem pdemand_t (v : Value) (w : World) : Calls Tryz.prog 55 #[.bool true, v] w fun e w' => e = .returned (.tuple #[]) ∧ w = w' := by
 go_enter Tryz.func55, Tryz.ntmps55; go_wp2; go_end0
 exact ⟨rfl, rfl⟩
theorem pdemand_f (a : Addr) (w : World) : Calls Tryz.prog 55 #[.bool false, snt a] w fun e w' => e = .panicked [{ v := snt a, recovered := false }] ∧ w = w' := by
 have hpn := panic_some (P := Tryz.prog) 257 (.pointer (some a)) w; go_enter Tryz.func55, Tryz.ntmps55; go_wp2; exact ⟨rfl, rfl, rfl⟩
theorem kPlaced (xn xs xr y1 y2 y3 y4 nd i : Int) (b : Bool) (hb : (xr != -1) = b) : Calls Tryz.prog 43 #[.agg #[xn, xs, xr, y1, y2, y3, y4, nd, i]] w fun r w' => r = .returned (.bool b) ∧ Kp w w' := by
 obtain ⟨c0, c1, c2, c3, c4, c5, c6, c7, c8⟩ := cells9 (mH w (.cells #[xn, xs, xr, y1, y2, y3, y4, nd, i] 84)); have KB := hD (kA w (.cells #[xn, xs, xr, y1, y2, y3, y4, nd, i] 84)); go_enter Tryz.func43, Tryz.ntmps43; go_wp2; go_ret; exact ⟨rfl, KB.out⟩
theorem kAsks (k : Int) : Calls Tryz.prog 31 #[.int .i64 k] w fun r w' => r = .returned (.bool (decide (k = 15) || downM k)) ∧ w = w' := by
 have HD := hD (fun w => down_any k w)
 by_cases h : k = 15
 ·subst h; go_enter Tryz.func31, Tryz.ntmps31; go_wp2; go_ret; exact ⟨rfl, rfl⟩
 ·rw [dF h, Bool.false_or]; have g1 : (k == 15) = false := by simpa using h
  clear h; go_enter Tryz.func31, Tryz.ntmps31; go_wp2_with (go_at_call 35; (with_reducible refine (HD.out _).mono ?_); rintro e' w1 ⟨rfl, rfl⟩)
  go_ret; exact ⟨rfl, rfl⟩
theorem kMessage (xn xs xr y1 y2 y3 y4 nd i : Int) (k rg : Int) : Calls Tryz.prog 50 #[.agg #[xn, xs, xr, y1, y2, y3, y4, nd, i], .int .i64 k, .int .i64 rg] w fun r w' => r = .returned (.agg #[k, nd, xn, xn, xs, rg, i, (0:Int), (0:Int)]) ∧ Kp w w' := by
 obtain ⟨a0, a1, a2, a3, a4, a5, a6, a7, a8⟩ := cells9 (nX0 w (.cells #[xn, xs, xr, y1, y2, y3, y4, nd, i] 84) (.cells #[(0:Int), (0:Int), (0:Int), (0:Int), (0:Int), (0:Int), (0:Int), (0:Int), (0:Int)] 26)); have K2 := hD (pk2 w (.cells #[xn, xs, xr, y1, y2, y3, y4, nd, i] 84) (.cells #[k, nd, xn, xn, xs, rg, i, (0:Int), (0:Int)] 26)); go_enter Tryz.func50, Tryz.ntmps50; go_wp2; refine bodyPost_ret (results_cell_row (p := 6) rfl _ _ (w.heap.size + 1) 26 _ (0, 0) _ rfl (nX1 w _ _) Tryz.underlying26 rfl (by kernel_rfl)) rfl ?_
 exact ⟨rfl, K2.out⟩
theorem kRegister (xn xs xr y1 y2 y3 y4 nd i : Int) : Calls Tryz.prog 61 #[.agg #[xn, xs, xr, y1, y2, y3, y4, nd, i]] w fun r w' => r = .returned (.agg #[(17:Int), nd, xn, xn, xs, (0:Int), i, y1, (0:Int)]) ∧ Kp w w' := by
 have HM := hD (fun w => kMessage (w := w) xn xs xr y1 y2 y3 y4 nd i 17 0); have r0 := hD (nX0 w (.cells #[xn, xs, xr, y1, y2, y3, y4, nd, i] 84) (.cells #[(0:Int), (0:Int), (0:Int), (0:Int), (0:Int), (0:Int), (0:Int), (0:Int), (0:Int)] 26)); have r1 := hD (nX1 w (.cells #[xn, xs, xr, y1, y2, y3, y4, nd, i] 84) (.cells #[(0:Int), (0:Int), (0:Int), (0:Int), (0:Int), (0:Int), (0:Int), (0:Int), (0:Int)] 26)); have K2 := hD (pk2 w (.cells #[xn, xs, xr, y1, y2, y3, y4, nd, i] 84) (.cells #[(0:Int), (0:Int), (0:Int), (0:Int), (0:Int), (0:Int), (0:Int), (0:Int), (0:Int)] 26)); obtain ⟨a0, a1, a2, a3, a4, a5, a6, a7, a8⟩ := cells9 r0.out; go_enter Tryz.func61, Tryz.ntmps61; go_wp2_with (go_at_call 50; (with_reducible refine (HM.out _).mono ?_); rintro e' w3 ⟨rfl, hk3⟩; have K3 := hD (kT K2.out (kT hk3 (kA w3 (.cells #[(17:Int), nd, xn, xn, xs, (0:Int), i, y1, (0:Int)] 26)))); have R0 := hD (rZ (kT hk3 (kA w3 (.cells #[(17:Int), nd, xn, xn, xs, (0:Int), i, (0:Int), (0:Int)] 26))) r0.out); have R1 := hD (rZ (kT hk3 (kA w3 (.cells #[(17:Int), nd, xn, xn, xs, (0:Int), i, y1, (0:Int)] 26))) r1.out); have R2 := hD (mH w3 (.cells #[(17:Int), nd, xn, xn, xs, (0:Int), i, y1, (0:Int)] 26)); obtain ⟨m0, m1, m2, m3, m4, m5, m6, m7, m8⟩ := cells9 (mH w3 (.cells #[(17:Int), nd, xn, xn, xs, (0:Int), i, (0:Int), (0:Int)] 26)); have B3 := hD (kS (kT K2.out hk3)); have hne := hD (show w3.heap.size ≠ w.heap.size + 1 from fun e => by have := oZ (rZ hk3 r1.out); omega); obtain ⟨c0, c1, c2, c3, c4, c5, c6, c7, c8⟩ := cells9 R0.out; obtain ⟨d0, d1, d2, d3, d4, d5, d6, d7, d8⟩ := cells9 R2.out; obtain ⟨h10, h11, h12, h13, h14, h15, h16, h17, h18⟩ := cells9 R1.out; have f1 := frozN R1.out; have f2 := frozN R2.out; clear hk3)
 refine bodyPost_ret (results_cell_row (p := 2) rfl _ _ (w.heap.size + 1) 26 _ (0, 0) _ rfl (set9 (.int .i64 17) (.int .i64 nd) (.int .i64 xn) (.int .i64 xn) (.int .i64 xs) (.int .i64 0) (.int .i64 i) (.int .i64 y1) (.int .i64 0) R1.out) Tryz.underlying26 rfl (by kernel_rfl)) rfl ?_
 exact ⟨rfl, set9_kp K3.out (by simp) _ _ _ _ _ _ _ _ _⟩
theorem kJoins (xn xs xr y1 y2 y3 y4 nd i : Int) : Calls Tryz.prog 60 #[.agg #[xn, xs, xr, y1, y2, y3, y4, nd, i]] w fun r w' => r = .returned (.agg #[(6:Int), xn, xs, (0:Int), (0:Int), i, y1, (0:Int), (0:Int), (0:Int), (0:Int), (0:Int), (0:Int), .float .f64 0]) ∧ Kp w w' := by
 obtain ⟨a0, a1, a2, a3, a4, a5, a6, a7, a8⟩ := cells9 (nX0 w (.cells #[xn, xs, xr, y1, y2, y3, y4, nd, i] 84) (.cells #[(0:Int), (0:Int), (0:Int), (0:Int), (0:Int), (0:Int), (0:Int), (0:Int), (0:Int), (0:Int), (0:Int), (0:Int), (0:Int), .float .f64 0] 73)); have K2 := hD (pk2 w (.cells #[xn, xs, xr, y1, y2, y3, y4, nd, i] 84) (.cells #[(6:Int), xn, xs, (0:Int), (0:Int), i, y1, (0:Int), (0:Int), (0:Int), (0:Int), (0:Int), (0:Int), .float .f64 0] 73)); have hsf := sF; go_enter Tryz.func60, Tryz.ntmps60; go_wp2; refine bodyPost_ret (results_cell_row (p := 2) rfl _ _ (w.heap.size + 1) 73 _ (0, 0) _ rfl (nX1 w _ _) Tryz.underlying73 rfl (by kernel_rfl)) rfl ?_
 exact ⟨rfl, K2.out⟩
theorem kTurns (xn xs xr y1 y2 y3 y4 nd i : Int) (t1 t2 t3 t4 : Int) : Calls Tryz.prog 79 #[.agg #[xn, xs, xr, y1, y2, y3, y4, nd, i], .agg #[t1, t2, t3, t4]] w fun r w' => r = .returned (.agg #[(8:Int), (0:Int), (0:Int), (0:Int), (0:Int), i, (0:Int), (0:Int), (0:Int), (0:Int), t3, t4, (0:Int), .float .f64 0]) ∧ Kp w w' := by
 obtain ⟨a0, a1, a2, a3, a4, a5, a6, a7, a8⟩ := cells9 (p3_0 w (.cells #[xn, xs, xr, y1, y2, y3, y4, nd, i] 84) (.cells #[t1, t2, t3, t4] 69) (.cells #[(0:Int), (0:Int), (0:Int), (0:Int), (0:Int), (0:Int), (0:Int), (0:Int), (0:Int), (0:Int), (0:Int), (0:Int), (0:Int), .float .f64 0] 73)); obtain ⟨b0, b1, b2, b3⟩ := cells_4 (p3_1 w (.cells #[xn, xs, xr, y1, y2, y3, y4, nd, i] 84) (.cells #[t1, t2, t3, t4] 69) (.cells #[(0:Int), (0:Int), (0:Int), (0:Int), (0:Int), (0:Int), (0:Int), (0:Int), (0:Int), (0:Int), (0:Int), (0:Int), (0:Int), .float .f64 0] 73)); have K2 := hD (pk3 w (.cells #[xn, xs, xr, y1, y2, y3, y4, nd, i] 84) (.cells #[t1, t2, t3, t4] 69) (.cells #[(8:Int), (0:Int), (0:Int), (0:Int), (0:Int), i, (0:Int), (0:Int), (0:Int), (0:Int), t3, t4, (0:Int), .float .f64 0] 73)); have hsf := sF; go_enter Tryz.func79, Tryz.ntmps79; go_wp2; refine bodyPost_ret (results_cell_row (p := 4) rfl _ _ (w.heap.size + 1 + 1) 73 _ (0, 0) _ rfl (p3_2 w _ _ _) Tryz.underlying73 rfl (by kernel_rfl)) rfl ?_
 exact ⟨rfl, K2.out⟩
theorem kRegAgain (xn xs xr y1 y2 y3 y4 nd i : Int) (g : MM) (hg : g = if y3 = 1 then ⟨17, nd, xn, xn, xs, 0, i, y1, 0⟩ else ⟨0, 0, 0, 0, 0, 0, 0, 0, 0⟩) : Calls Tryz.prog 48 #[.agg #[xn, xs, xr, y1, y2, y3, y4, nd, i]] w fun r w' => r = .returned (.tuple #[.agg g.cells, .bool (decide (y3 = 1))]) ∧ Kp w w' := by
 have HM := hD (fun w => kRegister (w := w) xn xs xr y1 y2 y3 y4 nd i); have r0 := hD (nX0 w (.cells #[xn, xs, xr, y1, y2, y3, y4, nd, i] 84) (.cells #[(0:Int), (0:Int), (0:Int), (0:Int), (0:Int), (0:Int), (0:Int), (0:Int), (0:Int)] 26)); have r1 := hD (nX1 w (.cells #[xn, xs, xr, y1, y2, y3, y4, nd, i] 84) (.cells #[(0:Int), (0:Int), (0:Int), (0:Int), (0:Int), (0:Int), (0:Int), (0:Int), (0:Int)] 26)); have K2 := hD (pk2 w (.cells #[xn, xs, xr, y1, y2, y3, y4, nd, i] 84) (.cells #[(0:Int), (0:Int), (0:Int), (0:Int), (0:Int), (0:Int), (0:Int), (0:Int), (0:Int)] 26)); obtain ⟨a0, a1, a2, a3, a4, a5, a6, a7, a8⟩ := cells9 r0.out; have f1 := frozN r1.out
 by_cases h1 : y3 = 1
 ·rw [if_pos h1] at hg; subst hg; rw [dT h1]; have g1 : (y3 == 1) = true := beq_iff_eq.2 h1; have g2 : (y3 != 1) = false := by simp [h1]
  clear h1; go_enter Tryz.func48, Tryz.ntmps48; go_wp2_with (go_at_call 61; (with_reducible refine (HM.out _).mono ?_); rintro e' w3 ⟨rfl, hk3⟩; have K3 := hD (kT K2.out hk3); have R1 := hD (rZ hk3 r1.out); obtain ⟨h10, h11, h12, h13, h14, h15, h16, h17, h18⟩ := cells9 R1.out; have f3 := frozN R1.out; clear hk3)
  refine bodyPost_ret (rQ (p := 2) (u := 3) rfl _ _ (w.heap.size + 1) 26 _ (0, 0) _ rfl (set9 (.int .i64 17) (.int .i64 nd) (.int .i64 xn) (.int .i64 xn) (.int .i64 xs) (.int .i64 0) (.int .i64 i) (.int .i64 y1) (.int .i64 0) R1.out) Tryz.underlying26 rfl (by kernel_rfl)) rfl ?_
  exact ⟨rfl, set9_kp K3.out (by simp) _ _ _ _ _ _ _ _ _⟩
 ·rw [if_neg h1] at hg; subst hg; rw [dF h1]; have g1 : (y3 == 1) = false := by simpa using h1
  have g2 : (y3 != 1) = true := by simp [h1]
  clear h1; go_enter Tryz.func48, Tryz.ntmps48; go_wp2; refine bodyPost_ret (rQ (p := 2) (u := 3) rfl _ _ (w.heap.size + 1) 26 _ (0, 0) _ rfl (nX1 w _ _) Tryz.underlying26 rfl (by kernel_rfl)) rfl ?_
  exact ⟨rfl, K2.out⟩
theorem kFits (xn xs xr y1 y2 y3 y4 nd i : Int) (gk gf gt gn gs gr gp go gc : Int) (b : Bool) (hb : (decide (gn = xn ∧ gs = xs) && (gf == xn && (gt == nd && (decide (xr = -1) || gr == xr)))) = b) : Calls Tryz.prog 30 #[.agg #[xn, xs, xr, y1, y2, y3, y4, nd, i], .agg #[gk, gf, gt, gn, gs, gr, gp, go, gc]] w fun r w' => r = .returned (.bool b) ∧ Kp w w' := by
 have HPL := hD (fun w b hb => kPlaced (w := w) xn xs xr y1 y2 y3 y4 nd i b hb); have r0 := hD (nX0 w (.cells #[xn, xs, xr, y1, y2, y3, y4, nd, i] 84) (.cells #[gk, gf, gt, gn, gs, gr, gp, go, gc] 26)); have r1 := hD (nX1 w (.cells #[xn, xs, xr, y1, y2, y3, y4, nd, i] 84) (.cells #[gk, gf, gt, gn, gs, gr, gp, go, gc] 26)); have K2 := hD (pk2 w (.cells #[xn, xs, xr, y1, y2, y3, y4, nd, i] 84) (.cells #[gk, gf, gt, gn, gs, gr, gp, go, gc] 26)); obtain ⟨a0, a1, a2, a3, a4, a5, a6, a7, a8⟩ := cells9 r0.out; obtain ⟨b0, b1, b2, b3, b4, b5, b6, b7, b8⟩ := cells9 r1.out; have heq : ∀ w, (binOp .eql 24 (.agg #[gn, gs]) (.agg #[xn, xs])).run Tryz.prog w = .ok (.bool (decide (gn = xn ∧ gs = xs))) w := fun w => act_eql9 gn gs xn xs w
 have heg := fun op x y (w : World) => act_guard9 op x y gn gs xn xs w
 obtain ⟨t1, h1⟩ : ∃ x, decide (gn = xn ∧ gs = xs) = x := ⟨_, rfl⟩
 obtain ⟨t2, h2⟩ : ∃ x, (gf == xn) = x := ⟨_, rfl⟩
 obtain ⟨t3, h3⟩ : ∃ x, (gt == nd) = x := ⟨_, rfl⟩
 obtain ⟨t5, h5⟩ : ∃ x, (gr == xr) = x := ⟨_, rfl⟩
 rw [h1] at heq; rw [h1, h2, h3, h5] at hb; clear h1
 cases t1
 ·have hb : false = b := hb; subst hb; go_enter Tryz.func30, Tryz.ntmps30; go_wp2; go_ret; exact ⟨rfl, K2.out⟩
 cases t2
 ·have hb : false = b := hb; subst hb; go_enter Tryz.func30, Tryz.ntmps30; go_wp2; go_ret; exact ⟨rfl, K2.out⟩
 cases t3
 ·have hb : false = b := hb; subst hb; go_enter Tryz.func30, Tryz.ntmps30; go_wp2; go_ret; exact ⟨rfl, K2.out⟩
 by_cases hx : xr = -1
 ·have hb : true = b := by rw [← hb, dT hx]; rfl
  subst hb; have hp : (xr != -1) = false := by simp [hx]
  clear hx h5; go_enter Tryz.func30, Tryz.ntmps30; go_wp2_with (go_at_call 43; (with_reducible refine (HPL.out _ _ hp).mono ?_); rintro e' w3 ⟨rfl, hk3⟩; have K3 := hD (kT K2.out hk3); obtain ⟨c0, c1, c2, c3, c4, c5, c6, c7, c8⟩ := cells9 (rZ hk3 r0.out); obtain ⟨d0, d1, d2, d3, d4, d5, d6, d7, d8⟩ := cells9 (rZ hk3 r1.out); clear hk3)
  go_ret; exact ⟨rfl, K3.out⟩
 ·have hb : t5 = b := by rw [← hb, dF hx]; simp
  subst hb; have hp : (xr != -1) = true := by simp [hx]
  clear hx; go_enter Tryz.func30, Tryz.ntmps30; go_wp2_with (go_at_call 43; (with_reducible refine (HPL.out _ _ hp).mono ?_); rintro e' w3 ⟨rfl, hk3⟩; have K3 := hD (kT K2.out hk3); obtain ⟨c0, c1, c2, c3, c4, c5, c6, c7, c8⟩ := cells9 (rZ hk3 r0.out); obtain ⟨d0, d1, d2, d3, d4, d5, d6, d7, d8⟩ := cells9 (rZ hk3 r1.out); clear hk3)
  go_ret; exact ⟨rfl, K3.out⟩
end Go.Proofs.YtncoofnhifcnhaaGreatDoor
