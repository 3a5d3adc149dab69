/- Parts of this proof (own work). -/
import Derived.Test.YtlmlmhmhgdjhnaaGreatDoorZa06
import Derived.Lib.SliceRun
set_option maxRecDepth 100000
set_option maxHeartbeats 40000000
namespace Go.Proofs.YtlmlmhmhgdjhnaaGreatDoor
open Go.RowKit Go.ChangeShapes Go.WideShapes
variable {w0 w w' W w3 : World} {ads : List Addr}
theorem cells15 {b : Nat} {t : TypeId} {w : World} {x0 x1 x2 x3 x4 x5 x6 x7 x8 x9 x10 x11 x12 x13 x14 : Value} (h : w.heap[b]? = some (.cells #[x0, x1, x2, x3, x4, x5, x6, x7, x8, x9, x10, x11, x12, x13, x14] t (0, 0))) : w.cell? ⟨b, 0, none⟩ = some x0 ∧ w.cell? ⟨b, 1, none⟩ = some x1 ∧ w.cell? ⟨b, 2, none⟩ = some x2 ∧ w.cell? ⟨b, 3, none⟩ = some x3 ∧ w.cell? ⟨b, 4, none⟩ = some x4 ∧ w.cell? ⟨b, 5, none⟩ = some x5 ∧ w.cell? ⟨b, 6, none⟩ = some x6 ∧ w.cell? ⟨b, 7, none⟩ = some x7 ∧ w.cell? ⟨b, 8, none⟩ = some x8 ∧ w.cell? ⟨b, 9, none⟩ = some x9 ∧ w.cell? ⟨b, 10, none⟩ = some x10 ∧ w.cell? ⟨b, 11, none⟩ = some x11 ∧ w.cell? ⟨b, 12, none⟩ = some x12 ∧ w.cell? ⟨b, 13, none⟩ = some x13 ∧ w.cell? ⟨b, 14, none⟩ = some x14 := by
 refine ⟨?_, ?_, ?_, ?_, ?_, ?_, ?_, ?_, ?_, ?_, ?_, ?_, ?_, ?_, ?_⟩ <;> (unfold World.cell?; dsimp only; rw [h]; rfl)
theorem set15 {b : Nat} {t : TypeId} {w : World} {x0 x1 x2 x3 x4 x5 x6 x7 x8 x9 x10 x11 x12 x13 x14 : Value} (y0 y1 y2 y3 y4 y5 y6 y7 y8 y9 y10 y11 y12 y13 y14 : Value) (h : w.heap[b]? = some (.cells #[x0, x1, x2, x3, x4, x5, x6, x7, x8, x9, x10, x11, x12, x13, x14] t (0, 0))) : (((((((((((((((w.setCell ⟨b, 0, none⟩ y0).setCell ⟨b, 1, none⟩ y1).setCell ⟨b, 2, none⟩ y2).setCell ⟨b, 3, none⟩ y3).setCell ⟨b, 4, none⟩ y4).setCell ⟨b, 5, none⟩ y5).setCell ⟨b, 6, none⟩ y6).setCell ⟨b, 7, none⟩ y7).setCell ⟨b, 8, none⟩ y8).setCell ⟨b, 9, none⟩ y9).setCell ⟨b, 10, none⟩ y10).setCell ⟨b, 11, none⟩ y11).setCell ⟨b, 12, none⟩ y12).setCell ⟨b, 13, none⟩ y13).setCell ⟨b, 14, none⟩ y14).heap[b]? = some (.cells #[y0, y1, y2, y3, y4, y5, y6, y7, y8, y9, y10, y11, y12, y13, y14] t (0, 0)) := by
 have h0 : (w.setCell ⟨b, 0, none⟩ y0).heap[b]? = some (.cells #[y0, x1, x2, x3, x4, x5, x6, x7, x8, x9, x10, x11, x12, x13, x14] t (0, 0)) := (Joins.block_setCell h _).trans rfl; have h1 : ((w.setCell ⟨b, 0, none⟩ y0).setCell ⟨b, 1, none⟩ y1).heap[b]? = some (.cells #[y0, y1, x2, x3, x4, x5, x6, x7, x8, x9, x10, x11, x12, x13, x14] t (0, 0)) := (Joins.block_setCell h0 _).trans rfl; have h2 : (((w.setCell ⟨b, 0, none⟩ y0).setCell ⟨b, 1, none⟩ y1).setCell ⟨b, 2, none⟩ y2).heap[b]? = some (.cells #[y0, y1, y2, x3, x4, x5, x6, x7, x8, x9, x10, x11, x12, x13, x14] t (0, 0)) := (Joins.block_setCell h1 _).trans rfl; have h3 : ((((w.setCell ⟨b, 0, none⟩ y0).setCell ⟨b, 1, none⟩ y1).setCell ⟨b, 2, none⟩ y2).setCell ⟨b, 3, none⟩ y3).heap[b]? = some (.cells #[y0, y1, y2, y3, x4, x5, x6, x7, x8, x9, x10, x11, x12, x13, x14] t (0, 0)) := (Joins.block_setCell h2 _).trans rfl; have h4 : (((((w.setCell ⟨b, 0, none⟩ y0).setCell ⟨b, 1, none⟩ y1).setCell ⟨b, 2, none⟩ y2).setCell ⟨b, 3, none⟩ y3).setCell ⟨b, 4, none⟩ y4).heap[b]? = some (.cells #[y0, y1, y2, y3, y4, x5, x6, x7, x8, x9, x10, x11, x12, x13, x14] t (0, 0)) := (Joins.block_setCell h3 _).trans rfl
 have h5 : ((((((w.setCell ⟨b, 0, none⟩ y0).setCell ⟨b, 1, none⟩ y1).setCell ⟨b, 2, none⟩ y2).setCell ⟨b, 3, none⟩ y3).setCell ⟨b, 4, none⟩ y4).setCell ⟨b, 5, none⟩ y5).heap[b]? = some (.cells #[y0, y1, y2, y3, y4, y5, x6, x7, x8, x9, x10, x11, x12, x13, x14] t (0, 0)) := (Joins.block_setCell h4 _).trans rfl; have h6 : (((((((w.setCell ⟨b, 0, none⟩ y0).setCell ⟨b, 1, none⟩ y1).setCell ⟨b, 2, none⟩ y2).setCell ⟨b, 3, none⟩ y3).setCell ⟨b, 4, none⟩ y4).setCell ⟨b, 5, none⟩ y5).setCell ⟨b, 6, none⟩ y6).heap[b]? = some (.cells #[y0, y1, y2, y3, y4, y5, y6, x7, x8, x9, x10, x11, x12, x13, x14] t (0, 0)) := (Joins.block_setCell h5 _).trans rfl; have h7 : ((((((((w.setCell ⟨b, 0, none⟩ y0).setCell ⟨b, 1, none⟩ y1).setCell ⟨b, 2, none⟩ y2).setCell ⟨b, 3, none⟩ y3).setCell ⟨b, 4, none⟩ y4).setCell ⟨b, 5, none⟩ y5).setCell ⟨b, 6, none⟩ y6).setCell ⟨b, 7, none⟩ y7).heap[b]? = some (.cells #[y0, y1, y2, y3, y4, y5, y6, y7, x8, x9, x10, x11, x12, x13, x14] t (0, 0)) := (Joins.block_setCell h6 _).trans rfl
 have h8 : (((((((((w.setCell ⟨b, 0, none⟩ y0).setCell ⟨b, 1, none⟩ y1).setCell ⟨b, 2, none⟩ y2).setCell ⟨b, 3, none⟩ y3).setCell ⟨b, 4, none⟩ y4).setCell ⟨b, 5, none⟩ y5).setCell ⟨b, 6, none⟩ y6).setCell ⟨b, 7, none⟩ y7).setCell ⟨b, 8, none⟩ y8).heap[b]? = some (.cells #[y0, y1, y2, y3, y4, y5, y6, y7, y8, x9, x10, x11, x12, x13, x14] t (0, 0)) := (Joins.block_setCell h7 _).trans rfl; have h9 : ((((((((((w.setCell ⟨b, 0, none⟩ y0).setCell ⟨b, 1, none⟩ y1).setCell ⟨b, 2, none⟩ y2).setCell ⟨b, 3, none⟩ y3).setCell ⟨b, 4, none⟩ y4).setCell ⟨b, 5, none⟩ y5).setCell ⟨b, 6, none⟩ y6).setCell ⟨b, 7, none⟩ y7).setCell ⟨b, 8, none⟩ y8).setCell ⟨b, 9, none⟩ y9).heap[b]? = some (.cells #[y0, y1, y2, y3, y4, y5, y6, y7, y8, y9, x10, x11, x12, x13, x14] t (0, 0)) := (Joins.block_setCell h8 _).trans rfl; have h10 : (((((((((((w.setCell ⟨b, 0, none⟩ y0).setCell ⟨b, 1, none⟩ y1).setCell ⟨b, 2, none⟩ y2).setCell ⟨b, 3, none⟩ y3).setCell ⟨b, 4, none⟩ y4).setCell ⟨b, 5, none⟩ y5).setCell ⟨b, 6, none⟩ y6).setCell ⟨b, 7, none⟩ y7).setCell ⟨b, 8, none⟩ y8).setCell ⟨b, 9, none⟩ y9).setCell ⟨b, 10, none⟩ y10).heap[b]? = some (.cells #[y0, y1, y2, y3, y4, y5, y6, y7, y8, y9, y10, x11, x12, x13, x14] t (0, 0)) := (Joins.block_setCell h9 _).trans rfl
 have h11 : ((((((((((((w.setCell ⟨b, 0, none⟩ y0).setCell ⟨b, 1, none⟩ y1).setCell ⟨b, 2, none⟩ y2).setCell ⟨b, 3, none⟩ y3).setCell ⟨b, 4, none⟩ y4).setCell ⟨b, 5, none⟩ y5).setCell ⟨b, 6, none⟩ y6).setCell ⟨b, 7, none⟩ y7).setCell ⟨b, 8, none⟩ y8).setCell ⟨b, 9, none⟩ y9).setCell ⟨b, 10, none⟩ y10).setCell ⟨b, 11, none⟩ y11).heap[b]? = some (.cells #[y0, y1, y2, y3, y4, y5, y6, y7, y8, y9, y10, y11, x12, x13, x14] t (0, 0)) := (Joins.block_setCell h10 _).trans rfl; have h12 : (((((((((((((w.setCell ⟨b, 0, none⟩ y0).setCell ⟨b, 1, none⟩ y1).setCell ⟨b, 2, none⟩ y2).setCell ⟨b, 3, none⟩ y3).setCell ⟨b, 4, none⟩ y4).setCell ⟨b, 5, none⟩ y5).setCell ⟨b, 6, none⟩ y6).setCell ⟨b, 7, none⟩ y7).setCell ⟨b, 8, none⟩ y8).setCell ⟨b, 9, none⟩ y9).setCell ⟨b, 10, none⟩ y10).setCell ⟨b, 11, none⟩ y11).setCell ⟨b, 12, none⟩ y12).heap[b]? = some (.cells #[y0, y1, y2, y3, y4, y5, y6, y7, y8, y9, y10, y11, y12, x13, x14] t (0, 0)) := (Joins.block_setCell h11 _).trans rfl
 have h13 : ((((((((((((((w.setCell ⟨b, 0, none⟩ y0).setCell ⟨b, 1, none⟩ y1).setCell ⟨b, 2, none⟩ y2).setCell ⟨b, 3, none⟩ y3).setCell ⟨b, 4, none⟩ y4).setCell ⟨b, 5, none⟩ y5).setCell ⟨b, 6, none⟩ y6).setCell ⟨b, 7, none⟩ y7).setCell ⟨b, 8, none⟩ y8).setCell ⟨b, 9, none⟩ y9).setCell ⟨b, 10, none⟩ y10).setCell ⟨b, 11, none⟩ y11).setCell ⟨b, 12, none⟩ y12).setCell ⟨b, 13, none⟩ y13).heap[b]? = some (.cells #[y0, y1, y2, y3, y4, y5, y6, y7, y8, y9, y10, y11, y12, y13, x14] t (0, 0)) := (Joins.block_setCell h12 _).trans rfl; have h14 : (((((((((((((((w.setCell ⟨b, 0, none⟩ y0).setCell ⟨b, 1, none⟩ y1).setCell ⟨b, 2, none⟩ y2).setCell ⟨b, 3, none⟩ y3).setCell ⟨b, 4, none⟩ y4).setCell ⟨b, 5, none⟩ y5).setCell ⟨b, 6, none⟩ y6).setCell ⟨b, 7, none⟩ y7).setCell ⟨b, 8, none⟩ y8).setCell ⟨b, 9, none⟩ y9).setCell ⟨b, 10, none⟩ y10).setCell ⟨b, 11, none⟩ y11).setCell ⟨b, 12, none⟩ y12).setCell ⟨b, 13, none⟩ y13).setCell ⟨b, 14, none⟩ y14).heap[b]? = some (.cells #[y0, y1, y2, y3, y4, y5, y6, y7, y8, y9, y10, y11, y12, y13, y14] t (0, 0)) := (Joins.block_setCell h13 _).trans rfl
 exact h14
theorem set15_kp {b : Nat} {w0 w : World} (hk : Kp w0 w) (hb : w0.heap.size ≤ b) (y0 y1 y2 y3 y4 y5 y6 y7 y8 y9 y10 y11 y12 y13 y14 : Value) : Kp w0 (((((((((((((((w.setCell ⟨b, 0, none⟩ y0).setCell ⟨b, 1, none⟩ y1).setCell ⟨b, 2, none⟩ y2).setCell ⟨b, 3, none⟩ y3).setCell ⟨b, 4, none⟩ y4).setCell ⟨b, 5, none⟩ y5).setCell ⟨b, 6, none⟩ y6).setCell ⟨b, 7, none⟩ y7).setCell ⟨b, 8, none⟩ y8).setCell ⟨b, 9, none⟩ y9).setCell ⟨b, 10, none⟩ y10).setCell ⟨b, 11, none⟩ y11).setCell ⟨b, 12, none⟩ y12).setCell ⟨b, 13, none⟩ y13).setCell ⟨b, 14, none⟩ y14) := by
 refine Below.setCell ?_ hb _
 refine Below.setCell ?_ hb _
 refine Below.setCell ?_ hb _
 refine Below.setCell ?_ hb _
 refine Below.setCell ?_ hb _
 refine Below.setCell ?_ hb _
 refine Below.setCell ?_ hb _
 refine Below.setCell ?_ hb _
 refine Below.setCell ?_ hb _
 refine Below.setCell ?_ hb _
 refine Below.setCell ?_ hb _
 refine Below.setCell ?_ hb _
 refine Below.setCell ?_ hb _
 refine Below.setCell ?_ hb _
 refine Below.setCell ?_ hb _
 exact hk
theorem set15_ne {b c : Nat} {w : World} (ne : c ≠ b) (y0 y1 y2 y3 y4 y5 y6 y7 y8 y9 y10 y11 y12 y13 y14 : Value) : (((((((((((((((w.setCell ⟨b, 0, none⟩ y0).setCell ⟨b, 1, none⟩ y1).setCell ⟨b, 2, none⟩ y2).setCell ⟨b, 3, none⟩ y3).setCell ⟨b, 4, none⟩ y4).setCell ⟨b, 5, none⟩ y5).setCell ⟨b, 6, none⟩ y6).setCell ⟨b, 7, none⟩ y7).setCell ⟨b, 8, none⟩ y8).setCell ⟨b, 9, none⟩ y9).setCell ⟨b, 10, none⟩ y10).setCell ⟨b, 11, none⟩ y11).setCell ⟨b, 12, none⟩ y12).setCell ⟨b, 13, none⟩ y13).setCell ⟨b, 14, none⟩ y14).heap[c]? = w.heap[c]? := by
 rw [bS _ _ _ _ ne, bS _ _ _ _ ne, bS _ _ _ _ ne, bS _ _ _ _ ne, bS _ _ _ _ ne, bS _ _ _ _ ne, bS _ _ _ _ ne, bS _ _ _ _ ne, bS _ _ _ _ ne, bS _ _ _ _ ne, bS _ _ _ _ ne, bS _ _ _ _ ne, bS _ _ _ _ ne, bS _ _ _ _ ne, bS _ _ _ _ ne]
theorem set8_ne {b c : Nat} {w : World} (ne : c ≠ b) (y0 y1 y2 y3 y4 y5 y6 y7 : Value) : ((((((((w.setCell ⟨b, 0, none⟩ y0).setCell ⟨b, 1, none⟩ y1).setCell ⟨b, 2, none⟩ y2).setCell ⟨b, 3, none⟩ y3).setCell ⟨b, 4, none⟩ y4).setCell ⟨b, 5, none⟩ y5).setCell ⟨b, 6, none⟩ y6).setCell ⟨b, 7, none⟩ y7).heap[c]? = w.heap[c]? := by
 rw [bS _ _ _ _ ne, bS _ _ _ _ ne, bS _ _ _ _ ne, bS _ _ _ _ ne, bS _ _ _ _ ne, bS _ _ _ _ ne, bS _ _ _ _ ne, bS _ _ _ _ ne]
theorem cells7L {b : Nat} {t : TypeId} {w : World} {x0 x1 x2 x3 x4 x5 x6 : Value} (h : w.heap[b]? = some (.cells #[x0, x1, x2, x3, x4, x5, x6] t (0, 0))) : w.cell? ⟨b, 0, none⟩ = some x0 ∧ w.cell? ⟨b, 1, none⟩ = some x1 ∧ w.cell? ⟨b, 2, none⟩ = some x2 ∧ w.cell? ⟨b, 3, none⟩ = some x3 ∧ w.cell? ⟨b, 4, none⟩ = some x4 ∧ w.cell? ⟨b, 5, none⟩ = some x5 ∧ w.cell? ⟨b, 6, none⟩ = some x6 := by
 refine ⟨?_, ?_, ?_, ?_, ?_, ?_, ?_⟩ <;> (unfold World.cell?; dsimp only; rw [h]; rfl)
theorem lWorks (xn xs xr y1 y2 y3 y4 : Int) (b : Bool) (hb : decide (y3 = 1 ∨ y3 = 4) = b) : Calls Tryz.prog 52 #[.agg #[xn, xs, xr, y1, y2, y3, y4]] w fun r w' => r = .returned (.bool b) ∧ Kp w w' := by
 obtain ⟨c0, c1, c2, c3, c4, c5, c6⟩ := cells7L (mH w (.cells #[xn, xs, xr, y1, y2, y3, y4] 119)); have KB := hD (kA w (.cells #[xn, xs, xr, y1, y2, y3, y4] 119))
 by_cases h1 : y3 = 1
 ·have hb : true = b := by rw [← hb]; simp [h1]
  subst hb; have g1 : (y3 == 1) = true := beq_iff_eq.2 h1; clear h1; go_enter Tryz.func52, Tryz.ntmps52; go_wp2; go_ret; exact ⟨rfl, KB.out⟩
 ·have hb : (y3 == 4) = b := by rw [← hb]; simp only [h1, false_or]; rfl
  subst hb; have g1 : (y3 == 1) = false := by simpa using h1
  clear h1; go_enter Tryz.func52, Tryz.ntmps52; go_wp2; go_ret; exact ⟨rfl, KB.out⟩
theorem lMessage (rn rp rq re rs rh : Int) (an aw ao ad : Int) (ax : Nat) (ap ac : Int) (av : Option Addr) (al ak : Nat) (ri : Int) (k : Int) : Calls Tryz.prog 68 #[.agg #[rn, rp, rq, re, rs, rh, an, aw, ao, ad, ax, ap, ac, .slice av al ak, ri], .int .i64 k] w fun r w' => r = .returned (.agg #[k, an, rn, an, aw, ri, rp, (0:Int), (0:Int)]) ∧ Kp w w' := by
 obtain ⟨a0, a1, a2, a3, a4, a5, a6, a7, a8, a9, a10, a11, a12, a13, a14⟩ := cells15 (p3_0 w (.cells #[rn, rp, rq, re, rs, rh, an, aw, ao, ad, ax, ap, ac, .slice av al ak, ri] 137) (.cells #[(0:Int), (0:Int), (0:Int), (0:Int), (0:Int), (0:Int), (0:Int), (0:Int), (0:Int)] 63) (.cells #[an, aw] 25)); obtain ⟨b0, b1, b2, b3, b4, b5, b6, b7, b8, b9, b10, b11, b12, b13, b14⟩ := cells15 (nX0 w (.cells #[rn, rp, rq, re, rs, rh, an, aw, ao, ad, ax, ap, ac, .slice av al ak, ri] 137) (.cells #[(0:Int), (0:Int), (0:Int), (0:Int), (0:Int), (0:Int), (0:Int), (0:Int), (0:Int)] 63)); have K3 := hD (pk3 w (.cells #[rn, rp, rq, re, rs, rh, an, aw, ao, ad, ax, ap, ac, .slice av al ak, ri] 137) (.cells #[k, an, rn, an, aw, ri, rp, (0:Int), (0:Int)] 63) (.cells #[an, aw] 25)); go_enter Tryz.func68, Tryz.ntmps68; go_wp2; refine bodyPost_ret (results_cell_row (p := 4) rfl _ _ (w.heap.size + 1) 63 _ (0, 0) _ rfl (p3_1 w _ _ _) Tryz.underlying63 rfl (by kernel_rfl)) rfl ?_
 exact ⟨rfl, K3.out⟩
theorem lSeats (rn rp rq re rs rh : Int) (an aw ao ad : Int) (ax : Nat) (ap ac : Int) (av : Option Addr) (al ak : Nat) (ri : Int) (t1 t2 t3 t4 : Int) : Calls Tryz.prog 117 #[.agg #[rn, rp, rq, re, rs, rh, an, aw, ao, ad, ax, ap, ac, .slice av al ak, ri], .agg #[t1, t2, t3, t4]] w fun r w' => r = .returned (.agg #[(3:Int), an, aw, ri, (0:Int), (0:Int), (0:Int), (0:Int), (0:Int), (0:Int), t3, t4, (0:Int), .float .f64 0]) ∧ Kp w w' := by
 obtain ⟨a0, a1, a2, a3, a4, a5, a6, a7, a8, a9, a10, a11, a12, a13, a14⟩ := cells15 (p3_0 w (.cells #[rn, rp, rq, re, rs, rh, an, aw, ao, ad, ax, ap, ac, .slice av al ak, ri] 137) (.cells #[t1, t2, t3, t4] 94) (.cells #[(0:Int), (0:Int), (0:Int), (0:Int), (0:Int), (0:Int), (0:Int), (0:Int), (0:Int), (0:Int), (0:Int), (0:Int), (0:Int), .float .f64 0] 87)); obtain ⟨b0, b1, b2, b3⟩ := cells_4 (p3_1 w (.cells #[rn, rp, rq, re, rs, rh, an, aw, ao, ad, ax, ap, ac, .slice av al ak, ri] 137) (.cells #[t1, t2, t3, t4] 94) (.cells #[(0:Int), (0:Int), (0:Int), (0:Int), (0:Int), (0:Int), (0:Int), (0:Int), (0:Int), (0:Int), (0:Int), (0:Int), (0:Int), .float .f64 0] 87)); have K2 := hD (pk3 w (.cells #[rn, rp, rq, re, rs, rh, an, aw, ao, ad, ax, ap, ac, .slice av al ak, ri] 137) (.cells #[t1, t2, t3, t4] 94) (.cells #[(3:Int), an, aw, ri, (0:Int), (0:Int), (0:Int), (0:Int), (0:Int), (0:Int), t3, t4, (0:Int), .float .f64 0] 87))
 have hsf := sF; go_enter Tryz.func117, Tryz.ntmps117; go_wp2; refine bodyPost_ret (results_cell_row (p := 4) rfl _ _ (w.heap.size + 1 + 1) 87 _ (0, 0) _ rfl (p3_2 w _ _ _) Tryz.underlying87 rfl (by kernel_rfl)) rfl ?_
 exact ⟨rfl, K2.out⟩
theorem lSpeaks (rn rp rq re rs rh : Int) (an aw ao ad : Int) (ax : Nat) (ap ac : Int) (av : Option Addr) (al ak : Nat) (ri : Int) (mk mf mt mn ms mr mp mo mc : Int) (b : Bool) (hb : decide (rn = mf ∧ rp = mp) = b) : Calls Tryz.prog 131 #[.agg #[rn, rp, rq, re, rs, rh, an, aw, ao, ad, ax, ap, ac, .slice av al ak, ri], .agg #[mk, mf, mt, mn, ms, mr, mp, mo, mc]] w fun r w' => r = .returned (.bool b) ∧ Kp w w' := by
 obtain ⟨a0, a1, a2, a3, a4, a5, a6, a7, a8, a9, a10, a11, a12, a13, a14⟩ := cells15 (nX0 w (.cells #[rn, rp, rq, re, rs, rh, an, aw, ao, ad, ax, ap, ac, .slice av al ak, ri] 137) (.cells #[mk, mf, mt, mn, ms, mr, mp, mo, mc] 63)); obtain ⟨b0, b1, b2, b3, b4, b5, b6, b7, b8⟩ := cells9 (nX1 w (.cells #[rn, rp, rq, re, rs, rh, an, aw, ao, ad, ax, ap, ac, .slice av al ak, ri] 137) (.cells #[mk, mf, mt, mn, ms, mr, mp, mo, mc] 63)); have K2 := hD (pk2 w (.cells #[rn, rp, rq, re, rs, rh, an, aw, ao, ad, ax, ap, ac, .slice av al ak, ri] 137) (.cells #[mk, mf, mt, mn, ms, mr, mp, mo, mc] 63))
 by_cases h1 : rn = mf
 ·have hb : (rp == mp) = b := by rw [← hb]; simp only [h1, true_and]; rfl
  have g1 : (rn == mf) = true := beq_iff_eq.2 h1; clear h1; go_enter Tryz.func131, Tryz.ntmps131; go_wp2; go_ret; exact ⟨rfl, K2.out⟩
 ·have hb : false = b := by rw [← hb]; simp [h1]
  subst hb; have g1 : (rn == mf) = false := by simpa using h1
  clear h1; go_enter Tryz.func131, Tryz.ntmps131; go_wp2; go_ret; exact ⟨rfl, K2.out⟩
structure EncG (α : Type) where
 enc : α → List Value
 k : Nat
 len : ∀ x, (enc x).length = k
 one : ∀ x, ∀ u ∈ enc x, u.oneCell' = true
section
variable {α : Type} (E : EncG α)
def EncG.row (f : List α) : List Value := f.flatMap E.enc
theorem row_len (f : List α) : (E.row f).length = f.length * E.k := by
 unfold EncG.row
 induction f with
 | nil => simp
 | cons g gs ih => rw [List.flatMap_cons, List.length_append, ih, E.len, List.length_cons, Nat.add_mul, Nat.one_mul, Nat.add_comm]
theorem row_app (f g : List α) : E.row (f ++ g) = E.row f ++ E.row g := by unfold EncG.row; rw [List.flatMap_append]
theorem row_at : ∀ (f : List α) (j : Nat) (hj : j < f.length) (i : Nat), i < E.k → (E.row f)[j * E.k + i]? = (E.enc f[j])[i]?
 | g :: gs, 0, _, i, hi => by
  show (E.row (g :: gs))[0 * E.k + i]? = (E.enc g)[i]?
  unfold EncG.row; rw [List.flatMap_cons, Nat.zero_mul, Nat.zero_add, List.getElem?_append_left (by rw [E.len]; exact hi)]
 | g :: gs, j + 1, hj, i, hi => by
  have hj' : j < gs.length := by simpa using hj
  have h := row_at gs j hj' i hi
  show (E.row (g :: gs))[(j + 1) * E.k + i]? = (E.enc gs[j])[i]?
  rw [← h]; unfold EncG.row; have e : (j + 1) * E.k + i = E.k + (j * E.k + i) := by rw [Nat.add_mul, Nat.one_mul]; omega
  rw [List.flatMap_cons, e, List.getElem?_append_right (by rw [E.len]; omega), E.len, Nat.add_sub_cancel_left]
theorem row_one (f : List α) : ∀ u ∈ E.row f, u.oneCell' = true := by
 intro u hu; obtain ⟨q, _, h⟩ := List.mem_flatMap.1 hu; exact E.one q u h
theorem row_drop (f : List α) (i : Nat) : E.row (f.drop i) = (E.row f).drop (i * E.k) := by
 by_cases h : i ≤ f.length
 ·have e : E.row f = E.row (f.take i) ++ E.row (f.drop i) := by rw [← row_app, List.take_append_drop]
  have hl : (E.row (f.take i)).length = i * E.k := by rw [row_len, List.length_take, Nat.min_eq_left h]
  have e2 := congrArg (List.drop (i * E.k)) e; rw [List.drop_append_of_le_length (by omega), List.drop_of_length_le (l := E.row (f.take i)) (by omega), List.nil_append] at e2; exact e2.symm
 ·rw [List.drop_of_length_le (by omega), List.drop_of_length_le (by rw [row_len]; exact Nat.mul_le_mul_right _ (by omega))]
  rfl
theorem row_take (f : List α) (i : Nat) : E.row (f.take i) = (E.row f).take (i * E.k) := by
 by_cases h : i ≤ f.length
 ·have e : E.row f = E.row (f.take i) ++ E.row (f.drop i) := by rw [← row_app, List.take_append_drop]
  have hl : (E.row (f.take i)).length = i * E.k := by rw [row_len, List.length_take, Nat.min_eq_left h]
  have e2 := congrArg (List.take (i * E.k)) e; rw [List.take_append_of_le_length (by omega), List.take_of_length_le (l := E.row (f.take i)) (by omega)] at e2; exact e2.symm
 ·rw [List.take_of_length_le (by omega), List.take_of_length_le (by rw [row_len]; exact Nat.mul_le_mul_right _ (by omega))]
def PartG (v : Value) (f : List α) (w : World) : Prop :=
 ∃ a cap, v = .slice a f.length cap ∧ (a = none → f.length = 0 ∧ cap = 0) ∧ ∀ ad, a = some ad → ∀ j u, (E.row f)[j]? = some u → w.cell? (ad.add j) = some u
variable {E}
theorem PartG.kp {v : Value} {f : List α} {w w' : World} (h : PartG E v f w) (hk : Kp w w') : PartG E v f w' := by
 obtain ⟨a, cap, h1, h2, h3⟩ := h; exact ⟨a, cap, h1, h2, fun ad e j u hj => kZ hk (h3 ad e j u hj)⟩
theorem own_lenG {w : World} {base n : Nat} {e : TypeId} {v : Value} {f : List α} (h0 : 0 < E.k) (h : w.ownsRow base e E.k v n (E.row f)) : f.length = n := by
 have := h.1; rw [row_len] at this; exact Nat.eq_of_mul_eq_mul_right h0 this
theorem qG {w : World} {base n : Nat} {e : TypeId} {v : Value} {f : List α} (h0 : 0 < E.k) (h : w.ownsRow base e E.k v n (E.row f)) : PartG E v f w := by
 have hn := own_lenG h0 h
 rcases h.2 with ⟨rfl, hz⟩ | ⟨g, cap, cur, rfl, hg, hh, hc, hm, hs, ht⟩
 ·exact ⟨none, 0, by rw [hn, hz], fun _ => ⟨by omega, rfl⟩, fun ad q => by cases q⟩
 ·refine ⟨some ⟨g, 0, none⟩, cap, by rw [hn], fun q => (by cases q), fun ad q j u hj => ?_⟩
  injection q with q
  subst q; exact h.cells rfl j u hj
theorem own_takeG {w : World} {base n g cap i : Nat} {e : TypeId} {f : List α} (h0 : 0 < E.k) (h : w.ownsRow base e E.k (.slice (some ⟨g, 0, none⟩) n cap) n (E.row f)) (hi : i ≤ n) : PartG E (.slice (some ⟨g, 0, none⟩) i cap) (f.take i) w := by
 have hn := own_lenG h0 h; refine ⟨some ⟨g, 0, none⟩, cap, by rw [List.length_take, Nat.min_eq_left (by omega)], fun q => (by cases q), fun ad q j u hj => ?_⟩
 injection q with q
 subst q; refine h.cells rfl j u ?_
 rw [row_take, List.getElem?_take] at hj
 split at hj
 ·exact hj
 ·cases hj
theorem own_dropG {w : World} {base n g cap i : Nat} {e : TypeId} {f : List α} (h0 : 0 < E.k) (h : w.ownsRow base e E.k (.slice (some ⟨g, 0, none⟩) n cap) n (E.row f)) (hi : i ≤ n) (ad : Addr) (had : i < n → ad = ⟨g, i * E.k, none⟩) (c : Nat) : PartG E (.slice (some ad) (n - i) c) (f.drop i) w := by
 have hn := own_lenG h0 h; refine ⟨some ad, c, by rw [List.length_drop, hn], fun q => (by cases q), fun a2 q j u hj => ?_⟩
 injection q with q
 subst q; have hlt : i < n := by
  rcases Nat.lt_or_ge i n with q | q
  ·exact q
  ·rw [List.drop_of_length_le (by omega)] at hj; simp [EncG.row] at hj
 rw [had hlt]; rw [row_drop, List.getElem?_drop] at hj; have := h.cells rfl (i * E.k + j) u hj; rw [Addr.add_lit] at this ⊢
 simpa using this
theorem bG {w : World} {base base' n k : Nat} {e : TypeId} {v : Value} {us : List Value} (h : w.ownsRow base e k v n us) (hb : base' ≤ base) : w.ownsRow base' e k v n us := by
 refine ⟨h.1, ?_⟩
 rcases h.2 with q | ⟨g', cap, cur, ee, hg, r⟩
 ·exact Or.inl q
 ·exact Or.inr ⟨g', cap, cur, ee, Nat.le_trans hb hg, r⟩
theorem sG {w w' : World} {base n k : Nat} {e : TypeId} {v : Value} {us : List Value} (h : w.ownsRow base e k v n us) (hb : ∀ b, v.ownBlock = some b → w'.heap[b]? = w.heap[b]?) : w'.ownsRow base e k v n us := by
 refine ⟨h.1, ?_⟩
 rcases h.2 with q | ⟨g', cap, cur, ee, hg, hh, r⟩
 ·exact Or.inl q
 ·exact Or.inr ⟨g', cap, cur, ee, hg, by rw [hb g' (by rw [ee]; rfl)]; exact hh, r⟩
theorem fG {w : World} {v : Value} {base n k : Nat} {e : TypeId} {us : List Value} (h : w.ownsRow base e k v n us) : ∃ a cp, v = .slice a n cp := by
 rcases h.2 with ⟨rfl, h0⟩ | ⟨g', cap, cur, rfl, _⟩
 ·exact ⟨none, 0, by rw [h0]⟩
 ·exact ⟨_, _, rfl⟩
theorem grown_anyG {w w' : World} {r : Option Nat} (h : w.grownBy w' none) : w.grownBy w' r := ⟨h.os, h.tape, h.output, h.size, fun k hk _ => h.block k hk (by simp)⟩
structure TyG (P : Program) (T e : TypeId) (k : Nat) (z : Value) (by' : Nat) : Prop where
 und : P.underlying T = some (.slice e)
 info : ∃ i0, P.info? e = some i0 ∧ i0.zero = some z ∧ i0.size = k ∧ i0.bytes = by'
 zc : z.cells.size = k
 le : by' ≤ 4096
theorem wpOp_of_listG {P : Program} {ops : Array Oper} {Q : Exit → Act → World → Prop} {K : Act → World → Prop} {i : Nat} {o : Oper} {a : Act} {w : World} (h0 : ops[i]? = some o) (h : wpList P ops (Exit.then K Q) [o] a w) : wpOp P ops Q i K a w := by
 unfold wpOp; simp only [h0]
 exact h
theorem AllReadyH.consLG {P : Program} {md : Region.Mode} {ops : Array Oper} {Q : Exit → Act → World → Prop} {S : World → Prop} {fuel : Nat} {listed : Array Bool} {a : Act} {w : World} {i : Nat} {o : Oper} {rs : List Nat} (ho : ops[i]? = some o)
  (h : ∀ K' : Act → World → Prop, Shut (∀ a w, S w → (S w → wpAnyH P md ops Q S fuel (listed.setIfInBounds i true) a w) → K' a w) → wpList P ops (Exit.then K' Q) [o] a w)
  (hs : AllReadyH P md ops Q S fuel listed a w rs) : AllReadyH P md ops Q S fuel listed a w (i :: rs) := fun j hj => by
 rcases List.mem_cons.1 hj with rfl | hj
 ·exact wpOp_of_listG ho (h _ (fun a w h1 h2 => ⟨h1, h2 h1⟩))
 ·exact hs j hj
theorem bytes_le {n by' : Nat} (h1 : n ≤ 1000000) (h2 : by' ≤ 4096) : n * by' ≤ 140737488355328 :=
 Nat.le_trans (Nat.mul_le_mul h1 h2) (by decide)
theorem aG {P : Program} {T e : TypeId} {z : Value} {by' : Nat} (ty : TyG P T e E.k z by') (h0 : 0 < E.k) (w : World) {ops : Array Oper} {rest : List Oper} {o : Oper} {a : Act} {Q : Exit → Act → World → Prop} (hgd : o.guard = none) (s x : Operand)
  (ho : o.op = .call { callee := .builtin .append, args := #[s, x], argTypes := #[T, T] })
  (base : Nat) (v : Value) (n : Nat) (xs : List α) (hs : a.eval s = v) (hown : w.ownsRow base e E.k v n (E.row xs))
  (u : Value) (f : List α) (hx : a.eval x = u) (hb : PartG E u f w) (h63 : n + f.length ≤ 1000000) (hbase : base ≤ w.heap.size)
  (h : ∀ v' w', w'.ownsRow base e E.k v' (n + f.length) (E.row (xs ++ f)) → w.grownBy w' v.ownBlock → (∀ b, v'.ownBlock = some b → v.ownBlock = some b ∨ w.heap.size ≤ b) → wpList P ops Q rest (a.put o.dst v') w') : wpList P ops Q (o :: rest) a w := by
 obtain ⟨i0, hi, hz0, hz1, hz2⟩ := ty.info; rw [row_app] at h; obtain ⟨ao, cap, rfl, hno, hc⟩ := hb; have hmax : n + f.length ≤ maxLen := by unfold maxLen; omega
 have hby := bytes_le h63 ty.le
 cases ao with
 | none =>
  obtain ⟨h1, rfl⟩ := hno rfl; have hf : f = [] := List.length_eq_zero_iff.1 h1; subst hf; exact wpList_append_own_none hgd s x T ho base e i0 E.k ty.und hi v n (E.row xs) hs hown hx (h v w (by simpa [EncG.row] using hown) ⟨rfl, rfl, rfl, Nat.le_refl _, fun _ _ _ => rfl⟩ (fun b q => .inl q))
 | some ad =>
  rcases hown.2 with ⟨rfl, rfl⟩ | ⟨g, cap2, cur, rfl, hg, hh, hnc, hcm, hcs, htk⟩
  ·have hxs : E.row xs = [] := List.length_eq_zero_iff.1 (by simpa using hown.1); rw [hxs] at h hown; refine wpList_append_own w hgd s x T ho w.heap.size e i0 z E.k by' ty.und hi hz0 hz1 hz2 ty.zc h0 (.slice none 0 0) 0 [] hs (World.ownsRow_nil w _ _ _) ad f.length cap (E.row f) hx (row_len E f) (hc ad rfl) (row_one E f) hmax hby (Nat.le_refl _) ?_
   intro v' w' h1 h2 _; exact h v' w' (bG h1 hbase) h2 (fun b q => .inr (h1.lt b q).1)
  ·by_cases hfit : n + f.length ≤ cap2
   ·refine wpList_append_fits w hgd s x T ho base e i0 E.k ty.und hi hz1 g n cap2 (E.row xs) hs hown ad f.length cap (E.row f) hx (row_len E f) (hc ad rfl) (row_one E f) hfit ?_
    intro w' h1 h2; exact h _ w' h1 h2 (fun b q => .inl q)
   ·have holds : ∀ b, (some ⟨g, 0, none⟩ : Option Addr) = some b → ∀ j u, (E.row xs)[j]? = some u → w.cell? (b.add j) = some u := by
     intro b e j u hj; injection e with e
     subst e; exact hown.cells rfl j u hj
    refine wpList_append_grows w hgd s x T ho e i0 z E.k by' ty.und hi hz0 hz1 hz2 ty.zc h0 (some ⟨g, 0, none⟩) n cap2 (E.row xs) hs (fun e => by cases e) hown.1 holds ad f.length cap (E.row f) hx (row_len E f) (hc ad rfl) (row_one E f) (by omega) hmax hby ?_
    intro v' w' h1 h2; exact h v' w' (bG h1 hbase) (grown_anyG h2) (fun b q => .inr (h1.lt b q).1)
theorem sl_headG {P : Program} {T e : TypeId} {k b n cp i : Nat} {ii : Int} (hu : P.underlying T = some (.slice e)) (hz : ∃ i0, P.info? e = some i0 ∧ i0.size = k) (hii : (i : Int) = ii) (hi : i ≤ n) (hnc : n ≤ cp) (w : World) :
  (Instr.slice T (.slice (some ⟨b, 0, none⟩) n cp) none (some (.int .i64 ii)) none).run P w = .ok (.slice (some ⟨b, 0, none⟩) i cp) w := by
 have he : P.elem T = e := by simp [Program.elem, hu]
 have hs : (Go.sizeOf e).run P w = .ok k w := by
  obtain ⟨i0, h1, h2⟩ := hz
  simp [sizeOf, typeInfo, h1, h2]
 rw [run_slice_h w T _ _ _ (by rw [hu, he]) .i64 _ (by omega) (by omega), he, hs]; have e : ii.toNat = i := by omega
 simp [Result.andThen, sliced, Addr.add, e]
theorem sl_tailG {P : Program} {T e : TypeId} {k b n cp i : Nat} {ii : Int} (hu : P.underlying T = some (.slice e)) (hz : ∃ i0, P.info? e = some i0 ∧ i0.size = k) (hii : (i : Int) = ii) (hi : i ≤ n) (w : World) :
  (Instr.slice T (.slice (some ⟨b, 0, none⟩) n cp) (some (.int .i64 ii)) none none).run P w = .ok (.slice (some ⟨b, if cp = i then 0 else i * k, none⟩) (n - i) (cp - i)) w := by
 have he : P.elem T = e := by simp [Program.elem, hu]
 have hs : (Go.sizeOf e).run P w = .ok k w := by
  obtain ⟨i0, h1, h2⟩ := hz
  simp [sizeOf, typeInfo, h1, h2]
 rw [run_slice_l w T _ _ _ (by rw [hu, he]) .i64 _ (by omega) (by omega), he, hs]; have e : ii.toNat = i := by omega
 simp [Result.andThen, sliced, Addr.add, e]
 split <;> simp <;> omega
end
open Go.RowKit Go.ChangeShapes Go.WideShapes
def fcE : EncG FX where
 enc f := f.cells.toList
 k := 14
 len := fun _ => rfl
 one := by
  intro x u hu; simp only [FX.cells, List.mem_cons, List.not_mem_nil, or_false] at hu
  rcases hu with rfl | rfl | rfl | rfl | rfl | rfl | rfl | rfl | rfl | rfl | rfl | rfl | rfl | rfl <;> rfl
theorem info_fcL0 : (Tryz.prog.info? 87).map (fun i => (i.zero, i.size, i.bytes)) = some (some (.agg #[(0:Int), (0:Int), (0:Int), (0:Int), (0:Int), (0:Int), (0:Int), (0:Int), (0:Int), (0:Int), (0:Int), (0:Int), (0:Int), .float .f64 0]), 14, 112) := by kernel_rfl
theorem info_fcL : ∃ i0, Tryz.prog.info? 87 = some i0 ∧ i0.zero = some (.agg #[(0:Int), (0:Int), (0:Int), (0:Int), (0:Int), (0:Int), (0:Int), (0:Int), (0:Int), (0:Int), (0:Int), (0:Int), (0:Int), .float .f64 0]) ∧ i0.size = 14 ∧ i0.bytes = 112 := by
 have h := info_fcL0
 cases g : Tryz.prog.info? 87 with
 | none => rw [g] at h; cases h
 | some i0 =>
  rw [g] at h; simp only [Option.map_some, Option.some.injEq, Prod.mk.injEq] at h
  exact ⟨i0, rfl, h.1, h.2.1, h.2.2⟩
theorem ty_fcL : TyG Tryz.prog 22 87 14 (.agg #[(0:Int), (0:Int), (0:Int), (0:Int), (0:Int), (0:Int), (0:Int), (0:Int), (0:Int), (0:Int), (0:Int), (0:Int), (0:Int), .float .f64 0]) 112 := ⟨Tryz.underlying22, info_fcL, rfl, by decide⟩
theorem own_oneF {w : World} {t : TypeId} {B : Nat} (f : FX) (hb : B ≤ w.heap.size) : (w.alloc (.cells f.cells t)).ownsRow B t 14 (.slice (some ⟨w.heap.size, 0, none⟩) 1 1) 1 (fcE.row [f]) := by
 have := World.ownsRow_lit (base := B) (e := t) (size := 14) w f.cells 1 hb (by decide) rfl; rw [show fcE.row [f] = f.cells.toList by unfold EncG.row; simp [fcE]]; exact this
end Go.Proofs.YtlmlmhmhgdjhnaaGreatDoor
