/- Parts of this proof (own work). -/
import Derived.Test.YtncoofnhifcnhaaGreatDoorZa36
import Derived.Test.YtncoofnhifcnhaaGreatDoorZa35
set_option maxRecDepth 100000
set_option maxHeartbeats 40000000
namespace Go.Proofs.YtncoofnhifcnhaaGreatDoor
open Go.RowKit Go.ChangeShapes Go.WideShapes
theorem refTell_bad (p e s h k : Int) (hr : SeatM.right ⟨p, e, s, h⟩ = false) (w : World) : Calls Tryz.prog 41 #[.agg #[p, e, s, h], .int .i64 k] w fun r w' => r = .returned (.tuple #[.agg #[(0:Int), (0:Int), (0:Int), (0:Int), (0:Int), (0:Int), (0:Int), .bool false], .int .i64 4]) ∧ Kp w w' := by
 have HRt := fun w => hr ▸ refSeatRt_any ⟨p, e, s, h⟩ w
 dsimp only [seatV] at HRt
 replace HRt := hD HRt
 have k0 := kT (kA w (.cells #[p, e, s, h] 93)) (kA (w.alloc (.cells #[p, e, s, h] 93)) (.cells #[(0:Int), (0:Int), (0:Int), (0:Int), (0:Int), (0:Int), (0:Int), .bool false] 98)); have hr0 : ((w.alloc (.cells #[p, e, s, h] 93)).alloc (.cells #[(0:Int), (0:Int), (0:Int), (0:Int), (0:Int), (0:Int), (0:Int), .bool false] 98)).heap[w.heap.size]? = some (.cells #[p, e, s, h] 93) := rZ (kA _ _) (mH w (.cells #[p, e, s, h] 93)); have hz0 : ((w.alloc (.cells #[p, e, s, h] 93)).alloc (.cells #[(0:Int), (0:Int), (0:Int), (0:Int), (0:Int), (0:Int), (0:Int), .bool false] 98)).heap[w.heap.size + 1]? = some (.cells #[(0:Int), (0:Int), (0:Int), (0:Int), (0:Int), (0:Int), (0:Int), .bool false] 98) := by have := (mH (w.alloc (.cells #[p, e, s, h] 93)) (.cells #[(0:Int), (0:Int), (0:Int), (0:Int), (0:Int), (0:Int), (0:Int), .bool false] 98)); simpa using this
 obtain ⟨K1, R1, Z1⟩ := hD3 k0 hr0 hz0; obtain ⟨g0, g1, g2, g3⟩ := cells_4 R1.out; clear k0 hr0 hz0; clear hr; go_enter Tryz.func41, Tryz.ntmps41; go_wp2_with (go_at_call 84; (with_reducible refine (HRt.out _).mono ?_); rintro e' w2 ⟨rfl, hk⟩; have K2 := hD (kT K1.out hk); have R2 := hD (rZ hk R1.out); have Z2 := hD (rZ hk Z1.out); obtain ⟨j0, j1, j2, j3⟩ := cells_4 R2.out; obtain ⟨z0, z1, z2, z3, z4, z5, z6, z7⟩ := c8X Z2.out; have fz := frozN Z2.out; clear hk)
 refine bodyPost_ret (results_row_tmpT (p := 4) (u := 5) rfl _ _ (w.heap.size + 1) 98 _ (0, 0) _ rfl (set_8 _ _ _ _ _ _ _ _ Z2.out) Tryz.underlying98 rfl (by kernel_rfl)) rfl ?_; exact ⟨rfl, set_8_kp K2.out (Nat.le_succ _) _ _ _ _ _ _ _ _⟩
theorem refAct_bad (p e s h k : Int) (hr : SeatM.right ⟨p, e, s, h⟩ = false) (w : World) : Calls Tryz.prog 46 #[.agg #[p, e, s, h], .int .i64 k] w fun r w' => r = .returned (.tuple #[.agg #[(0:Int), (0:Int), (0:Int), (0:Int), (0:Int), (0:Int), (0:Int), .bool false], .int .i64 4]) ∧ Kp w w' := by
 have HRt := fun w => hr ▸ refSeatRt_any ⟨p, e, s, h⟩ w
 dsimp only [seatV] at HRt
 replace HRt := hD HRt
 have k0 := kT (kA w (.cells #[p, e, s, h] 93)) (kA (w.alloc (.cells #[p, e, s, h] 93)) (.cells #[(0:Int), (0:Int), (0:Int), (0:Int), (0:Int), (0:Int), (0:Int), .bool false] 98)); have hr0 : ((w.alloc (.cells #[p, e, s, h] 93)).alloc (.cells #[(0:Int), (0:Int), (0:Int), (0:Int), (0:Int), (0:Int), (0:Int), .bool false] 98)).heap[w.heap.size]? = some (.cells #[p, e, s, h] 93) := rZ (kA _ _) (mH w (.cells #[p, e, s, h] 93)); have hz0 : ((w.alloc (.cells #[p, e, s, h] 93)).alloc (.cells #[(0:Int), (0:Int), (0:Int), (0:Int), (0:Int), (0:Int), (0:Int), .bool false] 98)).heap[w.heap.size + 1]? = some (.cells #[(0:Int), (0:Int), (0:Int), (0:Int), (0:Int), (0:Int), (0:Int), .bool false] 98) := by have := (mH (w.alloc (.cells #[p, e, s, h] 93)) (.cells #[(0:Int), (0:Int), (0:Int), (0:Int), (0:Int), (0:Int), (0:Int), .bool false] 98)); simpa using this
 obtain ⟨K1, R1, Z1⟩ := hD3 k0 hr0 hz0; obtain ⟨g0, g1, g2, g3⟩ := cells_4 R1.out; clear k0 hr0 hz0; clear hr; go_enter Tryz.func46, Tryz.ntmps46; go_wp2_with (go_at_call 84; (with_reducible refine (HRt.out _).mono ?_); rintro e' w2 ⟨rfl, hk⟩; have K2 := hD (kT K1.out hk); have R2 := hD (rZ hk R1.out); have Z2 := hD (rZ hk Z1.out); obtain ⟨j0, j1, j2, j3⟩ := cells_4 R2.out; obtain ⟨z0, z1, z2, z3, z4, z5, z6, z7⟩ := c8X Z2.out; have fz := frozN Z2.out; clear hk)
 refine bodyPost_ret (results_row_tmpT (p := 4) (u := 5) rfl _ _ (w.heap.size + 1) 98 _ (0, 0) _ rfl (set_8 _ _ _ _ _ _ _ _ Z2.out) Tryz.underlying98 rfl (by kernel_rfl)) rfl ?_; exact ⟨rfl, set_8_kp K2.out (Nat.le_succ _) _ _ _ _ _ _ _ _⟩
theorem refAct_step (p e s h k : Int) (hr : SeatM.right ⟨p, e, s, h⟩ = true) (n m : Int) (hm : stepT p e k s = (n, m)) (hn : (n == 0) = false) (w : World) : Calls Tryz.prog 46 #[.agg #[p, e, s, h], .int .i64 k] w fun r w' => r = .returned (.tuple #[.agg #[(0:Int), (0:Int), (0:Int), (0:Int), (0:Int), (0:Int), (0:Int), .bool false], .int .i64 n]) ∧ Kp w w' := by
 have HRt := fun w => hr ▸ refSeatRt_any ⟨p, e, s, h⟩ w
 dsimp only [seatV] at HRt
 replace HRt := hD HRt
 have HL := fun w => refStep_any p e k s w
 rw [hm] at HL; dsimp only at HL
 replace HL := hD HL
 have k0 := kT (kA w (.cells #[p, e, s, h] 93)) (kA (w.alloc (.cells #[p, e, s, h] 93)) (.cells #[(0:Int), (0:Int), (0:Int), (0:Int), (0:Int), (0:Int), (0:Int), .bool false] 98)); have hr0 : ((w.alloc (.cells #[p, e, s, h] 93)).alloc (.cells #[(0:Int), (0:Int), (0:Int), (0:Int), (0:Int), (0:Int), (0:Int), .bool false] 98)).heap[w.heap.size]? = some (.cells #[p, e, s, h] 93) := rZ (kA _ _) (mH w (.cells #[p, e, s, h] 93)); have hz0 : ((w.alloc (.cells #[p, e, s, h] 93)).alloc (.cells #[(0:Int), (0:Int), (0:Int), (0:Int), (0:Int), (0:Int), (0:Int), .bool false] 98)).heap[w.heap.size + 1]? = some (.cells #[(0:Int), (0:Int), (0:Int), (0:Int), (0:Int), (0:Int), (0:Int), .bool false] 98) := by have := (mH (w.alloc (.cells #[p, e, s, h] 93)) (.cells #[(0:Int), (0:Int), (0:Int), (0:Int), (0:Int), (0:Int), (0:Int), .bool false] 98)); simpa using this
 obtain ⟨K1, R1, Z1⟩ := hD3 k0 hr0 hz0; obtain ⟨g0, g1, g2, g3⟩ := cells_4 R1.out; clear k0 hr0 hz0; clear hr hm; go_enter Tryz.func46, Tryz.ntmps46; go_wp2_with (first | (go_at_call 84; (with_reducible refine (HRt.out _).mono ?_); rintro e' w2 ⟨rfl, hk⟩; have K2 := hD (kT K1.out hk); have R2 := hD (rZ hk R1.out); have Z2 := hD (rZ hk Z1.out); obtain ⟨j0, j1, j2, j3⟩ := cells_4 R2.out; obtain ⟨z0, z1, z2, z3, z4, z5, z6, z7⟩ := c8X Z2.out; have fz := frozN Z2.out; clear hk) | (go_at_call 90; (with_reducible refine (HL.out _).mono ?_); rintro e' w3 ⟨rfl, rfl⟩))
 refine bodyPost_ret (results_row_tmpT (p := 4) (u := 5) rfl _ _ (w.heap.size + 1) 98 _ (0, 0) _ rfl (set_8 _ _ _ _ _ _ _ _ Z2.out) Tryz.underlying98 rfl (by kernel_rfl)) rfl ?_; exact ⟨rfl, set_8_kp K2.out (Nat.le_succ _) _ _ _ _ _ _ _ _⟩
theorem refAct_12 (p e s h k : Int) (hr : SeatM.right ⟨p, e, s, h⟩ = true) (n m : Int) (hm : stepT p e k s = (n, m)) (y : EffM) (hy : SeatM.moved ⟨p, e, s, h⟩ m 4 12 = y) (h0 : n = 0) (hk : k = 12) (w : World) : Calls Tryz.prog 46 #[.agg #[p, e, s, h], .int .i64 k] w fun r w' => r = .returned (.tuple #[.agg (effV y), (0:Int)]) ∧ Kp w w' := by
 have HRt := fun w => hr ▸ refSeatRt_any ⟨p, e, s, h⟩ w
 dsimp only [seatV] at HRt
 replace HRt := hD HRt
 have HL := fun w => refStep_any p e k s w
 rw [hm] at HL; dsimp only at HL
 replace HL := hD HL
 have HM := fun w => refMoved_any ⟨p, e, s, h⟩ m 4 12 y hy w
 dsimp only [seatV, effV] at HM ⊢
 replace HM := hD HM
 have k0 := kT (kA w (.cells #[p, e, s, h] 93)) (kA (w.alloc (.cells #[p, e, s, h] 93)) (.cells #[(0:Int), (0:Int), (0:Int), (0:Int), (0:Int), (0:Int), (0:Int), .bool false] 98)); have hr0 : ((w.alloc (.cells #[p, e, s, h] 93)).alloc (.cells #[(0:Int), (0:Int), (0:Int), (0:Int), (0:Int), (0:Int), (0:Int), .bool false] 98)).heap[w.heap.size]? = some (.cells #[p, e, s, h] 93) := rZ (kA _ _) (mH w (.cells #[p, e, s, h] 93)); have hz0 : ((w.alloc (.cells #[p, e, s, h] 93)).alloc (.cells #[(0:Int), (0:Int), (0:Int), (0:Int), (0:Int), (0:Int), (0:Int), .bool false] 98)).heap[w.heap.size + 1]? = some (.cells #[(0:Int), (0:Int), (0:Int), (0:Int), (0:Int), (0:Int), (0:Int), .bool false] 98) := by have := (mH (w.alloc (.cells #[p, e, s, h] 93)) (.cells #[(0:Int), (0:Int), (0:Int), (0:Int), (0:Int), (0:Int), (0:Int), .bool false] 98)); simpa using this
 obtain ⟨K1, R1, Z1⟩ := hD3 k0 hr0 hz0; obtain ⟨g0, g1, g2, g3⟩ := cells_4 R1.out; clear k0 hr0 hz0; clear hr hm hy; subst h0 hk; go_enter Tryz.func46, Tryz.ntmps46; go_wp2_with (first | (go_at_call 84; (with_reducible refine (HRt.out _).mono ?_); rintro e' w2 ⟨rfl, hk⟩; have K2 := hD (kT K1.out hk); have R2 := hD (rZ hk R1.out); have Z2 := hD (rZ hk Z1.out); obtain ⟨j0, j1, j2, j3⟩ := cells_4 R2.out; obtain ⟨z0, z1, z2, z3, z4, z5, z6, z7⟩ := c8X Z2.out; have fz := frozN Z2.out; clear hk) | (go_at_call 90; (with_reducible refine (HL.out _).mono ?_); rintro e' w3 ⟨rfl, rfl⟩) | (go_at_call 86; (with_reducible refine (HM.out _).mono ?_); rintro e' w4 ⟨rfl, hk⟩; have K4 := hD (kT K2.out hk); have Z4 := hD (rZ hk Z2.out); obtain ⟨x0, x1, x2, x3, x4, x5, x6, x7⟩ := c8X Z4.out; have fx := frozN Z4.out; clear hk))
 refine bodyPost_ret (results_row_tmpT (p := 4) (u := 5) rfl _ _ (w.heap.size + 1) 98 _ (0, 0) _ rfl (set_8 _ _ _ _ _ _ _ _ Z4.out) Tryz.underlying98 rfl (by kernel_rfl)) rfl ?_; exact ⟨rfl, set_8_kp K4.out (Nat.le_succ _) _ _ _ _ _ _ _ _⟩
theorem refAct_13 (p e s h k : Int) (hr : SeatM.right ⟨p, e, s, h⟩ = true) (n m : Int) (hm : stepT p e k s = (n, m)) (y : EffM) (hy : SeatM.moved ⟨p, e, s, h⟩ m 1 13 = y) (h0 : n = 0) (hk : k = 13) (w : World) : Calls Tryz.prog 46 #[.agg #[p, e, s, h], .int .i64 k] w fun r w' => r = .returned (.tuple #[.agg (effV y), (0:Int)]) ∧ Kp w w' := by
 have HRt := fun w => hr ▸ refSeatRt_any ⟨p, e, s, h⟩ w
 dsimp only [seatV] at HRt
 replace HRt := hD HRt
 have HL := fun w => refStep_any p e k s w
 rw [hm] at HL; dsimp only at HL
 replace HL := hD HL
 have HM := fun w => refMoved_any ⟨p, e, s, h⟩ m 1 13 y hy w
 dsimp only [seatV, effV] at HM ⊢
 replace HM := hD HM
 have k0 := kT (kA w (.cells #[p, e, s, h] 93)) (kA (w.alloc (.cells #[p, e, s, h] 93)) (.cells #[(0:Int), (0:Int), (0:Int), (0:Int), (0:Int), (0:Int), (0:Int), .bool false] 98)); have hr0 : ((w.alloc (.cells #[p, e, s, h] 93)).alloc (.cells #[(0:Int), (0:Int), (0:Int), (0:Int), (0:Int), (0:Int), (0:Int), .bool false] 98)).heap[w.heap.size]? = some (.cells #[p, e, s, h] 93) := rZ (kA _ _) (mH w (.cells #[p, e, s, h] 93)); have hz0 : ((w.alloc (.cells #[p, e, s, h] 93)).alloc (.cells #[(0:Int), (0:Int), (0:Int), (0:Int), (0:Int), (0:Int), (0:Int), .bool false] 98)).heap[w.heap.size + 1]? = some (.cells #[(0:Int), (0:Int), (0:Int), (0:Int), (0:Int), (0:Int), (0:Int), .bool false] 98) := by have := (mH (w.alloc (.cells #[p, e, s, h] 93)) (.cells #[(0:Int), (0:Int), (0:Int), (0:Int), (0:Int), (0:Int), (0:Int), .bool false] 98)); simpa using this
 obtain ⟨K1, R1, Z1⟩ := hD3 k0 hr0 hz0; obtain ⟨g0, g1, g2, g3⟩ := cells_4 R1.out; clear k0 hr0 hz0; clear hr hm hy; subst h0 hk; go_enter Tryz.func46, Tryz.ntmps46; go_wp2_with (first | (go_at_call 84; (with_reducible refine (HRt.out _).mono ?_); rintro e' w2 ⟨rfl, hk⟩; have K2 := hD (kT K1.out hk); have R2 := hD (rZ hk R1.out); have Z2 := hD (rZ hk Z1.out); obtain ⟨j0, j1, j2, j3⟩ := cells_4 R2.out; obtain ⟨z0, z1, z2, z3, z4, z5, z6, z7⟩ := c8X Z2.out; have fz := frozN Z2.out; clear hk) | (go_at_call 90; (with_reducible refine (HL.out _).mono ?_); rintro e' w3 ⟨rfl, rfl⟩) | (go_at_call 86; (with_reducible refine (HM.out _).mono ?_); rintro e' w4 ⟨rfl, hk⟩; have K4 := hD (kT K2.out hk); have Z4 := hD (rZ hk Z2.out); obtain ⟨x0, x1, x2, x3, x4, x5, x6, x7⟩ := c8X Z4.out; have fx := frozN Z4.out; clear hk))
 refine bodyPost_ret (results_row_tmpT (p := 4) (u := 5) rfl _ _ (w.heap.size + 1) 98 _ (0, 0) _ rfl (set_8 _ _ _ _ _ _ _ _ Z4.out) Tryz.underlying98 rfl (by kernel_rfl)) rfl ?_; exact ⟨rfl, set_8_kp K4.out (Nat.le_succ _) _ _ _ _ _ _ _ _⟩
theorem refAct_14 (p e s h k : Int) (hr : SeatM.right ⟨p, e, s, h⟩ = true) (n m : Int) (hm : stepT p e k s = (n, m)) (y : EffM) (hy : SeatM.moved ⟨p, e, s, h⟩ m 5 14 = y) (h0 : n = 0) (hk : k = 14) (w : World) : Calls Tryz.prog 46 #[.agg #[p, e, s, h], .int .i64 k] w fun r w' => r = .returned (.tuple #[.agg (effV y), (0:Int)]) ∧ Kp w w' := by
 have HRt := fun w => hr ▸ refSeatRt_any ⟨p, e, s, h⟩ w
 dsimp only [seatV] at HRt
 replace HRt := hD HRt
 have HL := fun w => refStep_any p e k s w
 rw [hm] at HL; dsimp only at HL
 replace HL := hD HL
 have HM := fun w => refMoved_any ⟨p, e, s, h⟩ m 5 14 y hy w
 dsimp only [seatV, effV] at HM ⊢
 replace HM := hD HM
 have k0 := kT (kA w (.cells #[p, e, s, h] 93)) (kA (w.alloc (.cells #[p, e, s, h] 93)) (.cells #[(0:Int), (0:Int), (0:Int), (0:Int), (0:Int), (0:Int), (0:Int), .bool false] 98)); have hr0 : ((w.alloc (.cells #[p, e, s, h] 93)).alloc (.cells #[(0:Int), (0:Int), (0:Int), (0:Int), (0:Int), (0:Int), (0:Int), .bool false] 98)).heap[w.heap.size]? = some (.cells #[p, e, s, h] 93) := rZ (kA _ _) (mH w (.cells #[p, e, s, h] 93)); have hz0 : ((w.alloc (.cells #[p, e, s, h] 93)).alloc (.cells #[(0:Int), (0:Int), (0:Int), (0:Int), (0:Int), (0:Int), (0:Int), .bool false] 98)).heap[w.heap.size + 1]? = some (.cells #[(0:Int), (0:Int), (0:Int), (0:Int), (0:Int), (0:Int), (0:Int), .bool false] 98) := by have := (mH (w.alloc (.cells #[p, e, s, h] 93)) (.cells #[(0:Int), (0:Int), (0:Int), (0:Int), (0:Int), (0:Int), (0:Int), .bool false] 98)); simpa using this
 obtain ⟨K1, R1, Z1⟩ := hD3 k0 hr0 hz0; obtain ⟨g0, g1, g2, g3⟩ := cells_4 R1.out; clear k0 hr0 hz0; clear hr hm hy; subst h0 hk; go_enter Tryz.func46, Tryz.ntmps46; go_wp2_with (first | (go_at_call 84; (with_reducible refine (HRt.out _).mono ?_); rintro e' w2 ⟨rfl, hk⟩; have K2 := hD (kT K1.out hk); have R2 := hD (rZ hk R1.out); have Z2 := hD (rZ hk Z1.out); obtain ⟨j0, j1, j2, j3⟩ := cells_4 R2.out; obtain ⟨z0, z1, z2, z3, z4, z5, z6, z7⟩ := c8X Z2.out; have fz := frozN Z2.out; clear hk) | (go_at_call 90; (with_reducible refine (HL.out _).mono ?_); rintro e' w3 ⟨rfl, rfl⟩) | (go_at_call 86; (with_reducible refine (HM.out _).mono ?_); rintro e' w4 ⟨rfl, hk⟩; have K4 := hD (kT K2.out hk); have Z4 := hD (rZ hk Z2.out); obtain ⟨x0, x1, x2, x3, x4, x5, x6, x7⟩ := c8X Z4.out; have fx := frozN Z4.out; clear hk))
 refine bodyPost_ret (results_row_tmpT (p := 4) (u := 5) rfl _ _ (w.heap.size + 1) 98 _ (0, 0) _ rfl (set_8 _ _ _ _ _ _ _ _ Z4.out) Tryz.underlying98 rfl (by kernel_rfl)) rfl ?_; exact ⟨rfl, set_8_kp K4.out (Nat.le_succ _) _ _ _ _ _ _ _ _⟩
theorem refAct_k (p e s h k : Int) (hr : SeatM.right ⟨p, e, s, h⟩ = true) (n m : Int) (hm : stepT p e k s = (n, m)) (y : EffM) (hy : SeatM.moved ⟨p, e, s, h⟩ m k k = y) (h0 : n = 0) (k1 : (k == 12) = false) (k2 : (k == 13) = false) (k3 : (k == 14) = false) (w : World) : Calls Tryz.prog 46 #[.agg #[p, e, s, h], .int .i64 k] w fun r w' => r = .returned (.tuple #[.agg (effV y), (0:Int)]) ∧ Kp w w' := by
 have HRt := fun w => hr ▸ refSeatRt_any ⟨p, e, s, h⟩ w
 dsimp only [seatV] at HRt
 replace HRt := hD HRt
 have HL := fun w => refStep_any p e k s w
 rw [hm] at HL; dsimp only at HL
 replace HL := hD HL
 have HM := fun w => refMoved_any ⟨p, e, s, h⟩ m k k y hy w
 dsimp only [seatV, effV] at HM ⊢
 replace HM := hD HM
 have k0 := kT (kA w (.cells #[p, e, s, h] 93)) (kA (w.alloc (.cells #[p, e, s, h] 93)) (.cells #[(0:Int), (0:Int), (0:Int), (0:Int), (0:Int), (0:Int), (0:Int), .bool false] 98)); have hr0 : ((w.alloc (.cells #[p, e, s, h] 93)).alloc (.cells #[(0:Int), (0:Int), (0:Int), (0:Int), (0:Int), (0:Int), (0:Int), .bool false] 98)).heap[w.heap.size]? = some (.cells #[p, e, s, h] 93) := rZ (kA _ _) (mH w (.cells #[p, e, s, h] 93)); have hz0 : ((w.alloc (.cells #[p, e, s, h] 93)).alloc (.cells #[(0:Int), (0:Int), (0:Int), (0:Int), (0:Int), (0:Int), (0:Int), .bool false] 98)).heap[w.heap.size + 1]? = some (.cells #[(0:Int), (0:Int), (0:Int), (0:Int), (0:Int), (0:Int), (0:Int), .bool false] 98) := by have := (mH (w.alloc (.cells #[p, e, s, h] 93)) (.cells #[(0:Int), (0:Int), (0:Int), (0:Int), (0:Int), (0:Int), (0:Int), .bool false] 98)); simpa using this
 obtain ⟨K1, R1, Z1⟩ := hD3 k0 hr0 hz0; obtain ⟨g0, g1, g2, g3⟩ := cells_4 R1.out; clear k0 hr0 hz0; clear hr hm hy; subst h0; go_enter Tryz.func46, Tryz.ntmps46; go_wp2_with (first | (go_at_call 84; (with_reducible refine (HRt.out _).mono ?_); rintro e' w2 ⟨rfl, hk⟩; have K2 := hD (kT K1.out hk); have R2 := hD (rZ hk R1.out); have Z2 := hD (rZ hk Z1.out); obtain ⟨j0, j1, j2, j3⟩ := cells_4 R2.out; obtain ⟨z0, z1, z2, z3, z4, z5, z6, z7⟩ := c8X Z2.out; have fz := frozN Z2.out; clear hk) | (go_at_call 90; (with_reducible refine (HL.out _).mono ?_); rintro e' w3 ⟨rfl, rfl⟩) | (go_at_call 86; (with_reducible refine (HM.out _).mono ?_); rintro e' w4 ⟨rfl, hk⟩; have K4 := hD (kT K2.out hk); have Z4 := hD (rZ hk Z2.out); obtain ⟨x0, x1, x2, x3, x4, x5, x6, x7⟩ := c8X Z4.out; have fx := frozN Z4.out; clear hk))
 refine bodyPost_ret (results_row_tmpT (p := 4) (u := 5) rfl _ _ (w.heap.size + 1) 98 _ (0, 0) _ rfl (set_8 _ _ _ _ _ _ _ _ Z4.out) Tryz.underlying98 rfl (by kernel_rfl)) rfl ?_; exact ⟨rfl, set_8_kp K4.out (Nat.le_succ _) _ _ _ _ _ _ _ _⟩
theorem refAct11_any (z : SeatM) (k : Int) (w : World) : Calls Tryz.prog 46 #[.agg (seatV z), .int .i64 k] w fun r w' => r = .returned (.tuple #[.agg (effV (z.act k).2), .int .i64 (z.act k).1]) ∧ Kp w w' := by
 obtain ⟨p, e, s, h⟩ := z; unfold SeatM.act
 cases hr : SeatM.right ⟨p, e, s, h⟩ with
 | false => rw [if_pos rfl]; exact refAct_bad p e s h k hr w
 | true =>
  rw [if_neg (by decide)]; obtain ⟨⟨n, m⟩, hm⟩ : ∃ y, stepT p e k s = y := ⟨_, rfl⟩
  dsimp only; rw [hm]; dsimp only
  by_cases h0 : n = 0
  ·rw [if_neg (by simpa using h0)]
   by_cases k1 : k = 12
   ·rw [show howD k = 4 by rw [k1]; rfl]; subst k1; exact refAct_12 p e s h 12 hr n m hm _ rfl h0 rfl w
   by_cases k2 : k = 13
   ·rw [show howD k = 1 by rw [k2]; rfl]; subst k2; exact refAct_13 p e s h 13 hr n m hm _ rfl h0 rfl w
   by_cases k3 : k = 14
   ·rw [show howD k = 5 by rw [k3]; rfl]; subst k3; exact refAct_14 p e s h 14 hr n m hm _ rfl h0 rfl w
   rw [show howD k = k by simp [howD, k1, k2, k3]]; exact refAct_k p e s h k hr n m hm _ rfl h0 (by simpa using k1) (by simpa using k2) (by simpa using k3) w
  ·rw [if_pos h0]; exact refAct_step p e s h k hr n m hm (by simpa using h0) w
variable {w0 w w' W w3 : World} {B q : Nat} {m : StM} {ads : List Addr}
theorem SD.look (h : SD B q m w) (np : Nat) (hnp : m.parts.length = np) : ∃ a d, w.cell? ⟨q, 0, none⟩ = some (.int .i64 m.node) ∧ w.cell? ⟨q, 3, none⟩ = some (.slice a np d) := by
 obtain ⟨gs, va, vp, H⟩ := h; obtain ⟨a, d, rfl⟩ := H.pForm; subst hnp; exact ⟨a, d, cU (i := 0) H.row rfl, cU (i := 3) H.row rfl⟩
theorem SD.lookAt (h : SD B q m w) (i : Int) (x : PaM) (hx : prtP m i = some x) (np : Nat) (hnp : m.parts.length = np) : ∃ gp d, w.cell? ⟨q, 0, none⟩ = some (.int .i64 m.node) ∧ w.cell? ⟨q, 3, none⟩ = some (.slice (some ⟨gp, 0, none⟩) np d) ∧ 0 ≤ i ∧ i.toNat < np ∧ ∀ (j : Nat) (u : Value), j < 7 → (paE.enc x)[j]? = some u → w.cell? ⟨gp, i.toNat * 7 + j, none⟩ = some u := by
 obtain ⟨gs, va, vp, H⟩ := h; obtain ⟨h0, h1⟩ := prt_some hx; have hj : i.toNat < m.parts.length := (List.getElem?_eq_some_iff.1 h1).1; have he : m.parts[i.toNat]'hj = x := (List.getElem?_eq_some_iff.1 h1).2; subst hnp; obtain ⟨gp, ck, ev, hck, _, _, _, hc⟩ := cQ (E := paE) H.op rfl hj; subst ev; refine ⟨gp, ck, cU (i := 0) H.row rfl, cU (i := 3) H.row rfl, h0, hj, fun j u hj2 hu => ?_⟩
 exact hc j u hj2 (by rw [he]; exact hu)
theorem rHas (h : SD B q m w) (i : Int) (b : Bool) (hb : (prtP m i).isSome = b) : Calls Tryz.prog 38 #[.pointer (some ⟨q, 0, none⟩), .int .i64 i] w fun r w' => r = .returned (.bool b) ∧ w = w' := by
 obtain ⟨np, hnp⟩ : ∃ n, m.parts.length = n := ⟨_, rfl⟩
 obtain ⟨a, d, q0, q3⟩ := h.look np hnp; obtain ⟨N, hN⟩ : ∃ N : Int, (np : Int) = N := ⟨_, rfl⟩
 by_cases h0 : 0 ≤ i
 ·by_cases h1 : i < N
  ·have hb : true = b := by rw [← hb]; unfold prtP; rw [if_pos h0, List.getElem?_eq_getElem (show i.toNat < m.parts.length by omega)]; rfl
   subst hb; have g0 : decide (i ≥ 0) = true := dT h0; have g1 : decide (i < N) = true := dT h1; clear h0 h1 hnp h q0; go_enter Tryz.func38, Tryz.ntmps38; go_wp2; go_ret; exact ⟨rfl, rfl⟩
  ·have hb : false = b := by rw [← hb]; unfold prtP; rw [if_pos h0, List.getElem?_eq_none (show m.parts.length ≤ i.toNat by omega)]; rfl
   subst hb; have g0 : decide (i ≥ 0) = true := dT h0; have g1 : decide (i < N) = false := dF h1; clear h0 h1 hnp h q0; go_enter Tryz.func38, Tryz.ntmps38; go_wp2; go_ret; exact ⟨rfl, rfl⟩
 ·have hb : false = b := by rw [← hb]; unfold prtP; rw [if_neg h0]; rfl
  subst hb; have g0 : decide (i ≥ 0) = false := dF (by omega); clear h0 hnp h q0 hN; go_enter Tryz.func38, Tryz.ntmps38; go_wp2; go_ret; exact ⟨rfl, rfl⟩
theorem rMessage (h : SD B q m w) (i nd : Int) (hnd : m.node = nd) (xn xs xr y1 y2 y3 y4 : Int) (hx : prtP m i = some ⟨xn, xs, xr, ⟨y1, y2, y3, y4⟩⟩) (rg k : Int) : Calls Tryz.prog 42 #[.pointer (some ⟨q, 0, none⟩), .int .i64 i, .int .i64 rg, .int .i64 k] w fun r w' => r = .returned (.agg #[k, nd, xn, xn, xs, rg, i, (0:Int), (0:Int)]) ∧ Kp w w' := by
 obtain ⟨np, hnp⟩ : ∃ n, m.parts.length = n := ⟨_, rfl⟩
 obtain ⟨gp, dp, q0, q3, hi0, hiN, hpc⟩ := h.lookAt i ⟨xn, xs, xr, ⟨y1, y2, y3, y4⟩⟩ hx np hnp; rw [hnd] at q0; obtain ⟨N, hN⟩ : ∃ N : Int, (np : Int) = N := ⟨_, rfl⟩
 have iN : i < N := by omega
 have kz := kA w (.cells #[(0:Int), (0:Int), (0:Int), (0:Int), (0:Int), (0:Int), (0:Int), (0:Int), (0:Int)] 26); have x0 := kZ kz (show w.cell? ⟨gp, i.toNat * 7, none⟩ = some (.int .i64 xn) from hpc 0 _ (by decide) rfl); have x1 := kZ kz (show w.cell? ⟨gp, i.toNat * 7 + 1, none⟩ = some (.int .i64 xs) from hpc 1 _ (by decide) rfl); have x2 := kZ kz (show w.cell? ⟨gp, i.toNat * 7 + 2, none⟩ = some (.int .i64 xr) from hpc 2 _ (by decide) rfl); have x3 := kZ kz (show w.cell? ⟨gp, i.toNat * 7 + 3, none⟩ = some (.int .i64 y1) from hpc 3 _ (by decide) rfl); have x4 := kZ kz (show w.cell? ⟨gp, i.toNat * 7 + 4, none⟩ = some (.int .i64 y2) from hpc 4 _ (by decide) rfl); have x5 := kZ kz (show w.cell? ⟨gp, i.toNat * 7 + 5, none⟩ = some (.int .i64 y3) from hpc 5 _ (by decide) rfl); have x6 := kZ kz (show w.cell? ⟨gp, i.toNat * 7 + 6, none⟩ = some (.int .i64 y4) from hpc 6 _ (by decide) rfl); have Q0 := hD q0
 have q3 := kZ kz q3; have K2 := hD (pk2 w (.cells #[(0:Int), (0:Int), (0:Int), (0:Int), (0:Int), (0:Int), (0:Int), (0:Int), (0:Int)] 26) (.cells #[xn, xs, xr, y1, y2, y3, y4] 95)); have R0 := hD (nX0 w (.cells #[(0:Int), (0:Int), (0:Int), (0:Int), (0:Int), (0:Int), (0:Int), (0:Int), (0:Int)] 26) (.cells #[xn, xs, xr, y1, y2, y3, y4] 95)); have R1 := hD (nX1 w (.cells #[(0:Int), (0:Int), (0:Int), (0:Int), (0:Int), (0:Int), (0:Int), (0:Int), (0:Int)] 26) (.cells #[xn, xs, xr, y1, y2, y3, y4] 95)); clear h hnd hx hnp hpc hiN kz q0; go_enter Tryz.func42, Tryz.ntmps42; go_wp2_with fail
 obtain ⟨WD, hWD⟩ : ∃ x, ((w.alloc (.cells #[(0:Int), (0:Int), (0:Int), (0:Int), (0:Int), (0:Int), (0:Int), (0:Int), (0:Int)] 26)).alloc (.cells #[xn, xs, xr, y1, y2, y3, y4] 95)).drew = x := ⟨_, rfl⟩
 have kD : Kp ((w.alloc (.cells #[(0:Int), (0:Int), (0:Int), (0:Int), (0:Int), (0:Int), (0:Int), (0:Int), (0:Int)] 26)).alloc (.cells #[xn, xs, xr, y1, y2, y3, y4] 95)) WD := by rw [← hWD]; exact dQ (Kp.refl _)
 have HWD := hD hWD; have RZD := hD (rZ kD R0.out); have KD := hD (kT K2.out kD); clear hWD; refine rgW (fun w' => w'.heap[w.heap.size + 1]? = some (.cells #[xn, xs, xr, y1, y2, y3, y4] 95) ∧ Kp w w') ?_ fun hH => ?_
 ·exact by rw [HWD.out]; exact ⟨rZ kD R1.out, kT K2.out kD⟩
 rw [HWD.out] at hH ⊢; refine tkP 0 ?_
 go_simp; refine tkP 1 ?_
 go_simp; refine tkP 2 ?_
 go_simp; refine tkP 3 ?_
 go_simp; refine tkP 4 ?_ (y := by intro w hZ; have n0 := kZ hZ.2 Q0.out; go_simp; try rfl)
 go_simp; refine tkP 5 ?_
 go_simp; refine tkP 6 ?_
 go_simp; refine tkP 7 ?_ (y := by intro w hZ; obtain ⟨z0, z1, z2, z3, z4, z5, z6⟩ := c7X hZ.1; go_simp; try rfl)
 go_simp; refine tkP 8 ?_
 go_simp; refine tkP 9 ?_ (y := by intro w hZ; obtain ⟨z0, z1, z2, z3, z4, z5, z6⟩ := c7X hZ.1; go_simp; try rfl)
 go_simp; refine tkP 10 ?_
 go_simp; refine tkP 11 ?_
 go_simp; refine tkP 12 ?_
 go_simp; refine rdW 13 fun K hK => ?_
 have r1 := RZD.out; obtain ⟨s0, s1, s2, s3, s4, s5, s6, s7, s8⟩ := cells9 r1; have fz := frozN r1; go_simp; refine hK.out _ _ (⟨(set9_neP (show w.heap.size + 1 ≠ w.heap.size by omega) _ _ _ _ _ _ _ _ _).trans hH.1, set9_kp hH.2 (Nat.le_refl _) _ _ _ _ _ _ _ _ _⟩) fun hH => ?_
 clear hK K; refine dnW ?_ _
 clear r1 hH; go_wp2; refine bodyPost_ret (results_cell_row (p := 8) rfl _ _ w.heap.size 26 _ (0, 0) _ rfl (set9 (.int .i64 k) (.int .i64 nd) (.int .i64 xn) (.int .i64 xn) (.int .i64 xs) (.int .i64 rg) (.int .i64 i) (.int .i64 0) (.int .i64 0) RZD.out) Tryz.underlying26 rfl (by kernel_rfl)) rfl ?_
 exact ⟨rfl, set9_kp KD.out (Nat.le_refl _) _ _ _ _ _ _ _ _ _⟩
structure ParC (ads : List Addr) (w : World) : Prop where
 tell : ∀ w1, Kp w w1 → ∀ (B q : Nat) (m : StM), SL B q m w1 → OkS m → ∀ g : MM, Calls Tryz.prog 10 #[.pointer (some ⟨q, 0, none⟩), .agg g.cells] w1 fun r w' => ∃ v, r = .returned v ∧ RsV 73 w1.heap.size (tellP m g) v w' ∧ Kp w1 w'
 asked : ∀ w1, Kp w w1 → ∀ (q : Nat) (g : MM), Calls Tryz.prog 14 #[.pointer (some ⟨q, 0, none⟩), .agg g.cells] w1 fun r w' => r = .returned (.bool (askedP g)) ∧ Kp w1 w'
 does : ∀ w1, Kp w w1 → ∀ (B q : Nat) (m : StM), SL B q m w1 → OkS m → ∀ i k : Int, i64M k → Calls Tryz.prog 17 #[.pointer (some ⟨q, 0, none⟩), .int .i64 i, .int .i64 k] w1 fun r w' => ∃ v, r = .returned (.tuple #[v, errI ads (doP m i k).1]) ∧ RsV 73 w1.heap.size (doP m i k).2 v w' ∧ Kp w1 w'
 again : ∀ w1, Kp w w1 → ∀ (B q : Nat) (m : StM), SL B q m w1 → OkS m → ∀ (i : Int) (g : MM) (b : Bool), ((againP m i = some g ∧ b = true) ∨ (againP m i = none ∧ b = false ∧ g = ⟨0, 0, 0, 0, 0, 0, 0, 0, 0⟩)) → Calls Tryz.prog 20 #[.pointer (some ⟨q, 0, none⟩), .int .i64 i] w1 fun r w' => r = .returned (.tuple #[.agg g.cells, .bool b]) ∧ Kp w1 w'
 join : ∀ w1, Kp w w1 → ∀ (B q : Nat) (m : StM), SL B q m w1 → OkS m → ∀ (c : CX) (p : Int) (now : Nat), c.wf → now < 18446744073709551616 → i64M p → Calls Tryz.prog 22 #[.pointer (some ⟨q, 0, none⟩), .agg c.cells, .int .i64 p, .float .f64 now] w1 fun r w' => ∃ v, r = .returned (.tuple #[v, errI ads (joinP m c p now).1]) ∧ RsV 73 w1.heap.size (joinP m c p now).2 v w' ∧ Kp w1 w'
theorem ParC.kp (C : ParC ads w) (hk : Kp w w') : ParC ads w' where
 tell := fun w1 h => C.tell w1 (kT hk h)
 asked := fun w1 h => C.asked w1 (kT hk h)
 does := fun w1 h => C.does w1 (kT hk h)
 again := fun w1 h => C.again w1 (kT hk h)
 join := fun w1 h => C.join w1 (kT hk h)
def bldM (m : StM) (fs : List FX) : StM := fs.foldl (fun m f => (applyQ m f).2) m
theorem bld_ok : ∀ (fs : List FX) {m : StM}, OkS m → OkS (bldM m fs)
 | [], _, h => h
 | f :: l, _, h => bld_ok l (applyQ_ok (f := f) h)
theorem apply_node16 {m : StM} {f : FX} : (applyQ m f).2.node = m.node := applyQ_node
theorem bld_node : ∀ (fs : List FX) (m : StM), (bldM m fs).node = m.node
 | [], _ => rfl
 | _ :: l, _ => (bld_node l _).trans apply_node16
theorem bld_take (fs : List FX) (m : StM) (j : Nat) (hj : j < fs.length) : bldM m (fs.take (j + 1)) = (applyQ (bldM m (fs.take j)) (fs[j]'hj)).2 := by
 unfold bldM; rw [List.take_succ_eq_append_getElem hj, List.foldl_append]
 rfl
theorem built_no (E : EP [0, 3, 4, 8, 13] ads w) (nd : Int) (a : Option Addr) (n cap : Nat) (h : ¬ inN nd ∨ 60 < n) : Calls Tryz.prog 9 #[.int .i64 nd, .slice a n cap] w fun r w' => r = .returned (.tuple #[.pointer none, .pointer none, .bool false]) ∧ Kp w w' := by
 obtain ⟨N, hN⟩ : ∃ N : Int, (n : Int) = N := ⟨_, rfl⟩
 have hsf := sF
 by_cases hin : inN nd
 ·have h60 : 60 < n := h.elim (fun e => absurd hin e) id; have d1 : decide (N > 60) = true := dT (by omega); have HNEW := hD (SL.new E nd hin); clear h h60 hin E; go_enter Tryz.func9, Tryz.ntmps9; go_wp2_with (go_at_call 26; (with_reducible refine HNEW.out.mono ?_); rintro e' w1 ⟨q, rfl, hg1, hk1⟩; obtain ⟨G1, K1⟩ := hD2 hg1 hk1; clear hg1 hk1)
  go_ret3
  exact ⟨rfl, K1.out⟩
 ·have hnew := SL.noNew E nd hin; obtain ⟨er, her⟩ := errI_some14 ads 1 (by decide); rw [her] at hnew; have HNEW := hD hnew; clear h hin E hnew her; go_enter Tryz.func9, Tryz.ntmps9; go_wp2_with (go_at_call 26; (with_reducible refine HNEW.out.mono ?_); rintro e' w1 ⟨rfl, hk1⟩; have K1 := hD hk1; clear hk1)
  go_ret3
  exact ⟨rfl, K1.out⟩
theorem built_any (C : FacC ads w) (E : EP [0, 3, 4, 8, 13] ads w) (nd : Int) (v : Value) (fs : List FX) (hin : inN nd) (hl : fs.length ≤ 60) (hs : SlFc v fs w) : Calls Tryz.prog 9 #[.int .i64 nd, v] w fun r w' => ∃ q q', r = .returned (.tuple #[.pointer (some ⟨q, 0, none⟩), .pointer (some ⟨q', 0, none⟩), .bool true]) ∧ SL w.heap.size q (bldM (newSt nd) fs) w' ∧ SD w.heap.size q' (bldM (newSt nd) fs) w' ∧ Kp w w' := by
 obtain ⟨a, cap, rfl, _⟩ := id hs; obtain ⟨n, hn⟩ : ∃ n, fs.length = n := ⟨_, rfl⟩
 rw [hn] at hs hl ⊢; obtain ⟨N, hN⟩ : ∃ N : Int, (n : Int) = N := ⟨_, rfl⟩
 have d1 : decide (N > 60) = false := dF (by omega); have HNEW := hD (SL.new E nd hin); obtain ⟨HC, HE, HN, HS, HNN, HL⟩ := hD6 C E hn hs hN hl; have hsf := sF; have HOK0 := hD (newSt_ok hin); clear hin C E hn hs hl; go_enter Tryz.func9, Tryz.ntmps9; go_wp2_with (go_at_call 26; (with_reducible refine HNEW.out.mono ?_); rintro e' w1 ⟨q, rfl, hg1, hk1⟩; obtain ⟨G1, K1⟩ := hD2 hg1 hk1; clear hg1 hk1)
 have KX := hD (kT K1.out (kA w1 (.cells #[nd, (0:Int), .slice none 0 0, .slice none 0 0] 79))); have SL0 := hD (G1.out.kp (kA w1 (.cells #[nd, (0:Int), .slice none 0 0, .slice none 0 0] 79))); have SD0 := hD (SD.new (B := w.heap.size) (mH w1 (.cells #[nd, (0:Int), .slice none 0 0, .slice none 0 0] 79)) (kS K1.out)); go_loopw [29] (fun i wr => ∃ (j : Nat) (m : StM), j ≤ n ∧ i = .int .i64 j ∧ m = bldM (newSt nd) (fs.take j) ∧ SL w.heap.size q m wr ∧ SD w.heap.size w1.heap.size m wr ∧ Kp w wr) (fun i _ => n - (intOf i).toNat)
 case atStart => exact ⟨0, newSt nd, Nat.zero_le _, rfl, rfl, SL0.out, SD0.out, KX.out⟩
 case round =>
  obtain ⟨j, m, hj, rfl, hm, hsl, hsd, hk⟩ := hrel; obtain ⟨kk, hkk⟩ : ∃ x : Int, (j : Int) = x := ⟨_, rfl⟩
  rw [hkk]; obtain ⟨HKK, KR⟩ := hD2 hkk hk
  by_cases hlt : j < n
  ·have hjl : kk < N := by have := HNN.out; omega
   have hk0 : 0 ≤ kk := by omega
   have htk : kk.toNat = j := by omega
   have hN8 : N ≤ 60 := by have := HNN.out; have := HL.out; omega
   have hw1 : wrap64 (kk + 1) = kk + 1 := IntWalk.wrap64_in _ (by omega); have HLT := hD hlt; have hjx : j < fs.length := by have := HN.out; omega
   have hok : OkS m := by rw [hm]; exact bld_ok _ HOK0.out
   have hnx := bld_take fs (newSt nd) j hjx; rw [← hm] at hnx; obtain ⟨bb, bo, rfl, hwf, hcell⟩ := (HS.out.kp hk).at j hjx; obtain ⟨⟨fk, fn, fs, fr, fe, fp, fq, fo, fd, fa, ft, fh, fc, fx⟩, hF⟩ : ∃ f, fs[j]'hjx = f := ⟨_, rfl⟩
   rw [hF] at hwf hcell hnx; rw [← htk] at hcell; have zf0 : wr.cell? ⟨bb, bo + kk.toNat * 14, none⟩ = some (.int .i64 fk) := hcell 0 _ rfl; have zf1 : wr.cell? ⟨bb, bo + kk.toNat * 14 + 1, none⟩ = some (.int .i64 fn) := hcell 1 _ rfl; have zf2 : wr.cell? ⟨bb, bo + kk.toNat * 14 + 2, none⟩ = some (.int .i64 fs) := hcell 2 _ rfl; have zf3 : wr.cell? ⟨bb, bo + kk.toNat * 14 + 3, none⟩ = some (.int .i64 fr) := hcell 3 _ rfl; have zf4 : wr.cell? ⟨bb, bo + kk.toNat * 14 + 4, none⟩ = some (.int .i64 fe) := hcell 4 _ rfl; have zf5 : wr.cell? ⟨bb, bo + kk.toNat * 14 + 5, none⟩ = some (.int .i64 fp) := hcell 5 _ rfl; have zf6 : wr.cell? ⟨bb, bo + kk.toNat * 14 + 6, none⟩ = some (.int .i64 fq) := hcell 6 _ rfl; have zf7 : wr.cell? ⟨bb, bo + kk.toNat * 14 + 7, none⟩ = some (.int .i64 fo) := hcell 7 _ rfl; have zf8 : wr.cell? ⟨bb, bo + kk.toNat * 14 + 8, none⟩ = some (.int .i64 fd) := hcell 8 _ rfl; have zf9 : wr.cell? ⟨bb, bo + kk.toNat * 14 + 9, none⟩ = some (.int .i64 fa) := hcell 9 _ rfl
   have zf10 : wr.cell? ⟨bb, bo + kk.toNat * 14 + 10, none⟩ = some (.int .i64 ft) := hcell 10 _ rfl; have zf11 : wr.cell? ⟨bb, bo + kk.toNat * 14 + 11, none⟩ = some (.int .i64 fh) := hcell 11 _ rfl; have zf12 : wr.cell? ⟨bb, bo + kk.toNat * 14 + 12, none⟩ = some (.int .i64 fc) := hcell 12 _ rfl; have zf13 : wr.cell? ⟨bb, bo + kk.toNat * 14 + 13, none⟩ = some (.float .f64 fx) := hcell 13 _ rfl; have kb := kA wr (.cells #[fk, fn, fs, fr, fe, fp, fq, fo, fd, fa, ft, fh, fc, fx] 73); obtain ⟨u0, u1, u2, u3, u4, u5, u6, u7, u8, u9, u10, u11, u12, u13⟩ := cZ (mH wr (.cells #[fk, fn, fs, fr, fe, fp, fq, fo, fd, fa, ft, fh, fc, fx] 73)); have RF := hD (mH wr (.cells #[fk, fn, fs, fr, fe, fp, fq, fo, fd, fa, ft, fh, fc, fx] 73)); have hap := SL.apply (HC.out.kp (kT hk kb)) (HE.out.kp (kT hk kb)) (hsl.kp kb) hok (⟨fk, fn, fs, fr, fe, fp, fq, fo, fd, fa, ft, fh, fc, fx⟩ : FX) hwf; have had := fun w2 (h : SD w.heap.size w1.heap.size m w2) => SD.apply h hok (⟨fk, fn, fs, fr, fe, fp, fq, fo, fd, fa, ft, fh, fc, fx⟩ : FX) hwf
   dsimp only [FX.cells] at hap had; obtain ⟨AQ, hAQ⟩ : ∃ x, applyQ m (⟨fk, fn, fs, fr, fe, fp, fq, fo, fd, fa, ft, fh, fc, fx⟩ : FX) = x := ⟨_, rfl⟩
   rw [hAQ] at hap had hnx; obtain ⟨ac, m2⟩ := AQ; dsimp only at hap had hnx; obtain ⟨er, her⟩ : ∃ x, errI ads ac = x := ⟨_, rfl⟩
   rw [her] at hap; obtain ⟨HAP, HAD, HNX⟩ := hD3 hap had hnx; have HSD := hD (hsd.kp kb); have KB := hD (kT hk kb); clear hkk hj hlt hm hok hsl hsd hk htk hjx hwf hcell hF kb hap had hAQ hnx her; go_wp2_with (first | (go_at_call 27; (with_reducible refine HAP.out.mono ?_); rintro e' w5 ⟨rfl, s5, d5, x5, k5⟩; have D5 := hD (d5 _ _ _ HSD.out); have S5 := hD s5; have R5 := hD (x5 _ _ _ offL_fct RF.out); obtain ⟨v0, v1, v2, v3, v4, v5, v6, v7, v8, v9, v10, v11, v12, v13⟩ := cZ R5.out; have K5 := hD (k5 _ KB.out (Nat.le_refl _)); clear s5 d5 x5 k5) | (go_at_call 28; (with_reducible refine (HAD.out _ D5.out).mono ?_); rintro e' w7 ⟨rfl, s7, d7, x7, k7⟩; have S7 := hD (d7 _ _ _ S5.out); have D7 := hD s7; have K7 := hD (k7 _ K5.out (Nat.le_refl _)); clear s7 d7 x7 k7))
   go_roundw
   case rel => exact ⟨j + 1, m2, by have := HLT.out; omega, by have := HKK.out; first | rw [show ((j + 1 : Nat) : Int) = kk + 1 by omega] | rw [show ((j + 1 : Nat) : Int) = kk + 1 by omega, hw1], HNX.out.symm, S7.out, D7.out, K7.out⟩
   case measure => have := HKK.out; have := HLT.out; simp [intOf]; omega
  ·have hje : ¬ kk < N := by have := HNN.out; omega
   have hmm : m = bldM (newSt nd) fs := by rw [hm, List.take_of_length_le (by have := HN.out; omega)]
   subst hmm; obtain ⟨SF, DF⟩ := hD2 hsl hsd; clear hkk hj hlt hk hm hsl hsd; go_wp2; go_ret3
   exact ⟨_, _, rfl, SF.out, DF.out, KR.out⟩
theorem facC_of (ads : List Addr) (W : World) (V : St ads W) (T : Tab W) : FacC ads W where
 right := fun w1 hk f hf => facRight_any ads f hf w1 (V.below hk) (T.kp hk)
theorem parC_of (ads : List Addr) (W : World) (V : St ads W) (T : Tab W) : ParC ads W where
 tell := fun w1 hk _ _ _ h ok g => pTell (V.below hk) (tabC_of ads w1 (ep_of_st (V.below hk) (by decide))) h ok g
 asked := fun _ _ _ g => pAsked g.k g.f g.t g.n g.s g.r g.p g.o g.c
 does := fun w1 hk _ _ _ h ok i k ik => pDo (V.below hk) (tabC_of ads w1 (ep_of_st (V.below hk) (by decide))) (tabS_of ads w1 (ep_of_st (V.below hk) (by decide))) h ok i k ik
 again := fun w1 hk _ _ _ h ok i g b hg => pAgain (tabC_of ads w1 (ep_of_st (V.below hk) (by decide))) h ok i g b hg
 join := fun w1 hk _ _ _ h ok c p now hc hn ip => pJoin (V.below hk) (T.kp hk) (tabC_of ads w1 (ep_of_st (V.below hk) (by decide))) h ok c.n c.s c.o c.d p c.x now hc hn ip
end Go.Proofs.YtncoofnhifcnhaaGreatDoor
