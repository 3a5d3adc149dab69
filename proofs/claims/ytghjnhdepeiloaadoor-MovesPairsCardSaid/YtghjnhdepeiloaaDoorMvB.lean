/-
  liaisonref11: moved (own work).
-/
import Derived.Test.YtghjnhdepeiloaaDoorMvA
namespace Go.Proofs.YtghjnhdepeiloaaDoor
open Go.RowKit Go.ChangeShapes Go.WideShapes

set_option maxRecDepth 100000 in
theorem refMoved_14 (p e s h _st how send : Int)  (w : World) : Calls Tryd.prog 35 #[.agg #[.int .i64 p, .int .i64 e, .int .i64 s, .int .i64 h], .int .i64 14, .int .i64 how, .int .i64 send] w fun r w' => r = .returned (.agg #[.int .i64 p, .int .i64 e, .int .i64 14, .int .i64 how, .int .i64 send, .int .i64 0, .int .i64 (SeatM.work ⟨p, e, 14, how⟩), .bool true]) ∧ Kp w w' := by
  have HW := fun w => refWork_any ⟨p, e, 14, how⟩ w
  obtain ⟨wk, hwk⟩ : ∃ x, SeatM.work ⟨p, e, 14, how⟩ = x := ⟨_, rfl⟩
  rw [hwk] at HW ⊢
  dsimp only [seatV] at HW
  replace HW := Lib.hid HW
  obtain ⟨W1, hW1⟩ : ∃ W1, (w.alloc (.cells #[.int .i64 p, .int .i64 e, .int .i64 14, .int .i64 how] 25)).alloc (.cells #[.int .i64 0, .int .i64 0, .int .i64 0, .int .i64 0, .int .i64 0, .int .i64 0, .int .i64 0, .bool false] 33) = W1 := ⟨_, rfl⟩
  have HR := Lib.hid (show W1.heap[w.heap.size]? = some (.cells #[.int .i64 p, .int .i64 e, .int .i64 14, .int .i64 how] 25) by rw [← hW1]; exact kp_row (kp_alloc _ _) (MapKept.heap_alloc w (.cells #[.int .i64 p, .int .i64 e, .int .i64 14, .int .i64 how] 25)).1)
  have HZ := Lib.hid (show W1.heap[w.heap.size + 1]? = some (.cells #[.int .i64 0, .int .i64 0, .int .i64 0, .int .i64 0, .int .i64 0, .int .i64 0, .int .i64 0, .bool false] 33) by rw [← hW1]; have := (MapKept.heap_alloc (w.alloc (.cells #[.int .i64 p, .int .i64 e, .int .i64 14, .int .i64 how] 25)) (.cells #[.int .i64 0, .int .i64 0, .int .i64 0, .int .i64 0, .int .i64 0, .int .i64 0, .int .i64 0, .bool false] 33)).1; simpa using this)
  have KW := Lib.hid (show Kp w W1 by rw [← hW1]; exact Kp.trans (kp_alloc _ _) (kp_alloc _ _))
  obtain ⟨g0, g1, g2, g3⟩ := cells_4 HR.out
  have fg := frozN HR.out
  clear hwk
  go_enter Tryd.func35, Tryd.ntmps35
  go_wp2_with fail
  try rw [hW1]
  have hsz : W1.heap.size = w.heap.size + 1 + 1 := by rw [← hW1]; simp
  clear hW1
  refine wp_region_held_drew (S := fun w' => Kp w w' ∧ w'.heap[w.heap.size]? = some (.cells #[.int .i64 p, .int .i64 e, .int .i64 14, .int .i64 how] 25)) (by kernel_rfl) ?_ (fun hHeld => ?_)
  · exact ⟨kp_drewM KW.out, HR.out⟩
  refine wpAnyH_take (i := 0) (v := ?_) rfl (by kernel_rfl) (by kernel_rfl) (by kernel_rfl) (fun _ _ _ h => h) (Or.inl ⟨by rfl, ?_⟩) (by assumption) ?_
  rotate_left
  · intro w hSw; obtain ⟨q0, q1, q2, q3⟩ := cells_4 hSw.2; go_simp; try with_reducible rfl
  go_simp
  refine wpAnyH_take (i := 1) (v := ?_) rfl (by kernel_rfl) (by kernel_rfl) (by kernel_rfl) (fun _ _ _ h => h) (Or.inl ⟨by rfl, ?_⟩) (by assumption) ?_
  rotate_left
  · intro w hSw; go_simp; try with_reducible rfl
  go_simp
  refine wpAnyH_take (i := 2) (v := ?_) rfl (by kernel_rfl) (by kernel_rfl) (by kernel_rfl) (fun _ _ _ h => h) (Or.inl ⟨by rfl, ?_⟩) (by assumption) ?_
  rotate_left
  · intro w hSw; obtain ⟨q0, q1, q2, q3⟩ := cells_4 hSw.2; go_simp; try with_reducible rfl
  go_simp
  refine wpAnyH_ready (rs := [3]) (by kernel_rfl) (by simp) ?_
  refine AllReadyH.cons rfl (fun K hK => ?_) AllReadyH.nil
  go_simp
  go_wp2_with (go_at_call 20; (with_reducible refine (HW.out _).mono ?_); rintro e' w4 ⟨rfl, hk4⟩; have K4 := Lib.hid (Kp.trans hHeld.1 hk4); have R4 := Lib.hid (kp_row hk4 hHeld.2); have RZ := kp_row hk4 HZ.out; clear hk4)
  refine hK.out _ _ ?_ (fun hHeld => ?_)
  · exact ⟨K4.out, R4.out⟩
  clear hK K
  refine wpAnyH_take (i := 4) (v := ?_) rfl (by kernel_rfl) (by kernel_rfl) (by kernel_rfl) (fun _ _ _ h => h) (Or.inl ⟨by rfl, ?_⟩) (by assumption) ?_
  rotate_left
  · intro w hSw; go_simp; try with_reducible rfl
  go_simp
  refine wpAnyH_ready (rs := [5]) (by kernel_rfl) (by simp) ?_
  refine AllReadyH.cons rfl (fun K hK => ?_) AllReadyH.nil
  obtain ⟨z0, z1, z2, z3, z4, z5, z6, z7⟩ := cells_8 RZ
  have fz := frozN RZ
  go_simp
  refine hK.out _ _ ?_ (fun hHeld => ?_)
  · exact ⟨set_8_kp K4.out (Nat.le_succ _) _ _ _ _ _ _ _ _, set_8_ne _ _ _ _ _ _ _ _ R4.out (by omega)⟩
  clear hK K
  refine wpAnyH_done (by kernel_rfl) ?_ _
  go_wp2
  refine bodyPost_ret (results_cell_row (p := 8) rfl _ _ (w.heap.size + 1) 33 _ (0, 0) _ rfl (set_8 (.int .i64 p) (.int .i64 e) (.int .i64 14) (.int .i64 how) (.int .i64 send) (.int .i64 0) (.int .i64 wk) (.bool true) RZ) Tryd.underlying33 rfl (by kernel_rfl)) rfl ?_
  exact ⟨rfl, set_8_kp K4.out (Nat.le_succ _) _ _ _ _ _ _ _ _⟩
set_option maxRecDepth 100000 in
theorem refMoved_no (p e s h st how send : Int) (b14 : (st == 14) = false) (w : World) : Calls Tryd.prog 35 #[.agg #[.int .i64 p, .int .i64 e, .int .i64 s, .int .i64 h], .int .i64 st, .int .i64 how, .int .i64 send] w fun r w' => r = .returned (.agg #[.int .i64 p, .int .i64 e, .int .i64 st, .int .i64 h, .int .i64 send, .int .i64 0, .int .i64 (SeatM.work ⟨p, e, st, h⟩), .bool true]) ∧ Kp w w' := by
  have HW := fun w => refWork_any ⟨p, e, st, h⟩ w
  obtain ⟨wk, hwk⟩ : ∃ x, SeatM.work ⟨p, e, st, h⟩ = x := ⟨_, rfl⟩
  rw [hwk] at HW ⊢
  dsimp only [seatV] at HW
  replace HW := Lib.hid HW
  obtain ⟨W1, hW1⟩ : ∃ W1, (w.alloc (.cells #[.int .i64 p, .int .i64 e, .int .i64 st, .int .i64 h] 25)).alloc (.cells #[.int .i64 0, .int .i64 0, .int .i64 0, .int .i64 0, .int .i64 0, .int .i64 0, .int .i64 0, .bool false] 33) = W1 := ⟨_, rfl⟩
  have HR := Lib.hid (show W1.heap[w.heap.size]? = some (.cells #[.int .i64 p, .int .i64 e, .int .i64 st, .int .i64 h] 25) by rw [← hW1]; exact kp_row (kp_alloc _ _) (MapKept.heap_alloc w (.cells #[.int .i64 p, .int .i64 e, .int .i64 st, .int .i64 h] 25)).1)
  have HZ := Lib.hid (show W1.heap[w.heap.size + 1]? = some (.cells #[.int .i64 0, .int .i64 0, .int .i64 0, .int .i64 0, .int .i64 0, .int .i64 0, .int .i64 0, .bool false] 33) by rw [← hW1]; have := (MapKept.heap_alloc (w.alloc (.cells #[.int .i64 p, .int .i64 e, .int .i64 st, .int .i64 h] 25)) (.cells #[.int .i64 0, .int .i64 0, .int .i64 0, .int .i64 0, .int .i64 0, .int .i64 0, .int .i64 0, .bool false] 33)).1; simpa using this)
  have KW := Lib.hid (show Kp w W1 by rw [← hW1]; exact Kp.trans (kp_alloc _ _) (kp_alloc _ _))
  obtain ⟨g0, g1, g2, g3⟩ := cells_4 HR.out
  have fg := frozN HR.out
  clear hwk
  go_enter Tryd.func35, Tryd.ntmps35
  go_wp2_with fail
  try rw [hW1]
  have hsz : W1.heap.size = w.heap.size + 1 + 1 := by rw [← hW1]; simp
  clear hW1
  refine wp_region_held_drew (S := fun w' => Kp w w' ∧ w'.heap[w.heap.size]? = some (.cells #[.int .i64 p, .int .i64 e, .int .i64 st, .int .i64 h] 25)) (by kernel_rfl) ?_ (fun hHeld => ?_)
  · exact ⟨kp_drewM KW.out, HR.out⟩
  refine wpAnyH_take (i := 0) (v := ?_) rfl (by kernel_rfl) (by kernel_rfl) (by kernel_rfl) (fun _ _ _ h => h) (Or.inl ⟨by rfl, ?_⟩) (by assumption) ?_
  rotate_left
  · intro w hSw; obtain ⟨q0, q1, q2, q3⟩ := cells_4 hSw.2; go_simp; try with_reducible rfl
  go_simp
  refine wpAnyH_take (i := 1) (v := ?_) rfl (by kernel_rfl) (by kernel_rfl) (by kernel_rfl) (fun _ _ _ h => h) (Or.inl ⟨by rfl, ?_⟩) (by assumption) ?_
  rotate_left
  · intro w hSw; go_simp; try with_reducible rfl
  go_simp
  refine wpAnyH_take (i := 2) (v := ?_) rfl (by kernel_rfl) (by kernel_rfl) (by kernel_rfl) (fun _ _ _ h => h) (Or.inl ⟨by rfl, ?_⟩) (by assumption) ?_
  rotate_left
  · intro w hSw; obtain ⟨q0, q1, q2, q3⟩ := cells_4 hSw.2; go_simp; try with_reducible rfl
  go_simp
  refine wpAnyH_ready (rs := [3]) (by kernel_rfl) (by simp) ?_
  refine AllReadyH.cons rfl (fun K hK => ?_) AllReadyH.nil
  go_simp
  go_wp2_with (go_at_call 20; (with_reducible refine (HW.out _).mono ?_); rintro e' w4 ⟨rfl, hk4⟩; have K4 := Lib.hid (Kp.trans hHeld.1 hk4); have R4 := Lib.hid (kp_row hk4 hHeld.2); have RZ := kp_row hk4 HZ.out; clear hk4)
  refine hK.out _ _ ?_ (fun hHeld => ?_)
  · exact ⟨K4.out, R4.out⟩
  clear hK K
  refine wpAnyH_take (i := 4) (v := ?_) rfl (by kernel_rfl) (by kernel_rfl) (by kernel_rfl) (fun _ _ _ h => h) (Or.inl ⟨by rfl, ?_⟩) (by assumption) ?_
  rotate_left
  · intro w hSw; go_simp; try with_reducible rfl
  go_simp
  refine wpAnyH_ready (rs := [5]) (by kernel_rfl) (by simp) ?_
  refine AllReadyH.cons rfl (fun K hK => ?_) AllReadyH.nil
  obtain ⟨z0, z1, z2, z3, z4, z5, z6, z7⟩ := cells_8 RZ
  have fz := frozN RZ
  go_simp
  refine hK.out _ _ ?_ (fun hHeld => ?_)
  · exact ⟨set_8_kp K4.out (Nat.le_succ _) _ _ _ _ _ _ _ _, set_8_ne _ _ _ _ _ _ _ _ R4.out (by omega)⟩
  clear hK K
  refine wpAnyH_done (by kernel_rfl) ?_ _
  go_wp2
  refine bodyPost_ret (results_cell_row (p := 8) rfl _ _ (w.heap.size + 1) 33 _ (0, 0) _ rfl (set_8 (.int .i64 p) (.int .i64 e) (.int .i64 st) (.int .i64 h) (.int .i64 send) (.int .i64 0) (.int .i64 wk) (.bool true) RZ) Tryd.underlying33 rfl (by kernel_rfl)) rfl ?_
  exact ⟨rfl, set_8_kp K4.out (Nat.le_succ _) _ _ _ _ _ _ _ _⟩
theorem refMoved_any (z : SeatM) (st how send : Int) (y : EffM) (hy : z.moved st how send = y) (w : World) : Calls Tryd.prog 35 #[.agg (seatV z), .int .i64 st, .int .i64 how, .int .i64 send] w fun r w' => r = .returned (.agg (effV y)) ∧ Kp w w' := by
  subst hy
  obtain ⟨p, e, s, h⟩ := z
  by_cases h14 : st = 14
  · subst h14
    exact refMoved_14 p e s h 14 how send w
  · have b14 : (st == 14) = false := by simpa using h14
    have := refMoved_no p e s h st how send b14 w
    simpa only [seatV, effV, SeatM.moved, if_neg h14] using this
end Go.Proofs.YtghjnhdepeiloaaDoor
