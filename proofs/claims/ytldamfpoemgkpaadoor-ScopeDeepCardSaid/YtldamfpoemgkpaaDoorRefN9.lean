/-
  A NEW CONTEXT AS THE DOCUMENT HAS IT (own work): liaisonref09.New.
-/
import Derived.Test.YtldamfpoemgkpaaDoorRefC9
namespace Go.Proofs.YtldamfpoemgkpaaDoor
open Go.RowKit Go.ChangeShapes Go.WideShapes

/-- all but block p is as it was -/
def KbX (p : Nat) (w w' : World) : Prop := w.heap.size ≤ w'.heap.size ∧ ∀ b, b ≠ p → b < w.heap.size → w'.heap[b]? = w.heap[b]?
theorem KbX.refl (p : Nat) (w : World) : KbX p w w := ⟨Nat.le_refl _, fun _ _ _ => rfl⟩
theorem KbX.drew {p : Nat} {w w' : World} (h : KbX p w w') : KbX p w w'.drew := h
theorem KbX.set {p : Nat} {w w1 : World} (h : KbX p w w1) (i : Nat) (v : Value) : KbX p w (w1.setCell ⟨p, i, none⟩ v) := ⟨by simp; exact h.1, fun b hb hl => by rw [Below.heap_setCell _ _ _ _ hb]; exact h.2 b hb hl⟩
theorem kbx_cell {p : Nat} {w w' : World} {q : Addr} {v : Value} (h : KbX p w w') (hp : q.block ≠ p) (hc : w.cell? q = some v) : w'.cell? q = some v := by
  have hl := old_of_cell hc
  have e : w'.heap[q.block]? = w.heap[q.block]? := h.2 _ hp hl
  unfold World.cell? at hc ⊢
  rw [e]
  exact hc
set_option maxRecDepth 100000 in
set_option maxHeartbeats 4000000 in
theorem refNew9_range (an aw oc : Int) (t l : Nat) (ht : t < 18446744073709551616) (hl : l < 18446744073709551616) (w : World) (h : rightA an aw = false) :
    Calls Tryd.prog 9 #[.agg #[.int .i64 an, .int .i64 aw], .int .i64 oc, .float .f64 t, .float .f64 l] w fun e w' => e = .returned (.tuple #[.agg #[.int .i64 0, .int .i64 0, .int .i64 0, .int .i64 0, .float .f64 0], .int .i64 1]) ∧ Kp w w' := by
  have HA := fun w1 => refRight_any an aw w1
  have HD1 := fun w1 => refDelay_any t w1 ht
  have HD2 := fun w1 => refDelay_any l w1 hl
  rw [h] at HA
  have HA := Lib.hid HA
  have HD1 := Lib.hid HD1
  have HD2 := Lib.hid HD2
  have kb := Kp.trans (kp_alloc w (.cells #[.int .i64 an, .int .i64 aw] 23)) (kp_alloc (w.alloc (.cells #[.int .i64 an, .int .i64 aw] 23)) (.cells #[.int .i64 0, .int .i64 0, .int .i64 0, .int .i64 0, .float .f64 0] 29))
  have ha := new5_0 w (.cells #[.int .i64 an, .int .i64 aw] 23) (.cells #[.int .i64 0, .int .i64 0, .int .i64 0, .int .i64 0, .float .f64 0] 29)
  have hz := new5_1 w (.cells #[.int .i64 an, .int .i64 aw] 23) (.cells #[.int .i64 0, .int .i64 0, .int .i64 0, .int .i64 0, .float .f64 0] 29)
  have KB := Lib.hid kb
  have HAc := Lib.hid ha
  have HZ := Lib.hid hz
  clear kb ha hz
  have hsf := store_fl
  go_enter Tryd.func9, Tryd.ntmps9
  go_wp2_with (first
    | (go_at_call 27; (with_reducible refine (HA.out _).mono ?_); rintro e w1 ⟨rfl, hk⟩; have KK := Lib.hid (Kp.trans KB.out hk); have Z1 := Lib.hid (kp_row hk HZ.out); have A1 := Lib.hid (kp_row hk HAc.out); obtain ⟨z0, z1, z2, z3, z4⟩ := cells5 (Z1.out); have fz := froz5 Z1.out; have a0 := two9_0 A1.out; have a1 := two9_1 A1.out; clear hk))
  have hz5 := set5 (.int .i64 0) (.int .i64 0) (.int .i64 0) (.int .i64 0) (.float .f64 0) Z1.out
  refine bodyPost_ret (results_row_tmp9 (p := 8) (u := 9) rfl _ _ (w.heap.size + 1) 29 _ (0, 0) _ rfl hz5 Tryd.underlying29 rfl (by kernel_rfl)) rfl ?_
  exact ⟨rfl, set5_kp KK.out (by omega) _ _ _ _ _⟩
set_option maxRecDepth 100000 in
set_option maxHeartbeats 4000000 in
theorem refNew9_out (an aw oc : Int) (t l : Nat) (ht : t < 18446744073709551616) (hl : l < 18446744073709551616) (w : World) (h : rightA an aw = true) (h3 : ¬ (oc = 1 ∨ oc = 2)) :
    Calls Tryd.prog 9 #[.agg #[.int .i64 an, .int .i64 aw], .int .i64 oc, .float .f64 t, .float .f64 l] w fun e w' => e = .returned (.tuple #[.agg #[.int .i64 0, .int .i64 0, .int .i64 0, .int .i64 0, .float .f64 0], .int .i64 4]) ∧ Kp w w' := by
  have HA := fun w1 => refRight_any an aw w1
  have HD1 := fun w1 => refDelay_any t w1 ht
  have HD2 := fun w1 => refDelay_any l w1 hl
  rw [h] at HA
  have g1 : (oc != 1) = true := by simpa using fun q : oc = 1 => h3 (.inl q)
  have g2 : (oc != 2) = true := by simpa using fun q : oc = 2 => h3 (.inr q)
  have HA := Lib.hid HA
  have HD1 := Lib.hid HD1
  have HD2 := Lib.hid HD2
  have kb := Kp.trans (kp_alloc w (.cells #[.int .i64 an, .int .i64 aw] 23)) (kp_alloc (w.alloc (.cells #[.int .i64 an, .int .i64 aw] 23)) (.cells #[.int .i64 0, .int .i64 0, .int .i64 0, .int .i64 0, .float .f64 0] 29))
  have ha := new5_0 w (.cells #[.int .i64 an, .int .i64 aw] 23) (.cells #[.int .i64 0, .int .i64 0, .int .i64 0, .int .i64 0, .float .f64 0] 29)
  have hz := new5_1 w (.cells #[.int .i64 an, .int .i64 aw] 23) (.cells #[.int .i64 0, .int .i64 0, .int .i64 0, .int .i64 0, .float .f64 0] 29)
  have KB := Lib.hid kb
  have HAc := Lib.hid ha
  have HZ := Lib.hid hz
  clear kb ha hz
  have hsf := store_fl
  go_enter Tryd.func9, Tryd.ntmps9
  go_wp2_with (first
    | (go_at_call 27; (with_reducible refine (HA.out _).mono ?_); rintro e w1 ⟨rfl, hk⟩; have KK := Lib.hid (Kp.trans KB.out hk); have Z1 := Lib.hid (kp_row hk HZ.out); have A1 := Lib.hid (kp_row hk HAc.out); obtain ⟨z0, z1, z2, z3, z4⟩ := cells5 (Z1.out); have fz := froz5 Z1.out; have a0 := two9_0 A1.out; have a1 := two9_1 A1.out; clear hk)
    | (go_at_call 28; (with_reducible refine (HD1.out _).mono ?_); rintro e w' ⟨rfl, rfl⟩)
    | (go_at_call 28; (with_reducible refine (HD2.out _).mono ?_); rintro e w' ⟨rfl, rfl⟩))
  have hz5 := set5 (.int .i64 0) (.int .i64 0) (.int .i64 0) (.int .i64 0) (.float .f64 0) Z1.out
  refine bodyPost_ret (results_row_tmp9 (p := 8) (u := 9) rfl _ _ (w.heap.size + 1) 29 _ (0, 0) _ rfl hz5 Tryd.underlying29 rfl (by kernel_rfl)) rfl ?_
  exact ⟨rfl, set5_kp KK.out (by omega) _ _ _ _ _⟩
set_option maxRecDepth 100000 in
set_option maxHeartbeats 4000000 in
theorem refNew9_t1 (an aw oc : Int) (t l : Nat) (ht : t < 18446744073709551616) (hl : l < 18446744073709551616) (w : World) (h : rightA an aw = true) (h3 : oc = 1) (h4 : Fl.dl t = false) :
    Calls Tryd.prog 9 #[.agg #[.int .i64 an, .int .i64 aw], .int .i64 oc, .float .f64 t, .float .f64 l] w fun e w' => e = .returned (.tuple #[.agg #[.int .i64 0, .int .i64 0, .int .i64 0, .int .i64 0, .float .f64 0], .int .i64 4]) ∧ Kp w w' := by
  have HA := fun w1 => refRight_any an aw w1
  have HD1 := fun w1 => refDelay_any t w1 ht
  have HD2 := fun w1 => refDelay_any l w1 hl
  rw [h] at HA
  rw [h4] at HD1
  subst h3
  have HA := Lib.hid HA
  have HD1 := Lib.hid HD1
  have HD2 := Lib.hid HD2
  have kb := Kp.trans (kp_alloc w (.cells #[.int .i64 an, .int .i64 aw] 23)) (kp_alloc (w.alloc (.cells #[.int .i64 an, .int .i64 aw] 23)) (.cells #[.int .i64 0, .int .i64 0, .int .i64 0, .int .i64 0, .float .f64 0] 29))
  have ha := new5_0 w (.cells #[.int .i64 an, .int .i64 aw] 23) (.cells #[.int .i64 0, .int .i64 0, .int .i64 0, .int .i64 0, .float .f64 0] 29)
  have hz := new5_1 w (.cells #[.int .i64 an, .int .i64 aw] 23) (.cells #[.int .i64 0, .int .i64 0, .int .i64 0, .int .i64 0, .float .f64 0] 29)
  have KB := Lib.hid kb
  have HAc := Lib.hid ha
  have HZ := Lib.hid hz
  clear kb ha hz
  have hsf := store_fl
  go_enter Tryd.func9, Tryd.ntmps9
  go_wp2_with (first
    | (go_at_call 27; (with_reducible refine (HA.out _).mono ?_); rintro e w1 ⟨rfl, hk⟩; have KK := Lib.hid (Kp.trans KB.out hk); have Z1 := Lib.hid (kp_row hk HZ.out); have A1 := Lib.hid (kp_row hk HAc.out); obtain ⟨z0, z1, z2, z3, z4⟩ := cells5 (Z1.out); have fz := froz5 Z1.out; have a0 := two9_0 A1.out; have a1 := two9_1 A1.out; clear hk)
    | (go_at_call 28; (with_reducible refine (HD1.out _).mono ?_); rintro e w' ⟨rfl, rfl⟩)
    | (go_at_call 28; (with_reducible refine (HD2.out _).mono ?_); rintro e w' ⟨rfl, rfl⟩))
  have hz5 := set5 (.int .i64 0) (.int .i64 0) (.int .i64 0) (.int .i64 0) (.float .f64 0) Z1.out
  refine bodyPost_ret (results_row_tmp9 (p := 8) (u := 9) rfl _ _ (w.heap.size + 1) 29 _ (0, 0) _ rfl hz5 Tryd.underlying29 rfl (by kernel_rfl)) rfl ?_
  exact ⟨rfl, set5_kp KK.out (by omega) _ _ _ _ _⟩
set_option maxRecDepth 100000 in
set_option maxHeartbeats 4000000 in
theorem refNew9_l1 (an aw oc : Int) (t l : Nat) (ht : t < 18446744073709551616) (hl : l < 18446744073709551616) (w : World) (h : rightA an aw = true) (h3 : oc = 1) (h4 : Fl.dl t = true) (h5 : Fl.dl l = false) :
    Calls Tryd.prog 9 #[.agg #[.int .i64 an, .int .i64 aw], .int .i64 oc, .float .f64 t, .float .f64 l] w fun e w' => e = .returned (.tuple #[.agg #[.int .i64 0, .int .i64 0, .int .i64 0, .int .i64 0, .float .f64 0], .int .i64 4]) ∧ Kp w w' := by
  have HA := fun w1 => refRight_any an aw w1
  have HD1 := fun w1 => refDelay_any t w1 ht
  have HD2 := fun w1 => refDelay_any l w1 hl
  rw [h] at HA
  rw [h4] at HD1
  rw [h5] at HD2
  subst h3
  have HA := Lib.hid HA
  have HD1 := Lib.hid HD1
  have HD2 := Lib.hid HD2
  have kb := Kp.trans (kp_alloc w (.cells #[.int .i64 an, .int .i64 aw] 23)) (kp_alloc (w.alloc (.cells #[.int .i64 an, .int .i64 aw] 23)) (.cells #[.int .i64 0, .int .i64 0, .int .i64 0, .int .i64 0, .float .f64 0] 29))
  have ha := new5_0 w (.cells #[.int .i64 an, .int .i64 aw] 23) (.cells #[.int .i64 0, .int .i64 0, .int .i64 0, .int .i64 0, .float .f64 0] 29)
  have hz := new5_1 w (.cells #[.int .i64 an, .int .i64 aw] 23) (.cells #[.int .i64 0, .int .i64 0, .int .i64 0, .int .i64 0, .float .f64 0] 29)
  have KB := Lib.hid kb
  have HAc := Lib.hid ha
  have HZ := Lib.hid hz
  clear kb ha hz
  have hsf := store_fl
  go_enter Tryd.func9, Tryd.ntmps9
  go_wp2_with (first
    | (go_at_call 27; (with_reducible refine (HA.out _).mono ?_); rintro e w1 ⟨rfl, hk⟩; have KK := Lib.hid (Kp.trans KB.out hk); have Z1 := Lib.hid (kp_row hk HZ.out); have A1 := Lib.hid (kp_row hk HAc.out); obtain ⟨z0, z1, z2, z3, z4⟩ := cells5 (Z1.out); have fz := froz5 Z1.out; have a0 := two9_0 A1.out; have a1 := two9_1 A1.out; clear hk)
    | (go_at_call 28; (with_reducible refine (HD1.out _).mono ?_); rintro e w' ⟨rfl, rfl⟩)
    | (go_at_call 28; (with_reducible refine (HD2.out _).mono ?_); rintro e w' ⟨rfl, rfl⟩))
  have hz5 := set5 (.int .i64 0) (.int .i64 0) (.int .i64 0) (.int .i64 0) (.float .f64 0) Z1.out
  refine bodyPost_ret (results_row_tmp9 (p := 8) (u := 9) rfl _ _ (w.heap.size + 1) 29 _ (0, 0) _ rfl hz5 Tryd.underlying29 rfl (by kernel_rfl)) rfl ?_
  exact ⟨rfl, set5_kp KK.out (by omega) _ _ _ _ _⟩
set_option maxRecDepth 100000 in
set_option maxHeartbeats 4000000 in
theorem refNew9_ok1 (an aw oc : Int) (t l : Nat) (ht : t < 18446744073709551616) (hl : l < 18446744073709551616) (w : World) (h : rightA an aw = true) (h3 : oc = 1) (h4 : Fl.dl t = true) (h5 : Fl.dl l = true) (rr : Nat) (hr : Ieee.double.add (Fl.plain t) (Fl.plain l) = some rr) :
    Calls Tryd.prog 9 #[.agg #[.int .i64 an, .int .i64 aw], .int .i64 oc, .float .f64 t, .float .f64 l] w fun e w' => e = .returned (.tuple #[.agg #[.int .i64 an, .int .i64 aw, .int .i64 1, .int .i64 0, .float .f64 rr], .int .i64 0]) ∧ Kp w w' := by
  have HA := fun w1 => refRight_any an aw w1
  have HD1 := fun w1 => refDelay_any t w1 ht
  have HD2 := fun w1 => refDelay_any l w1 hl
  have HP1 := Lib.hid (fun w1 => refPlain_any t w1 ht)
  have HP2 := Lib.hid (fun w1 => refPlain_any l w1 hl)
  obtain ⟨pt, hpt⟩ : ∃ x, Fl.plain t = x := ⟨_, rfl⟩
  obtain ⟨pl, hpl⟩ : ∃ x, Fl.plain l = x := ⟨_, rfl⟩
  rw [hpt] at hr HP1
  rw [hpl] at hr HP2
  have hadd : ∀ w, (binOp .add 24 (.float .f64 pt) (.float .f64 pl)).run Tryd.prog w = .ok (.float .f64 rr) w := fun w => run_float_arith w .add 24 .f64 pt pl rr hr
  rw [h] at HA
  rw [h4] at HD1
  rw [h5] at HD2
  subst h3
  clear hpt hpl hr
  have HA := Lib.hid HA
  have HD1 := Lib.hid HD1
  have HD2 := Lib.hid HD2
  have kb := Kp.trans (kp_alloc w (.cells #[.int .i64 an, .int .i64 aw] 23)) (kp_alloc (w.alloc (.cells #[.int .i64 an, .int .i64 aw] 23)) (.cells #[.int .i64 0, .int .i64 0, .int .i64 0, .int .i64 0, .float .f64 0] 29))
  have ha := new5_0 w (.cells #[.int .i64 an, .int .i64 aw] 23) (.cells #[.int .i64 0, .int .i64 0, .int .i64 0, .int .i64 0, .float .f64 0] 29)
  have hz := new5_1 w (.cells #[.int .i64 an, .int .i64 aw] 23) (.cells #[.int .i64 0, .int .i64 0, .int .i64 0, .int .i64 0, .float .f64 0] 29)
  have KB := Lib.hid kb
  have HAc := Lib.hid ha
  have HZ := Lib.hid hz
  clear kb ha hz
  have hsf := store_fl
  go_enter Tryd.func9, Tryd.ntmps9
  go_wp2_with (first
    | (go_at_call 27; (with_reducible refine (HA.out _).mono ?_); rintro e w1 ⟨rfl, hk⟩; have KK := Lib.hid (Kp.trans KB.out hk); have Z1 := Lib.hid (kp_row hk HZ.out); have A1 := Lib.hid (kp_row hk HAc.out); obtain ⟨z0, z1, z2, z3, z4⟩ := cells5 (Z1.out); have fz := froz5 Z1.out; have a0 := two9_0 A1.out; have a1 := two9_1 A1.out; clear hk)
    | (go_at_call 28; (with_reducible refine (HD1.out _).mono ?_); rintro e w' ⟨rfl, rfl⟩)
    | (go_at_call 28; (with_reducible refine (HD2.out _).mono ?_); rintro e w' ⟨rfl, rfl⟩))
  have NAB : w.heap.size ≠ w.heap.size + 1 := by omega
  clear HA HD1 HD2 HAc HZ KB
  refine wp_region_held_drew (S := fun w' => KbX (w.heap.size + 1) w1 w') (by kernel_rfl) ?_ (fun hHeld => ?_)
  · exact (KbX.refl _ w1).drew
  refine wpAnyH_take (i := 0) (v := ?_) rfl (by kernel_rfl) (by kernel_rfl) (by kernel_rfl) (fun _ _ _ h => h) (Or.inl ⟨by rfl, ?_⟩) (by assumption) ?_
  rotate_left
  · intro w hSw; have qa0 := kbx_cell hSw NAB a0; have qa1 := kbx_cell hSw NAB a1; go_simp; try with_reducible rfl
  go_simp
  refine wpAnyH_take (i := 1) (v := ?_) rfl (by kernel_rfl) (by kernel_rfl) (by kernel_rfl) (fun _ _ _ h => h) (Or.inl ⟨by rfl, ?_⟩) (by assumption) ?_
  rotate_left
  · intro w hSw; go_simp; try with_reducible rfl
  go_simp
  refine wpAnyH_take (i := 2) (v := ?_) rfl (by kernel_rfl) (by kernel_rfl) (by kernel_rfl) (fun _ _ _ h => h) (Or.inl ⟨by rfl, ?_⟩) (by assumption) ?_
  rotate_left
  · intro w hSw; go_simp; try with_reducible rfl
  go_simp
  refine wpAnyH_take (i := 4) (v := ?_) rfl (by kernel_rfl) (by kernel_rfl) (by kernel_rfl) (fun _ _ _ h => h) (Or.inl ⟨by rfl, ?_⟩) (by assumption) ?_
  rotate_left
  · intro w hSw; go_simp; try with_reducible rfl
  go_simp
  refine wpAnyH_ready (rs := [3]) (by kernel_rfl) (by simp) ?_
  refine AllReadyH.cons rfl (fun K hK => ?_) AllReadyH.nil
  go_simp
  go_wp2_with (go_at_call 29; (with_reducible refine (HP1.out _).mono ?_); rintro e w' ⟨rfl, rfl⟩)
  refine hK.out _ _ ?_ (fun hHeld => ?_)
  · exact hHeld
  clear hK K
  refine wpAnyH_ready (rs := [5]) (by kernel_rfl) (by simp) ?_
  refine AllReadyH.cons rfl (fun K hK => ?_) AllReadyH.nil
  go_simp
  go_wp2_with (go_at_call 29; (with_reducible refine (HP2.out _).mono ?_); rintro e w' ⟨rfl, rfl⟩)
  refine hK.out _ _ ?_ (fun hHeld => ?_)
  · exact hHeld
  clear hK K
  refine wpAnyH_take (i := 6) (v := ?_) rfl (by kernel_rfl) (by kernel_rfl) (by kernel_rfl) (fun _ _ _ h => h) (Or.inl ⟨by rfl, ?_⟩) (by assumption) ?_
  rotate_left
  · intro w hSw; have qq := hadd; go_simp; try with_reducible rfl
  go_simp
  refine wpAnyH_take (i := 7) (v := ?_) rfl (by kernel_rfl) (by kernel_rfl) (by kernel_rfl) (fun _ _ _ h => h) (Or.inl ⟨by rfl, ?_⟩) (by assumption) ?_
  rotate_left
  · intro w hSw; go_simp; try with_reducible rfl
  go_simp
  refine wpAnyH_ready (rs := [8]) (by kernel_rfl) (by simp) ?_
  refine AllReadyH.cons rfl (fun K hK => ?_) AllReadyH.nil
  go_simp
  refine hK.out _ _ ?_ (fun hHeld => ?_)
  · exact ((((((KbX.refl _ w1).drew.set _ _).set _ _).set _ _).set _ _).set _ _)
  clear hK K
  refine wpAnyH_take (i := 9) (v := ?_) rfl (by kernel_rfl) (by kernel_rfl) (by kernel_rfl) (fun _ _ _ h => h) (Or.inl ⟨by rfl, ?_⟩) (by assumption) ?_
  rotate_left
  · intro w hSw; go_simp; try with_reducible rfl
  go_simp
  refine wpAnyH_done (by kernel_rfl) ?_ _
  go_wp2
  have hz5 := set5 (w := w1.drew) (.int .i64 an) (.int .i64 aw) (.int .i64 1) (.int .i64 0) (.float .f64 rr) Z1.out
  refine bodyPost_ret (results_row_tmp9 (p := 8) (u := 9) rfl _ _ (w.heap.size + 1) 29 _ (0, 0) _ rfl hz5 Tryd.underlying29 rfl (by kernel_rfl)) rfl ?_
  exact ⟨rfl, set5_kp KK.out.drew (by omega) _ _ _ _ _⟩
set_option maxRecDepth 100000 in
set_option maxHeartbeats 4000000 in
theorem refNew9_t2 (an aw oc : Int) (t l : Nat) (ht : t < 18446744073709551616) (hl : l < 18446744073709551616) (w : World) (h : rightA an aw = true) (h3 : oc = 2) (h4 : Fl.dl t = false) :
    Calls Tryd.prog 9 #[.agg #[.int .i64 an, .int .i64 aw], .int .i64 oc, .float .f64 t, .float .f64 l] w fun e w' => e = .returned (.tuple #[.agg #[.int .i64 0, .int .i64 0, .int .i64 0, .int .i64 0, .float .f64 0], .int .i64 4]) ∧ Kp w w' := by
  have HA := fun w1 => refRight_any an aw w1
  have HD1 := fun w1 => refDelay_any t w1 ht
  have HD2 := fun w1 => refDelay_any l w1 hl
  rw [h] at HA
  rw [h4] at HD1
  subst h3
  have HA := Lib.hid HA
  have HD1 := Lib.hid HD1
  have HD2 := Lib.hid HD2
  have kb := Kp.trans (kp_alloc w (.cells #[.int .i64 an, .int .i64 aw] 23)) (kp_alloc (w.alloc (.cells #[.int .i64 an, .int .i64 aw] 23)) (.cells #[.int .i64 0, .int .i64 0, .int .i64 0, .int .i64 0, .float .f64 0] 29))
  have ha := new5_0 w (.cells #[.int .i64 an, .int .i64 aw] 23) (.cells #[.int .i64 0, .int .i64 0, .int .i64 0, .int .i64 0, .float .f64 0] 29)
  have hz := new5_1 w (.cells #[.int .i64 an, .int .i64 aw] 23) (.cells #[.int .i64 0, .int .i64 0, .int .i64 0, .int .i64 0, .float .f64 0] 29)
  have KB := Lib.hid kb
  have HAc := Lib.hid ha
  have HZ := Lib.hid hz
  clear kb ha hz
  have hsf := store_fl
  go_enter Tryd.func9, Tryd.ntmps9
  go_wp2_with (first
    | (go_at_call 27; (with_reducible refine (HA.out _).mono ?_); rintro e w1 ⟨rfl, hk⟩; have KK := Lib.hid (Kp.trans KB.out hk); have Z1 := Lib.hid (kp_row hk HZ.out); have A1 := Lib.hid (kp_row hk HAc.out); obtain ⟨z0, z1, z2, z3, z4⟩ := cells5 (Z1.out); have fz := froz5 Z1.out; have a0 := two9_0 A1.out; have a1 := two9_1 A1.out; clear hk)
    | (go_at_call 28; (with_reducible refine (HD1.out _).mono ?_); rintro e w' ⟨rfl, rfl⟩)
    | (go_at_call 28; (with_reducible refine (HD2.out _).mono ?_); rintro e w' ⟨rfl, rfl⟩))
  have hz5 := set5 (.int .i64 0) (.int .i64 0) (.int .i64 0) (.int .i64 0) (.float .f64 0) Z1.out
  refine bodyPost_ret (results_row_tmp9 (p := 8) (u := 9) rfl _ _ (w.heap.size + 1) 29 _ (0, 0) _ rfl hz5 Tryd.underlying29 rfl (by kernel_rfl)) rfl ?_
  exact ⟨rfl, set5_kp KK.out (by omega) _ _ _ _ _⟩
set_option maxRecDepth 100000 in
set_option maxHeartbeats 4000000 in
theorem refNew9_l2 (an aw oc : Int) (t l : Nat) (ht : t < 18446744073709551616) (hl : l < 18446744073709551616) (w : World) (h : rightA an aw = true) (h3 : oc = 2) (h4 : Fl.dl t = true) (h5 : Fl.dl l = false) :
    Calls Tryd.prog 9 #[.agg #[.int .i64 an, .int .i64 aw], .int .i64 oc, .float .f64 t, .float .f64 l] w fun e w' => e = .returned (.tuple #[.agg #[.int .i64 0, .int .i64 0, .int .i64 0, .int .i64 0, .float .f64 0], .int .i64 4]) ∧ Kp w w' := by
  have HA := fun w1 => refRight_any an aw w1
  have HD1 := fun w1 => refDelay_any t w1 ht
  have HD2 := fun w1 => refDelay_any l w1 hl
  rw [h] at HA
  rw [h4] at HD1
  rw [h5] at HD2
  subst h3
  have HA := Lib.hid HA
  have HD1 := Lib.hid HD1
  have HD2 := Lib.hid HD2
  have kb := Kp.trans (kp_alloc w (.cells #[.int .i64 an, .int .i64 aw] 23)) (kp_alloc (w.alloc (.cells #[.int .i64 an, .int .i64 aw] 23)) (.cells #[.int .i64 0, .int .i64 0, .int .i64 0, .int .i64 0, .float .f64 0] 29))
  have ha := new5_0 w (.cells #[.int .i64 an, .int .i64 aw] 23) (.cells #[.int .i64 0, .int .i64 0, .int .i64 0, .int .i64 0, .float .f64 0] 29)
  have hz := new5_1 w (.cells #[.int .i64 an, .int .i64 aw] 23) (.cells #[.int .i64 0, .int .i64 0, .int .i64 0, .int .i64 0, .float .f64 0] 29)
  have KB := Lib.hid kb
  have HAc := Lib.hid ha
  have HZ := Lib.hid hz
  clear kb ha hz
  have hsf := store_fl
  go_enter Tryd.func9, Tryd.ntmps9
  go_wp2_with (first
    | (go_at_call 27; (with_reducible refine (HA.out _).mono ?_); rintro e w1 ⟨rfl, hk⟩; have KK := Lib.hid (Kp.trans KB.out hk); have Z1 := Lib.hid (kp_row hk HZ.out); have A1 := Lib.hid (kp_row hk HAc.out); obtain ⟨z0, z1, z2, z3, z4⟩ := cells5 (Z1.out); have fz := froz5 Z1.out; have a0 := two9_0 A1.out; have a1 := two9_1 A1.out; clear hk)
    | (go_at_call 28; (with_reducible refine (HD1.out _).mono ?_); rintro e w' ⟨rfl, rfl⟩)
    | (go_at_call 28; (with_reducible refine (HD2.out _).mono ?_); rintro e w' ⟨rfl, rfl⟩))
  have hz5 := set5 (.int .i64 0) (.int .i64 0) (.int .i64 0) (.int .i64 0) (.float .f64 0) Z1.out
  refine bodyPost_ret (results_row_tmp9 (p := 8) (u := 9) rfl _ _ (w.heap.size + 1) 29 _ (0, 0) _ rfl hz5 Tryd.underlying29 rfl (by kernel_rfl)) rfl ?_
  exact ⟨rfl, set5_kp KK.out (by omega) _ _ _ _ _⟩
set_option maxRecDepth 100000 in
set_option maxHeartbeats 4000000 in
theorem refNew9_ok2 (an aw oc : Int) (t l : Nat) (ht : t < 18446744073709551616) (hl : l < 18446744073709551616) (w : World) (h : rightA an aw = true) (h3 : oc = 2) (h4 : Fl.dl t = true) (h5 : Fl.dl l = true) (rr : Nat) (hr : Ieee.double.add (Fl.plain t) (Fl.plain l) = some rr) :
    Calls Tryd.prog 9 #[.agg #[.int .i64 an, .int .i64 aw], .int .i64 oc, .float .f64 t, .float .f64 l] w fun e w' => e = .returned (.tuple #[.agg #[.int .i64 an, .int .i64 aw, .int .i64 2, .int .i64 0, .float .f64 rr], .int .i64 0]) ∧ Kp w w' := by
  have HA := fun w1 => refRight_any an aw w1
  have HD1 := fun w1 => refDelay_any t w1 ht
  have HD2 := fun w1 => refDelay_any l w1 hl
  have HP1 := Lib.hid (fun w1 => refPlain_any t w1 ht)
  have HP2 := Lib.hid (fun w1 => refPlain_any l w1 hl)
  obtain ⟨pt, hpt⟩ : ∃ x, Fl.plain t = x := ⟨_, rfl⟩
  obtain ⟨pl, hpl⟩ : ∃ x, Fl.plain l = x := ⟨_, rfl⟩
  rw [hpt] at hr HP1
  rw [hpl] at hr HP2
  have hadd : ∀ w, (binOp .add 24 (.float .f64 pt) (.float .f64 pl)).run Tryd.prog w = .ok (.float .f64 rr) w := fun w => run_float_arith w .add 24 .f64 pt pl rr hr
  rw [h] at HA
  rw [h4] at HD1
  rw [h5] at HD2
  subst h3
  clear hpt hpl hr
  have HA := Lib.hid HA
  have HD1 := Lib.hid HD1
  have HD2 := Lib.hid HD2
  have kb := Kp.trans (kp_alloc w (.cells #[.int .i64 an, .int .i64 aw] 23)) (kp_alloc (w.alloc (.cells #[.int .i64 an, .int .i64 aw] 23)) (.cells #[.int .i64 0, .int .i64 0, .int .i64 0, .int .i64 0, .float .f64 0] 29))
  have ha := new5_0 w (.cells #[.int .i64 an, .int .i64 aw] 23) (.cells #[.int .i64 0, .int .i64 0, .int .i64 0, .int .i64 0, .float .f64 0] 29)
  have hz := new5_1 w (.cells #[.int .i64 an, .int .i64 aw] 23) (.cells #[.int .i64 0, .int .i64 0, .int .i64 0, .int .i64 0, .float .f64 0] 29)
  have KB := Lib.hid kb
  have HAc := Lib.hid ha
  have HZ := Lib.hid hz
  clear kb ha hz
  have hsf := store_fl
  go_enter Tryd.func9, Tryd.ntmps9
  go_wp2_with (first
    | (go_at_call 27; (with_reducible refine (HA.out _).mono ?_); rintro e w1 ⟨rfl, hk⟩; have KK := Lib.hid (Kp.trans KB.out hk); have Z1 := Lib.hid (kp_row hk HZ.out); have A1 := Lib.hid (kp_row hk HAc.out); obtain ⟨z0, z1, z2, z3, z4⟩ := cells5 (Z1.out); have fz := froz5 Z1.out; have a0 := two9_0 A1.out; have a1 := two9_1 A1.out; clear hk)
    | (go_at_call 28; (with_reducible refine (HD1.out _).mono ?_); rintro e w' ⟨rfl, rfl⟩)
    | (go_at_call 28; (with_reducible refine (HD2.out _).mono ?_); rintro e w' ⟨rfl, rfl⟩))
  have NAB : w.heap.size ≠ w.heap.size + 1 := by omega
  clear HA HD1 HD2 HAc HZ KB
  refine wp_region_held_drew (S := fun w' => KbX (w.heap.size + 1) w1 w') (by kernel_rfl) ?_ (fun hHeld => ?_)
  · exact (KbX.refl _ w1).drew
  refine wpAnyH_take (i := 0) (v := ?_) rfl (by kernel_rfl) (by kernel_rfl) (by kernel_rfl) (fun _ _ _ h => h) (Or.inl ⟨by rfl, ?_⟩) (by assumption) ?_
  rotate_left
  · intro w hSw; have qa0 := kbx_cell hSw NAB a0; have qa1 := kbx_cell hSw NAB a1; go_simp; try with_reducible rfl
  go_simp
  refine wpAnyH_take (i := 1) (v := ?_) rfl (by kernel_rfl) (by kernel_rfl) (by kernel_rfl) (fun _ _ _ h => h) (Or.inl ⟨by rfl, ?_⟩) (by assumption) ?_
  rotate_left
  · intro w hSw; go_simp; try with_reducible rfl
  go_simp
  refine wpAnyH_take (i := 2) (v := ?_) rfl (by kernel_rfl) (by kernel_rfl) (by kernel_rfl) (fun _ _ _ h => h) (Or.inl ⟨by rfl, ?_⟩) (by assumption) ?_
  rotate_left
  · intro w hSw; go_simp; try with_reducible rfl
  go_simp
  refine wpAnyH_take (i := 4) (v := ?_) rfl (by kernel_rfl) (by kernel_rfl) (by kernel_rfl) (fun _ _ _ h => h) (Or.inl ⟨by rfl, ?_⟩) (by assumption) ?_
  rotate_left
  · intro w hSw; go_simp; try with_reducible rfl
  go_simp
  refine wpAnyH_ready (rs := [3]) (by kernel_rfl) (by simp) ?_
  refine AllReadyH.cons rfl (fun K hK => ?_) AllReadyH.nil
  go_simp
  go_wp2_with (go_at_call 29; (with_reducible refine (HP1.out _).mono ?_); rintro e w' ⟨rfl, rfl⟩)
  refine hK.out _ _ ?_ (fun hHeld => ?_)
  · exact hHeld
  clear hK K
  refine wpAnyH_ready (rs := [5]) (by kernel_rfl) (by simp) ?_
  refine AllReadyH.cons rfl (fun K hK => ?_) AllReadyH.nil
  go_simp
  go_wp2_with (go_at_call 29; (with_reducible refine (HP2.out _).mono ?_); rintro e w' ⟨rfl, rfl⟩)
  refine hK.out _ _ ?_ (fun hHeld => ?_)
  · exact hHeld
  clear hK K
  refine wpAnyH_take (i := 6) (v := ?_) rfl (by kernel_rfl) (by kernel_rfl) (by kernel_rfl) (fun _ _ _ h => h) (Or.inl ⟨by rfl, ?_⟩) (by assumption) ?_
  rotate_left
  · intro w hSw; have qq := hadd; go_simp; try with_reducible rfl
  go_simp
  refine wpAnyH_take (i := 7) (v := ?_) rfl (by kernel_rfl) (by kernel_rfl) (by kernel_rfl) (fun _ _ _ h => h) (Or.inl ⟨by rfl, ?_⟩) (by assumption) ?_
  rotate_left
  · intro w hSw; go_simp; try with_reducible rfl
  go_simp
  refine wpAnyH_ready (rs := [8]) (by kernel_rfl) (by simp) ?_
  refine AllReadyH.cons rfl (fun K hK => ?_) AllReadyH.nil
  go_simp
  refine hK.out _ _ ?_ (fun hHeld => ?_)
  · exact ((((((KbX.refl _ w1).drew.set _ _).set _ _).set _ _).set _ _).set _ _)
  clear hK K
  refine wpAnyH_take (i := 9) (v := ?_) rfl (by kernel_rfl) (by kernel_rfl) (by kernel_rfl) (fun _ _ _ h => h) (Or.inl ⟨by rfl, ?_⟩) (by assumption) ?_
  rotate_left
  · intro w hSw; go_simp; try with_reducible rfl
  go_simp
  refine wpAnyH_done (by kernel_rfl) ?_ _
  go_wp2
  have hz5 := set5 (w := w1.drew) (.int .i64 an) (.int .i64 aw) (.int .i64 2) (.int .i64 0) (.float .f64 rr) Z1.out
  refine bodyPost_ret (results_row_tmp9 (p := 8) (u := 9) rfl _ _ (w.heap.size + 1) 29 _ (0, 0) _ rfl hz5 Tryd.underlying29 rfl (by kernel_rfl)) rfl ?_
  exact ⟨rfl, set5_kp KK.out.drew (by omega) _ _ _ _ _⟩

theorem add_plain9 {t l : Nat} (h4 : Fl.dl t = true) (h5 : Fl.dl l = true) : ∃ r, Ieee.double.add (Fl.plain t) (Fl.plain l) = some r ∧ Fl.dl r = true := by
  obtain ⟨r, h1, h2, _⟩ := Fl.add_delay (Fl.dl_of_le (Fl.dl_plain h4).1).1 (Fl.dl_of_le (Fl.dl_plain h5).1).1
  exact ⟨r, h1, h2⟩
theorem refNew9_any (an aw oc : Int) (t l : Nat) (ht : t < 18446744073709551616) (hl : l < 18446744073709551616) (w : World) :
    Calls Tryd.prog 9 #[.agg #[.int .i64 an, .int .i64 aw], .int .i64 oc, .float .f64 t, .float .f64 l] w fun e w' => e = .returned (.tuple #[.agg (newX an aw oc t l).2.cells, .int .i64 (newX an aw oc t l).1]) ∧ Kp w w' := by
  unfold newX
  cases h : rightA an aw with
  | false => rw [if_pos rfl]; exact refNew9_range an aw oc t l ht hl w h
  | true =>
    rw [if_neg (by decide)]
    by_cases ho : oc = 1 ∨ oc = 2
    · have hox : outX oc = true := decide_eq_true ho
      cases h4 : Fl.dl t with
      | false =>
        rw [if_pos (.inr (.inl rfl))]
        rcases ho with rfl | rfl
        · exact refNew9_t1 an aw 1 t l ht hl w h rfl h4
        · exact refNew9_t2 an aw 2 t l ht hl w h rfl h4
      | true =>
        cases h5 : Fl.dl l with
        | false =>
          rw [if_pos (.inr (.inr rfl))]
          rcases ho with rfl | rfl
          · exact refNew9_l1 an aw 1 t l ht hl w h rfl h4 h5
          · exact refNew9_l2 an aw 2 t l ht hl w h rfl h4 h5
        | true =>
          rw [if_neg (by rw [hox]; simp)]
          obtain ⟨rr, hr, _⟩ := add_plain9 h4 h5
          rw [hr]
          rcases ho with rfl | rfl
          · exact refNew9_ok1 an aw 1 t l ht hl w h rfl h4 h5 rr hr
          · exact refNew9_ok2 an aw 2 t l ht hl w h rfl h4 h5 rr hr
    · rw [if_pos (.inl (show outX oc = false from decide_eq_false ho))]
      exact refNew9_out an aw oc t l ht hl w h ho
end Go.Proofs.YtldamfpoemgkpaaDoor
