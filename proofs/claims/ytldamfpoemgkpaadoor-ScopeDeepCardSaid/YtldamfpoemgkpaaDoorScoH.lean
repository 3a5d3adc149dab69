/-
  PACKAGE scope (own work): Child.
-/
import Derived.Test.YtldamfpoemgkpaaDoorScoN
import Derived.Test.YtldamfpoemgkpaaDoorTryC
namespace Go.Proofs.YtldamfpoemgkpaaDoor
open Go.RowKit Go.ChangeShapes Go.WideShapes

set_option maxRecDepth 100000 in
set_option maxHeartbeats 2000000 in
theorem schild1_c (ads : List Addr) (h3 : 3 < ads.length) (B A : Nat) (p2 : Addr) (n s o d : Int) (x : Nat) (an aw oc : Int) (w : World) (V : St ads w) (T : Tab w) (hx : x < 18446744073709551616) (hb : w.heap[B]? = some (.cells #[.int .i64 n, .int .i64 s, .int .i64 o, .int .i64 d, .float .f64 x] 29 (0, 0))) (ha : w.heap[A]? = some (.cells #[.int .i64 an, .int .i64 aw] 23 (0, 0))) (h2 : w.cell? p2 = some (.int .i64 oc)) (hc : rightX ⟨n, s, o, d, x⟩ = false) :
    Calls Tryd.prog 35 #[.pointer (some ⟨B, 0, none⟩), .pointer (some ⟨A, 0, none⟩), .pointer (some p2)] w fun e w' => e = .panicked [{ v := snt (ads[3]'h3), recovered := false }] ∧ Kp w w' := by
  have c3 : w.cell? ⟨3, 0, none⟩ = some (snt (ads[3]'h3)) := V.cell 3 (by decide)
  have HR := fun w1 (hk : Kp w w1) => scoRight_any ads ⟨n, s, o, d, x⟩ hx w1 (V.below hk) (T.kp hk)
  simp only [hc] at HR
  obtain ⟨a3, ha3⟩ : ∃ a, ads[3]'(by omega) = a := ⟨_, rfl⟩
  rw [ha3] at c3 ⊢
  have kb := kp_alloc w (.cells #[.int .i64 0, .int .i64 0, .int .i64 0, .int .i64 0, .float .f64 0] 29)
  have CE := Lib.hid (kp_cell kb c3)
  have RB := Lib.hid (kp_row kb hb)
  have RA := Lib.hid (kp_row kb ha)
  have Q2 := Lib.hid (kp_cell kb h2)
  have HZ := Lib.hid (MapKept.heap_alloc w (.cells #[.int .i64 0, .int .i64 0, .int .i64 0, .int .i64 0, .float .f64 0] 29)).1
  have HR := Lib.hid HR
  have K0 := Lib.hid kb
  clear V T ha hb h2 c3 kb
  dsimp only [CX.cells] at HR
  go_enter Tryd.func35, Tryd.ntmps35
  go_wp2
  obtain ⟨w0, hw0⟩ : ∃ y, w.alloc (.cells #[.int .i64 0, .int .i64 0, .int .i64 0, .int .i64 0, .float .f64 0] 29) = y := ⟨_, rfl⟩
  rw [hw0] at K0 CE RB RA Q2 HZ ⊢
  clear hw0
  refine wp_region_held_drew (S := fun w' => Kp w0 w') (by kernel_rfl) ?_ (fun hHeld => ?_)
  · exact (Kp.refl w0).drew
  refine wpAnyH_take (i := 0) (v := ?_) rfl (by kernel_rfl) (by kernel_rfl) (by kernel_rfl) (fun _ _ _ h => h) (Or.inl ⟨by rfl, ?_⟩) (by assumption) ?_
  rotate_left
  · intro w hSw; obtain ⟨q0, q1, q2, q3, q4⟩ := cells5 (kp_row hSw RB.out); go_simp; try with_reducible rfl
  go_simp
  refine wpAnyH_take (i := 2) (v := ?_) rfl (by kernel_rfl) (by kernel_rfl) (by kernel_rfl) (fun _ _ _ h => h) (Or.inl ⟨by rfl, ?_⟩) (by assumption) ?_
  rotate_left
  · intro w hSw; have q := kp_cell hSw CE.out; go_simp; try with_reducible rfl
  go_simp
  refine wpAnyH_ready (rs := [1]) (by kernel_rfl) (by simp) ?_
  refine AllReadyH.cons rfl (fun K hK => ?_) AllReadyH.nil
  go_simp
  go_wp2_with (go_at_call 12; (with_reducible refine (HR.out _ (Kp.trans K0.out hHeld)).mono ?_); rintro e w4 ⟨rfl, hk4⟩; have K4 := Lib.hid (Kp.trans hHeld hk4); clear hk4)
  refine hK.out _ _ ?_ (fun hHeld => ?_)
  · exact K4.out
  clear hK K
  refine wpAnyH_ready (rs := [3]) (by kernel_rfl) (by simp) ?_
  refine AllReadyH.cons rfl (fun K hK => ?_) AllReadyH.nil
  go_simp
  go_wp2_with (go_at_call 36; (with_reducible refine (sdemand_f _ _).mono ?_); rintro e w' ⟨rfl, rfl⟩)
  exact ⟨rfl, rfl, Kp.trans K0.out hHeld⟩
set_option maxRecDepth 100000 in
set_option maxHeartbeats 2000000 in
theorem schild1_range (ads : List Addr) (h3 : 3 < ads.length) (B A : Nat) (p2 : Addr) (n s o d : Int) (x : Nat) (an aw oc : Int) (w : World) (V : St ads w) (T : Tab w) (hx : x < 18446744073709551616) (hb : w.heap[B]? = some (.cells #[.int .i64 n, .int .i64 s, .int .i64 o, .int .i64 d, .float .f64 x] 29 (0, 0))) (ha : w.heap[A]? = some (.cells #[.int .i64 an, .int .i64 aw] 23 (0, 0))) (h2 : w.cell? p2 = some (.int .i64 oc)) (hc : rightX ⟨n, s, o, d, x⟩ = true) (hr : rightA an aw = false) :
    Calls Tryd.prog 35 #[.pointer (some ⟨B, 0, none⟩), .pointer (some ⟨A, 0, none⟩), .pointer (some p2)] w fun e w' => e = .panicked [{ v := snt (ads[0]'(by omega)), recovered := false }] ∧ Kp w w' := by
  have c3 : w.cell? ⟨3, 0, none⟩ = some (snt (ads[3]'h3)) := V.cell 3 (by decide)
  have HR := fun w1 (hk : Kp w w1) => scoRight_any ads ⟨n, s, o, d, x⟩ hx w1 (V.below hk) (T.kp hk)
  simp only [hc] at HR
  have HA := fun w1 (hk : Kp w w1) => sact_range ads h3 an aw oc w1 (V.below hk) (T.kp hk) hr
  obtain ⟨a0, ha0⟩ : ∃ a, ads[0]'(by omega) = a := ⟨_, rfl⟩
  obtain ⟨a3, ha3⟩ : ∃ a, ads[3]'(by omega) = a := ⟨_, rfl⟩
  rw [ha3] at c3
  simp only [ha0] at HA
  rw [ha0]
  have kb := kp_alloc w (.cells #[.int .i64 0, .int .i64 0, .int .i64 0, .int .i64 0, .float .f64 0] 29)
  have CE := Lib.hid (kp_cell kb c3)
  have RB := Lib.hid (kp_row kb hb)
  have RA := Lib.hid (kp_row kb ha)
  have Q2 := Lib.hid (kp_cell kb h2)
  have HZ := Lib.hid (MapKept.heap_alloc w (.cells #[.int .i64 0, .int .i64 0, .int .i64 0, .int .i64 0, .float .f64 0] 29)).1
  have HR := Lib.hid HR
  have HA := Lib.hid HA
  have K0 := Lib.hid kb
  clear V T ha hb h2 c3 kb
  dsimp only [CX.cells] at HR
  go_enter Tryd.func35, Tryd.ntmps35
  go_wp2
  obtain ⟨w0, hw0⟩ : ∃ y, w.alloc (.cells #[.int .i64 0, .int .i64 0, .int .i64 0, .int .i64 0, .float .f64 0] 29) = y := ⟨_, rfl⟩
  rw [hw0] at K0 CE RB RA Q2 HZ ⊢
  clear hw0
  refine wp_region_held_drew (S := fun w' => Kp w0 w') (by kernel_rfl) ?_ (fun hHeld => ?_)
  · exact (Kp.refl w0).drew
  refine wpAnyH_take (i := 0) (v := ?_) rfl (by kernel_rfl) (by kernel_rfl) (by kernel_rfl) (fun _ _ _ h => h) (Or.inl ⟨by rfl, ?_⟩) (by assumption) ?_
  rotate_left
  · intro w hSw; obtain ⟨q0, q1, q2, q3, q4⟩ := cells5 (kp_row hSw RB.out); go_simp; try with_reducible rfl
  go_simp
  refine wpAnyH_take (i := 2) (v := ?_) rfl (by kernel_rfl) (by kernel_rfl) (by kernel_rfl) (fun _ _ _ h => h) (Or.inl ⟨by rfl, ?_⟩) (by assumption) ?_
  rotate_left
  · intro w hSw; have q := kp_cell hSw CE.out; go_simp; try with_reducible rfl
  go_simp
  refine wpAnyH_ready (rs := [1]) (by kernel_rfl) (by simp) ?_
  refine AllReadyH.cons rfl (fun K hK => ?_) AllReadyH.nil
  go_simp
  go_wp2_with (go_at_call 12; (with_reducible refine (HR.out _ (Kp.trans K0.out hHeld)).mono ?_); rintro e w4 ⟨rfl, hk4⟩; have K4 := Lib.hid (Kp.trans hHeld hk4); clear hk4)
  refine hK.out _ _ ?_ (fun hHeld => ?_)
  · exact K4.out
  clear hK K
  refine wpAnyH_ready (rs := [3]) (by kernel_rfl) (by simp) ?_
  refine AllReadyH.cons rfl (fun K hK => ?_) AllReadyH.nil
  go_simp
  go_wp2_with ((go_at_call 36; (with_reducible refine (sdemand_t _ _).mono ?_); rintro e w' ⟨rfl, rfl⟩))
  refine hK.out _ _ ?_ (fun hHeld => ?_)
  · exact hHeld
  clear hK K
  refine wpAnyH_done (by kernel_rfl) ?_ _
  have r1 := kp_row K4.out RA.out
  obtain ⟨g0, g1⟩ := two_cells r1
  have z2 := kp_cell K4.out Q2.out
  clear r1
  go_wp2_with ((go_at_call 23; (with_reducible refine (HA.out _ (Kp.trans K0.out K4.out)).mono ?_); rintro e w5 ⟨rfl, hk⟩; have K5 := Lib.hid (Kp.trans K4.out hk); clear hk))
  exact ⟨rfl, rfl, Kp.trans K0.out K5.out⟩
set_option maxRecDepth 100000 in
set_option maxHeartbeats 2000000 in
theorem schild1_form (ads : List Addr) (h3 : 3 < ads.length) (B A : Nat) (p2 : Addr) (n s o d : Int) (x : Nat) (an aw oc : Int) (w : World) (V : St ads w) (T : Tab w) (hx : x < 18446744073709551616) (hb : w.heap[B]? = some (.cells #[.int .i64 n, .int .i64 s, .int .i64 o, .int .i64 d, .float .f64 x] 29 (0, 0))) (ha : w.heap[A]? = some (.cells #[.int .i64 an, .int .i64 aw] 23 (0, 0))) (h2 : w.cell? p2 = some (.int .i64 oc)) (hc : rightX ⟨n, s, o, d, x⟩ = true) (hr : rightA an aw = true) (ho : outX oc = false) :
    Calls Tryd.prog 35 #[.pointer (some ⟨B, 0, none⟩), .pointer (some ⟨A, 0, none⟩), .pointer (some p2)] w fun e w' => e = .panicked [{ v := snt (ads[3]'h3), recovered := false }] ∧ Kp w w' := by
  have c3 : w.cell? ⟨3, 0, none⟩ = some (snt (ads[3]'h3)) := V.cell 3 (by decide)
  have HR := fun w1 (hk : Kp w w1) => scoRight_any ads ⟨n, s, o, d, x⟩ hx w1 (V.below hk) (T.kp hk)
  simp only [hc] at HR
  have HA := fun w1 (hk : Kp w w1) => sact_form ads h3 an aw oc w1 (V.below hk) (T.kp hk) hr ho
  obtain ⟨a3, ha3⟩ : ∃ a, ads[3]'(by omega) = a := ⟨_, rfl⟩
  rw [ha3] at c3
  simp only [ha3] at HA
  rw [ha3]
  have kb := kp_alloc w (.cells #[.int .i64 0, .int .i64 0, .int .i64 0, .int .i64 0, .float .f64 0] 29)
  have CE := Lib.hid (kp_cell kb c3)
  have RB := Lib.hid (kp_row kb hb)
  have RA := Lib.hid (kp_row kb ha)
  have Q2 := Lib.hid (kp_cell kb h2)
  have HZ := Lib.hid (MapKept.heap_alloc w (.cells #[.int .i64 0, .int .i64 0, .int .i64 0, .int .i64 0, .float .f64 0] 29)).1
  have HR := Lib.hid HR
  have HA := Lib.hid HA
  have K0 := Lib.hid kb
  clear V T ha hb h2 c3 kb
  dsimp only [CX.cells] at HR
  go_enter Tryd.func35, Tryd.ntmps35
  go_wp2
  obtain ⟨w0, hw0⟩ : ∃ y, w.alloc (.cells #[.int .i64 0, .int .i64 0, .int .i64 0, .int .i64 0, .float .f64 0] 29) = y := ⟨_, rfl⟩
  rw [hw0] at K0 CE RB RA Q2 HZ ⊢
  clear hw0
  refine wp_region_held_drew (S := fun w' => Kp w0 w') (by kernel_rfl) ?_ (fun hHeld => ?_)
  · exact (Kp.refl w0).drew
  refine wpAnyH_take (i := 0) (v := ?_) rfl (by kernel_rfl) (by kernel_rfl) (by kernel_rfl) (fun _ _ _ h => h) (Or.inl ⟨by rfl, ?_⟩) (by assumption) ?_
  rotate_left
  · intro w hSw; obtain ⟨q0, q1, q2, q3, q4⟩ := cells5 (kp_row hSw RB.out); go_simp; try with_reducible rfl
  go_simp
  refine wpAnyH_take (i := 2) (v := ?_) rfl (by kernel_rfl) (by kernel_rfl) (by kernel_rfl) (fun _ _ _ h => h) (Or.inl ⟨by rfl, ?_⟩) (by assumption) ?_
  rotate_left
  · intro w hSw; have q := kp_cell hSw CE.out; go_simp; try with_reducible rfl
  go_simp
  refine wpAnyH_ready (rs := [1]) (by kernel_rfl) (by simp) ?_
  refine AllReadyH.cons rfl (fun K hK => ?_) AllReadyH.nil
  go_simp
  go_wp2_with (go_at_call 12; (with_reducible refine (HR.out _ (Kp.trans K0.out hHeld)).mono ?_); rintro e w4 ⟨rfl, hk4⟩; have K4 := Lib.hid (Kp.trans hHeld hk4); clear hk4)
  refine hK.out _ _ ?_ (fun hHeld => ?_)
  · exact K4.out
  clear hK K
  refine wpAnyH_ready (rs := [3]) (by kernel_rfl) (by simp) ?_
  refine AllReadyH.cons rfl (fun K hK => ?_) AllReadyH.nil
  go_simp
  go_wp2_with ((go_at_call 36; (with_reducible refine (sdemand_t _ _).mono ?_); rintro e w' ⟨rfl, rfl⟩))
  refine hK.out _ _ ?_ (fun hHeld => ?_)
  · exact hHeld
  clear hK K
  refine wpAnyH_done (by kernel_rfl) ?_ _
  have r1 := kp_row K4.out RA.out
  obtain ⟨g0, g1⟩ := two_cells r1
  have z2 := kp_cell K4.out Q2.out
  clear r1
  go_wp2_with ((go_at_call 23; (with_reducible refine (HA.out _ (Kp.trans K0.out K4.out)).mono ?_); rintro e w5 ⟨rfl, hk⟩; have K5 := Lib.hid (Kp.trans K4.out hk); clear hk))
  exact ⟨rfl, rfl, Kp.trans K0.out K5.out⟩
set_option maxRecDepth 100000 in
set_option maxHeartbeats 2000000 in
theorem schild1_deep (ads : List Addr) (h3 : 3 < ads.length) (h10 : 10 < ads.length) (B A : Nat) (p2 : Addr) (n s o d : Int) (x : Nat) (an aw oc : Int) (w : World) (V : St ads w) (T : Tab w) (hx : x < 18446744073709551616) (hb : w.heap[B]? = some (.cells #[.int .i64 n, .int .i64 s, .int .i64 o, .int .i64 d, .float .f64 x] 29 (0, 0))) (ha : w.heap[A]? = some (.cells #[.int .i64 an, .int .i64 aw] 23 (0, 0))) (h2 : w.cell? p2 = some (.int .i64 oc)) (hc : rightX ⟨n, s, o, d, x⟩ = true) (hr : rightA an aw = true) (ho : outX oc = true) (hd : 2 < d) (hd2 : decide (d < 3) = false) :
    Calls Tryd.prog 35 #[.pointer (some ⟨B, 0, none⟩), .pointer (some ⟨A, 0, none⟩), .pointer (some p2)] w fun e w' => e = .panicked [{ v := snt (ads[10]'h10), recovered := false }] ∧ Kp w w' := by
  have c3 : w.cell? ⟨3, 0, none⟩ = some (snt (ads[3]'h3)) := V.cell 3 (by decide)
  have _u := And.intro hd hd2
  clear _u
  have c10 : w.cell? ⟨10, 0, none⟩ = some (snt (ads[10]'h10)) := V.cell 10 (by decide)
  have HR := fun w1 (hk : Kp w w1) => scoRight_any ads ⟨n, s, o, d, x⟩ hx w1 (V.below hk) (T.kp hk)
  simp only [hc] at HR
  have HA := fun w1 (hk : Kp w w1) => sact_ok ads h3 an aw oc w1 (V.below hk) (T.kp hk) hr ho
  obtain ⟨a3, ha3⟩ : ∃ a, ads[3]'(by omega) = a := ⟨_, rfl⟩
  obtain ⟨a10, ha10⟩ : ∃ a, ads[10]'(by omega) = a := ⟨_, rfl⟩
  rw [ha3] at c3
  rw [ha10] at c10 ⊢
  have kb := kp_alloc w (.cells #[.int .i64 0, .int .i64 0, .int .i64 0, .int .i64 0, .float .f64 0] 29)
  have CE := Lib.hid (kp_cell kb c3)
  have CD := Lib.hid (kp_cell kb c10)
  have RB := Lib.hid (kp_row kb hb)
  have RA := Lib.hid (kp_row kb ha)
  have Q2 := Lib.hid (kp_cell kb h2)
  have HZ := Lib.hid (MapKept.heap_alloc w (.cells #[.int .i64 0, .int .i64 0, .int .i64 0, .int .i64 0, .float .f64 0] 29)).1
  have HR := Lib.hid HR
  have HA := Lib.hid HA
  have K0 := Lib.hid kb
  clear V T ha hb h2 c3 c10 kb
  dsimp only [CX.cells] at HR
  go_enter Tryd.func35, Tryd.ntmps35
  go_wp2
  obtain ⟨w0, hw0⟩ : ∃ y, w.alloc (.cells #[.int .i64 0, .int .i64 0, .int .i64 0, .int .i64 0, .float .f64 0] 29) = y := ⟨_, rfl⟩
  rw [hw0] at K0 CE CD RB RA Q2 HZ ⊢
  clear hw0
  refine wp_region_held_drew (S := fun w' => Kp w0 w') (by kernel_rfl) ?_ (fun hHeld => ?_)
  · exact (Kp.refl w0).drew
  refine wpAnyH_take (i := 0) (v := ?_) rfl (by kernel_rfl) (by kernel_rfl) (by kernel_rfl) (fun _ _ _ h => h) (Or.inl ⟨by rfl, ?_⟩) (by assumption) ?_
  rotate_left
  · intro w hSw; obtain ⟨q0, q1, q2, q3, q4⟩ := cells5 (kp_row hSw RB.out); go_simp; try with_reducible rfl
  go_simp
  refine wpAnyH_take (i := 2) (v := ?_) rfl (by kernel_rfl) (by kernel_rfl) (by kernel_rfl) (fun _ _ _ h => h) (Or.inl ⟨by rfl, ?_⟩) (by assumption) ?_
  rotate_left
  · intro w hSw; have q := kp_cell hSw CE.out; go_simp; try with_reducible rfl
  go_simp
  refine wpAnyH_ready (rs := [1]) (by kernel_rfl) (by simp) ?_
  refine AllReadyH.cons rfl (fun K hK => ?_) AllReadyH.nil
  go_simp
  go_wp2_with (go_at_call 12; (with_reducible refine (HR.out _ (Kp.trans K0.out hHeld)).mono ?_); rintro e w4 ⟨rfl, hk4⟩; have K4 := Lib.hid (Kp.trans hHeld hk4); clear hk4)
  refine hK.out _ _ ?_ (fun hHeld => ?_)
  · exact K4.out
  clear hK K
  refine wpAnyH_ready (rs := [3]) (by kernel_rfl) (by simp) ?_
  refine AllReadyH.cons rfl (fun K hK => ?_) AllReadyH.nil
  go_simp
  go_wp2_with ((go_at_call 36; (with_reducible refine (sdemand_t _ _).mono ?_); rintro e w' ⟨rfl, rfl⟩))
  refine hK.out _ _ ?_ (fun hHeld => ?_)
  · exact hHeld
  clear hK K
  refine wpAnyH_done (by kernel_rfl) ?_ _
  have r1 := kp_row K4.out RA.out
  obtain ⟨g0, g1⟩ := two_cells r1
  have z2 := kp_cell K4.out Q2.out
  clear r1
  go_wp2_with (first | (go_at_call 23; (with_reducible refine (HA.out _ (Kp.trans K0.out K4.out)).mono ?_); rintro e w5 ⟨rfl, hk⟩; have K5 := Lib.hid (Kp.trans K4.out hk); have r5 := kp_row K5.out RB.out; obtain ⟨b0, b1, b2, b3, b4⟩ := cells5 (r5); have r6 := kp_row K5.out RA.out; obtain ⟨f0, f1⟩ := two_cells r6; have z5 := kp_cell K5.out Q2.out; have y10 := kp_cell K5.out CD.out; have r7 := kp_row K5.out HZ.out; obtain ⟨j0, j1, j2, j3, j4⟩ := cells5 (r7); have fz := froz5 r7; have HZ5 := Lib.hid r7; clear hk r5 r6 r7) | (go_at_call 36; (with_reducible refine (sdemand_f _ _).mono ?_); rintro e w' ⟨rfl, rfl⟩))
  exact ⟨rfl, rfl, Kp.trans K0.out K5.out⟩
set_option maxRecDepth 100000 in
set_option maxHeartbeats 2000000 in
theorem schild1_ok (ads : List Addr) (h3 : 3 < ads.length) (h10 : 10 < ads.length) (B A : Nat) (p2 : Addr) (n s o d : Int) (x : Nat) (an aw oc : Int) (w : World) (V : St ads w) (T : Tab w) (hx : x < 18446744073709551616) (hb : w.heap[B]? = some (.cells #[.int .i64 n, .int .i64 s, .int .i64 o, .int .i64 d, .float .f64 x] 29 (0, 0))) (ha : w.heap[A]? = some (.cells #[.int .i64 an, .int .i64 aw] 23 (0, 0))) (h2 : w.cell? p2 = some (.int .i64 oc)) (hc : rightX ⟨n, s, o, d, x⟩ = true) (hr : rightA an aw = true) (ho : outX oc = true) (hd : d < 3) (hd0 : 0 ≤ d) (hd2 : decide (d < 3) = true) :
    Calls Tryd.prog 35 #[.pointer (some ⟨B, 0, none⟩), .pointer (some ⟨A, 0, none⟩), .pointer (some p2)] w fun e w' => e = .returned (.agg #[.int .i64 an, .int .i64 aw, .int .i64 oc, .int .i64 (d + 1), .float .f64 x]) ∧ Kp w w' := by
  have c3 : w.cell? ⟨3, 0, none⟩ = some (snt (ads[3]'h3)) := V.cell 3 (by decide)
  have _u := And.intro hd hd2
  clear _u
  have c10 : w.cell? ⟨10, 0, none⟩ = some (snt (ads[10]'h10)) := V.cell 10 (by decide)
  have HR := fun w1 (hk : Kp w w1) => scoRight_any ads ⟨n, s, o, d, x⟩ hx w1 (V.below hk) (T.kp hk)
  simp only [hc] at HR
  have HA := fun w1 (hk : Kp w w1) => sact_ok ads h3 an aw oc w1 (V.below hk) (T.kp hk) hr ho
  obtain ⟨a3, ha3⟩ : ∃ a, ads[3]'(by omega) = a := ⟨_, rfl⟩
  obtain ⟨a10, ha10⟩ : ∃ a, ads[10]'(by omega) = a := ⟨_, rfl⟩
  rw [ha3] at c3
  rw [ha10] at c10
  have hsf := store_fl
  have kb := kp_alloc w (.cells #[.int .i64 0, .int .i64 0, .int .i64 0, .int .i64 0, .float .f64 0] 29)
  have CE := Lib.hid (kp_cell kb c3)
  have CD := Lib.hid (kp_cell kb c10)
  have RB := Lib.hid (kp_row kb hb)
  have RA := Lib.hid (kp_row kb ha)
  have Q2 := Lib.hid (kp_cell kb h2)
  have HZ := Lib.hid (MapKept.heap_alloc w (.cells #[.int .i64 0, .int .i64 0, .int .i64 0, .int .i64 0, .float .f64 0] 29)).1
  have HR := Lib.hid HR
  have HA := Lib.hid HA
  have K0 := Lib.hid kb
  clear V T ha hb h2 c3 c10 kb
  dsimp only [CX.cells] at HR
  go_enter Tryd.func35, Tryd.ntmps35
  go_wp2
  obtain ⟨w0, hw0⟩ : ∃ y, w.alloc (.cells #[.int .i64 0, .int .i64 0, .int .i64 0, .int .i64 0, .float .f64 0] 29) = y := ⟨_, rfl⟩
  rw [hw0] at K0 CE CD RB RA Q2 HZ ⊢
  clear hw0
  refine wp_region_held_drew (S := fun w' => Kp w0 w') (by kernel_rfl) ?_ (fun hHeld => ?_)
  · exact (Kp.refl w0).drew
  refine wpAnyH_take (i := 0) (v := ?_) rfl (by kernel_rfl) (by kernel_rfl) (by kernel_rfl) (fun _ _ _ h => h) (Or.inl ⟨by rfl, ?_⟩) (by assumption) ?_
  rotate_left
  · intro w hSw; obtain ⟨q0, q1, q2, q3, q4⟩ := cells5 (kp_row hSw RB.out); go_simp; try with_reducible rfl
  go_simp
  refine wpAnyH_take (i := 2) (v := ?_) rfl (by kernel_rfl) (by kernel_rfl) (by kernel_rfl) (fun _ _ _ h => h) (Or.inl ⟨by rfl, ?_⟩) (by assumption) ?_
  rotate_left
  · intro w hSw; have q := kp_cell hSw CE.out; go_simp; try with_reducible rfl
  go_simp
  refine wpAnyH_ready (rs := [1]) (by kernel_rfl) (by simp) ?_
  refine AllReadyH.cons rfl (fun K hK => ?_) AllReadyH.nil
  go_simp
  go_wp2_with (go_at_call 12; (with_reducible refine (HR.out _ (Kp.trans K0.out hHeld)).mono ?_); rintro e w4 ⟨rfl, hk4⟩; have K4 := Lib.hid (Kp.trans hHeld hk4); clear hk4)
  refine hK.out _ _ ?_ (fun hHeld => ?_)
  · exact K4.out
  clear hK K
  refine wpAnyH_ready (rs := [3]) (by kernel_rfl) (by simp) ?_
  refine AllReadyH.cons rfl (fun K hK => ?_) AllReadyH.nil
  go_simp
  go_wp2_with ((go_at_call 36; (with_reducible refine (sdemand_t _ _).mono ?_); rintro e w' ⟨rfl, rfl⟩))
  refine hK.out _ _ ?_ (fun hHeld => ?_)
  · exact hHeld
  clear hK K
  refine wpAnyH_done (by kernel_rfl) ?_ _
  have r1 := kp_row K4.out RA.out
  obtain ⟨g0, g1⟩ := two_cells r1
  have z2 := kp_cell K4.out Q2.out
  clear r1
  go_wp2_with (first | (go_at_call 23; (with_reducible refine (HA.out _ (Kp.trans K0.out K4.out)).mono ?_); rintro e w5 ⟨rfl, hk⟩; have K5 := Lib.hid (Kp.trans K4.out hk); have r5 := kp_row K5.out RB.out; obtain ⟨b0, b1, b2, b3, b4⟩ := cells5 (r5); have r6 := kp_row K5.out RA.out; obtain ⟨f0, f1⟩ := two_cells r6; have z5 := kp_cell K5.out Q2.out; have y10 := kp_cell K5.out CD.out; have r7 := kp_row K5.out HZ.out; obtain ⟨j0, j1, j2, j3, j4⟩ := cells5 (r7); have fz := froz5 r7; have HZ5 := Lib.hid r7; clear hk r5 r6 r7) | (go_at_call 36; (with_reducible refine (sdemand_t _ _).mono ?_); rintro e w' ⟨rfl, rfl⟩))
  have hz5 := set5 (.int .i64 an) (.int .i64 aw) (.int .i64 oc) (.int .i64 (d + 1)) (.float .f64 x) HZ5.out
  refine bodyPost_ret (results_cell_row (p := 3) rfl _ _ w.heap.size 29 _ (0, 0) _ rfl hz5 Tryd.underlying29 rfl (by kernel_rfl)) rfl ?_
  exact ⟨rfl, set5_kp (Kp.trans K0.out K5.out) (Nat.le_refl _) _ _ _ _ _⟩
set_option maxRecDepth 100000 in
set_option maxHeartbeats 2000000 in
theorem schild_val (n s o d : Int) (x : Nat) (an aw oc : Int) (w : World) (y0 y1 y2 y3 : Int) (y4 : Nat)
    (H : ∀ w1, Kp w w1 → w1.heap[w.heap.size]? = some (.cells #[.int .i64 n, .int .i64 s, .int .i64 o, .int .i64 d, .float .f64 x] 29) → w1.heap[w.heap.size + 1]? = some (.cells #[.int .i64 an, .int .i64 aw] 23) → w1.cell? ⟨w.heap.size + 1 + 1, 0, none⟩ = some (.int .i64 oc) → Calls Tryd.prog 35 #[.pointer (some ⟨w.heap.size, 0, none⟩), .pointer (some ⟨w.heap.size + 1, 0, none⟩), .pointer (some ⟨w.heap.size + 1 + 1, 0, none⟩)] w1 fun e w' => e = .returned (.agg #[.int .i64 y0, .int .i64 y1, .int .i64 y2, .int .i64 y3, .float .f64 y4]) ∧ Kp w1 w') :
    Calls Tryd.prog 13 #[(.agg #[.int .i64 n, .int .i64 s, .int .i64 o, .int .i64 d, .float .f64 x]), (.agg #[.int .i64 an, .int .i64 aw]), .int .i64 oc] w fun e w' => e = .returned (.tuple #[.agg #[.int .i64 y0, .int .i64 y1, .int .i64 y2, .int .i64 y3, .float .f64 y4], .nilIface]) ∧ Kp w w' := by
  have hmf : ∀ (fn : Fn) (first cap : Array Value) (w : World), (Instr.makeFunc fn first cap).run Tryd.prog w = .ok (.func fn first cap) w := fun _ _ _ _ => rfl
  have hsf := store_fl
  obtain ⟨W, hW, kb, r0, r1, r2, r3⟩ := boxes4 w (.cells #[.int .i64 n, .int .i64 s, .int .i64 o, .int .i64 d, .float .f64 x] 29) (.cells #[.int .i64 an, .int .i64 aw] 23) (.cells #[.int .i64 oc] 3) (.cells #[.int .i64 0, .int .i64 0, .int .i64 0, .int .i64 0, .float .f64 0] 29)
  have HT := Lib.hid (try_ctx_val 35 #[.pointer (some ⟨w.heap.size, 0, none⟩), .pointer (some ⟨w.heap.size + 1, 0, none⟩), .pointer (some ⟨w.heap.size + 1 + 1, 0, none⟩)] y0 y1 y2 y3 y4 W (by intro w; simp [go_sem]) fun w1 hk => H w1 (Kp.trans kb hk) (kp_row hk r0) (kp_row hk r1) (one_cell (kp_row hk r2)))
  have KB := Lib.hid kb
  have HZ := Lib.hid r3
  clear H kb r0 r1 r2 r3
  rw [hW] at HT KB HZ
  clear hW
  go_enter Tryd.func13, Tryd.ntmps13
  go_wp2_with (go_at_call 21; (with_reducible refine HT.out.mono ?_); rintro e w5 ⟨rfl, hk⟩; have HK := Lib.hid hk; have HR := Lib.hid (kp_row hk HZ.out); obtain ⟨b0, b1, b2, b3, b4⟩ := cells5 (HR.out); have fz := froz5 HR.out; clear hk)
  have hz5 := set5 (.int .i64 y0) (.int .i64 y1) (.int .i64 y2) (.int .i64 y3) (.float .f64 y4) HR.out
  refine bodyPost_ret (results_row_tmp9 (p := 6) (u := 7) rfl _ _ (w.heap.size + 1 + 1 + 1) 29 _ (0, 0) _ rfl hz5 Tryd.underlying29 rfl (by kernel_rfl)) rfl ?_
  exact ⟨rfl, set5_kp (Kp.trans KB.out HK.out) (by omega) _ _ _ _ _⟩
set_option maxRecDepth 100000 in
set_option maxHeartbeats 2000000 in
theorem schild_err (ads : List Addr) (n s o d : Int) (x : Nat) (an aw oc : Int) (w : World) (V : St ads w) (k : Nat) (hk : k < ads.length)
    (H : ∀ w1, Kp w w1 → w1.heap[w.heap.size]? = some (.cells #[.int .i64 n, .int .i64 s, .int .i64 o, .int .i64 d, .float .f64 x] 29) → w1.heap[w.heap.size + 1]? = some (.cells #[.int .i64 an, .int .i64 aw] 23) → w1.cell? ⟨w.heap.size + 1 + 1, 0, none⟩ = some (.int .i64 oc) → Calls Tryd.prog 35 #[.pointer (some ⟨w.heap.size, 0, none⟩), .pointer (some ⟨w.heap.size + 1, 0, none⟩), .pointer (some ⟨w.heap.size + 1 + 1, 0, none⟩)] w1 fun e w' => e = .panicked [{ v := snt (ads[k]'hk), recovered := false }] ∧ Kp w1 w') :
    Calls Tryd.prog 13 #[(.agg #[.int .i64 n, .int .i64 s, .int .i64 o, .int .i64 d, .float .f64 x]), (.agg #[.int .i64 an, .int .i64 aw]), .int .i64 oc] w fun e w' => e = .returned (.tuple #[.agg #[.int .i64 0, .int .i64 0, .int .i64 0, .int .i64 0, .float .f64 0], snt (ads[k]'hk)]) ∧ Kp w w' := by
  have hmf : ∀ (fn : Fn) (first cap : Array Value) (w : World), (Instr.makeFunc fn first cap).run Tryd.prog w = .ok (.func fn first cap) w := fun _ _ _ _ => rfl
  have hsf := store_fl
  obtain ⟨W, hW, kb, r0, r1, r2, r3⟩ := boxes4 w (.cells #[.int .i64 n, .int .i64 s, .int .i64 o, .int .i64 d, .float .f64 x] 29) (.cells #[.int .i64 an, .int .i64 aw] 23) (.cells #[.int .i64 oc] 3) (.cells #[.int .i64 0, .int .i64 0, .int .i64 0, .int .i64 0, .float .f64 0] 29)
  have HT := Lib.hid (try_ctx_err ads k hk 35 #[.pointer (some ⟨w.heap.size, 0, none⟩), .pointer (some ⟨w.heap.size + 1, 0, none⟩), .pointer (some ⟨w.heap.size + 1 + 1, 0, none⟩)] W (V.below kb) (by intro w; simp [go_sem]) fun w1 hk => H w1 (Kp.trans kb hk) (kp_row hk r0) (kp_row hk r1) (one_cell (kp_row hk r2)))
  have KB := Lib.hid kb
  have HZ := Lib.hid r3
  clear H kb r0 r1 r2 r3
  rw [hW] at HT KB HZ
  clear hW
  go_enter Tryd.func13, Tryd.ntmps13
  go_wp2_with (go_at_call 21; (with_reducible refine HT.out.mono ?_); rintro e w5 ⟨rfl, hk⟩; have HK := Lib.hid hk; have HR := Lib.hid (kp_row hk HZ.out); obtain ⟨b0, b1, b2, b3, b4⟩ := cells5 (HR.out); have fz := froz5 HR.out; clear hk)
  have hz5 := set5 (.int .i64 0) (.int .i64 0) (.int .i64 0) (.int .i64 0) (.float .f64 0) HR.out
  refine bodyPost_ret (results_row_tmp9 (p := 6) (u := 7) rfl _ _ (w.heap.size + 1 + 1 + 1) 29 _ (0, 0) _ rfl hz5 Tryd.underlying29 rfl (by kernel_rfl)) rfl ?_
  exact ⟨rfl, set5_kp (Kp.trans KB.out HK.out) (by omega) _ _ _ _ _⟩
/-- WHAT Child ANSWERS. -/
theorem scoChild_any (ads : List Addr) (c : CX) (an aw oc : Int) (hc : c.wf) (w : World) (V : St ads w) (T : Tab w) :
    Calls Tryd.prog 13 #[.agg c.cells, .agg #[.int .i64 an, .int .i64 aw], .int .i64 oc] w fun e w' => e = .returned (.tuple #[.agg (childX c an aw oc).2.cells, errI ads (childX c an aw oc).1]) ∧ Kp w w' := by
  have h14 : ads.length = 14 := V.len
  have h0 : 0 < ads.length := by omega
  have h3 : 3 < ads.length := by omega
  have h10 : 10 < ads.length := by omega
  obtain ⟨n, s, o, d, x⟩ := c
  unfold childX
  dsimp only [CX.cells]
  cases hx : rightX ⟨n, s, o, d, x⟩ with
  | false =>
    rw [if_pos rfl]
    have := schild_err ads n s o d x an aw oc w V 3 h3 fun w1 hk hb ha h2 => schild1_c ads h3 _ _ _ n s o d x an aw oc w1 (V.below hk) (T.kp hk) hc hb ha h2 hx
    rw [← errI_at ads 3 h3] at this
    exact this
  | true =>
    rw [if_neg (by decide)]
    cases hr : rightA an aw with
    | false =>
      rw [if_pos rfl]
      have := schild_err ads n s o d x an aw oc w V 0 h0 fun w1 hk hb ha h2 => schild1_range ads h3 _ _ _ n s o d x an aw oc w1 (V.below hk) (T.kp hk) hc hb ha h2 hx hr
      rw [← errI_at ads 0 h0] at this
      exact this
    | true =>
      rw [if_neg (by decide)]
      cases ho : outX oc with
      | false =>
        rw [if_pos rfl]
        have := schild_err ads n s o d x an aw oc w V 3 h3 fun w1 hk hb ha h2 => schild1_form ads h3 _ _ _ n s o d x an aw oc w1 (V.below hk) (T.kp hk) hc hb ha h2 hx hr ho
        rw [← errI_at ads 3 h3] at this
        exact this
      | true =>
        rw [if_neg (by decide)]
        by_cases hd : 2 < d
        · rw [if_pos hd]
          have := schild_err ads n s o d x an aw oc w V 10 h10 fun w1 hk hb ha h2 => schild1_deep ads h3 h10 _ _ _ n s o d x an aw oc w1 (V.below hk) (T.kp hk) hc hb ha h2 hx hr ho hd (decide_eq_false (by omega))
          rw [← errI_at ads 10 h10] at this
          exact this
        · rw [if_neg hd, errI_nil]
          have hd0 : 0 ≤ d := by
            unfold rightX at hx
            simp only [Bool.and_eq_true, decide_eq_true_eq] at hx
            exact hx.2.2.1.1
          exact schild_val n s o d x an aw oc w an aw oc (d + 1) x fun w1 hk hb ha h2 => schild1_ok ads h3 h10 _ _ _ n s o d x an aw oc w1 (V.below hk) (T.kp hk) hc hb ha h2 hx hr ho (by omega) hd0 (decide_eq_true (by omega))
end Go.Proofs.YtldamfpoemgkpaaDoor
