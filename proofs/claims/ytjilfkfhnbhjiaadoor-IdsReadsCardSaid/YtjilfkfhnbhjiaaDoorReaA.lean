/-
  IdsReads' WALKS (own work).
-/
import Derived.Test.YtjilfkfhnbhjiaaDoorReaP
namespace Go.Proofs.YtjilfkfhnbhjiaaDoor
open Go.RowKit Go.ChangeShapes Go.WideShapes

set_option maxRecDepth 20000 in
set_option maxHeartbeats 1000000 in
theorem rea_ffff (ads : List Addr) (s : ByteArray) (hs : s.size ≤ 200) (w : World) (V : St ads w) (I : IdsC ads w) (h0 : (nodeN (strB s)).2 ≠ 0) (h1 : (actN (strB s)).2 ≠ 0) (h2 : (regN (strB s)).2 ≠ 0) (h3 : (partN (strB s)).2 ≠ 0) :
    Calls Tryd.prog 4 #[.string s] w fun e w' => e = .returned (.bool true) ∧ Kp w w' := by
  have HAL := Lib.hid (fun w1 (hk : Kp w w1) => alive_any ads w1 (V.below hk) (I.kp hk))
  have R0 := fun w1 (hk : Kp w w1) => I.toNode w1 hk s hs
  have R1 := fun w1 (hk : Kp w w1) => I.toAct w1 hk s hs
  have R2 := fun w1 (hk : Kp w w1) => I.toReg w1 hk s hs
  have R3 := fun w1 (hk : Kp w w1) => I.toPart w1 hk s hs
  have N0 := fun w1 => nums_node s hs w1
  have M0 := fun w1 (hk : Kp w w1) => num_errI ads w1 (V.below hk) (nodeN (strB s)).2 (numM_three _ _ _)
  have hl0 : (nodeN (strB s)).1 = [] := numM_bad h0
  obtain ⟨k0, hk0⟩ : ∃ k, (nodeN (strB s)).2 = k := ⟨_, rfl⟩
  rw [hk0] at h0
  obtain ⟨o0, ho0⟩ := errI_some ads k0 h0
  simp only [hk0, hl0, List.getD_nil, ho0] at R0 N0 M0
  have N1 := fun w1 => nums_act s hs w1
  have M1 := fun w1 (hk : Kp w w1) => num_errI ads w1 (V.below hk) (actN (strB s)).2 (numM_three _ _ _)
  have hl1 : (actN (strB s)).1 = [] := numM_bad h1
  obtain ⟨k1, hk1⟩ : ∃ k, (actN (strB s)).2 = k := ⟨_, rfl⟩
  rw [hk1] at h1
  obtain ⟨o1, ho1⟩ := errI_some ads k1 h1
  simp only [hk1, hl1, List.getD_nil, ho1] at R1 N1 M1
  have N2 := fun w1 => nums_reg s hs w1
  have M2 := fun w1 (hk : Kp w w1) => num_errI ads w1 (V.below hk) (regN (strB s)).2 (numM_three _ _ _)
  have hl2 : (regN (strB s)).1 = [] := numM_bad h2
  obtain ⟨k2, hk2⟩ : ∃ k, (regN (strB s)).2 = k := ⟨_, rfl⟩
  rw [hk2] at h2
  obtain ⟨o2, ho2⟩ := errI_some ads k2 h2
  simp only [hk2, hl2, List.getD_nil, ho2] at R2 N2 M2
  have N3 := fun w1 => nums_part s hs w1
  have M3 := fun w1 (hk : Kp w w1) => num_errI ads w1 (V.below hk) (partN (strB s)).2 (numM_three _ _ _)
  have hl3 : (partN (strB s)).1 = [] := numM_bad h3
  obtain ⟨k3, hk3⟩ : ∃ k, (partN (strB s)).2 = k := ⟨_, rfl⟩
  rw [hk3] at h3
  obtain ⟨o3, ho3⟩ := errI_some ads k3 h3
  simp only [hk3, hl3, List.getD_nil, ho3] at R3 N3 M3
  have a0 : errI ads 0 = .nilIface := rfl
  have R0 := Lib.hid R0
  have N0 := Lib.hid N0
  have M0 := Lib.hid M0
  have R1 := Lib.hid R1
  have N1 := Lib.hid N1
  have M1 := Lib.hid M1
  have R2 := Lib.hid R2
  have N2 := Lib.hid N2
  have M2 := Lib.hid M2
  have R3 := Lib.hid R3
  have N3 := Lib.hid N3
  have M3 := Lib.hid M3
  have HB0 := Lib.hid (show (k0 == 0) = false from beq_eq_false_iff_ne.2 h0)
  have HV0 := Lib.hid (show (k0 != 0) = true by simp [bne, h0])
  have z0 : ¬ k0 = 0 := h0
  have HB1 := Lib.hid (show (k1 == 0) = false from beq_eq_false_iff_ne.2 h1)
  have HV1 := Lib.hid (show (k1 != 0) = true by simp [bne, h1])
  have z1 : ¬ k1 = 0 := h1
  have HB2 := Lib.hid (show (k2 == 0) = false from beq_eq_false_iff_ne.2 h2)
  have HV2 := Lib.hid (show (k2 != 0) = true by simp [bne, h2])
  have z2 : ¬ k2 = 0 := h2
  have HB3 := Lib.hid (show (k3 == 0) = false from beq_eq_false_iff_ne.2 h3)
  have HV3 := Lib.hid (show (k3 != 0) = true by simp [bne, h3])
  have z3 : ¬ k3 = 0 := h3
  obtain ⟨ns, hns⟩ : ∃ n : Int, (s.size : Int) = n := ⟨_, rfl⟩
  have hg : ¬ ns > 200 := by omega
  clear V I a0 h0 hl0 hk0 ho0 h1 hl1 hk1 ho1 h2 hl2 hk2 ho2 h3 hl3 hk3 ho3
  go_enter Tryd.func4, Tryd.ntmps4
  go_wp2_with (go_at_call 7; (with_reducible refine (HAL.out _ (Kp.refl _)).mono ?_); rintro e w1 ⟨rfl, hk⟩; have KK := Lib.hid hk; clear hk)
  go_wp2_with (go_at_call 19; (with_reducible refine (R0.out _ KK.out).mono ?_); rintro e w2 ⟨rfl, hk⟩; have KK := Lib.hid (Kp.trans KK.out hk); clear hk)
  go_wp2_with (go_at_call 20; (with_reducible refine (R1.out _ KK.out).mono ?_); rintro e w3 ⟨rfl, hk⟩; have KK := Lib.hid (Kp.trans KK.out hk); clear hk)
  go_wp2_with (go_at_call 21; (with_reducible refine (R2.out _ (Kp.trans KK.out (kp_alloc _ _))).mono ?_); rintro e w4 ⟨rfl, hk⟩; have t_ := kp_row hk (MapKept.heap_alloc w3 (.cells #[.int .i64 0, .int .i64 0] 23)).1; have B5 := Lib.hid t_; clear t_; have KK := Lib.hid (Kp.trans (Kp.trans KK.out (kp_alloc _ _)) hk); clear hk)
  go_wp2_with (go_at_call 22; (with_reducible refine (R3.out _ (Kp.trans KK.out (kp_alloc _ _))).mono ?_); rintro e w5 ⟨rfl, hk⟩; have t_ := kp_row hk (MapKept.heap_alloc w4 (.cells #[.int .i64 0, .int .i64 0] 23)).1; have B7 := Lib.hid t_; clear t_; have t_ := kp_row (Kp.trans (kp_alloc _ _) hk) B5.out; have B5 := Lib.hid t_; clear t_; have KK := Lib.hid (Kp.trans (Kp.trans KK.out (kp_alloc _ _)) hk); clear hk)
  go_wp2_with (go_at_call 23; (with_reducible refine (N0.out _).mono ?_); rintro e w6 ⟨u0, rfl, ho, hk⟩; have t_ := kp_row hk B5.out; have B5 := Lib.hid t_; clear t_; have t_ := kp_row hk B7.out; have B7 := Lib.hid t_; clear t_; have KK := Lib.hid (Kp.trans KK.out hk); clear hk ho)
  go_wp2_with (go_at_call 23; (with_reducible refine (N1.out _).mono ?_); rintro e w7 ⟨u1, rfl, ho, hk⟩; have t_ := kp_row hk B5.out; have B5 := Lib.hid t_; clear t_; have t_ := kp_row hk B7.out; have B7 := Lib.hid t_; clear t_; have KK := Lib.hid (Kp.trans KK.out hk); clear hk ho)
  go_wp2_with (go_at_call 23; (with_reducible refine (N2.out _).mono ?_); rintro e w8 ⟨u2, rfl, ho, hk⟩; have t_ := kp_row hk B5.out; have B5 := Lib.hid t_; clear t_; have t_ := kp_row hk B7.out; have B7 := Lib.hid t_; clear t_; have KK := Lib.hid (Kp.trans KK.out hk); clear hk ho)
  go_wp2_with (go_at_call 23; (with_reducible refine (N3.out _).mono ?_); rintro e w9 ⟨u3, rfl, ho, hk⟩; have t_ := kp_row hk B5.out; have B5 := Lib.hid t_; clear t_; have t_ := kp_row hk B7.out; have B7 := Lib.hid t_; clear t_; have KK := Lib.hid (Kp.trans KK.out hk); clear hk ho)
  go_wp2_with (first | (go_at_call 24; (with_reducible refine (M0.out _ KK.out).mono ?_); rintro e wn ⟨rfl, hk⟩; have t_ := kp_row hk B5.out; have B5 := Lib.hid t_; clear t_; have t_ := kp_row hk B7.out; have B7 := Lib.hid t_; clear t_; (try clear e50 e51 e70 e71); obtain ⟨e50, e51⟩ := cell_two B5.out; obtain ⟨e70, e71⟩ := cell_two B7.out; have KK := Lib.hid (Kp.trans KK.out hk); clear hk) | (go_at_call 24; (with_reducible refine (M1.out _ KK.out).mono ?_); rintro e wn ⟨rfl, hk⟩; have t_ := kp_row hk B5.out; have B5 := Lib.hid t_; clear t_; have t_ := kp_row hk B7.out; have B7 := Lib.hid t_; clear t_; (try clear e50 e51 e70 e71); obtain ⟨e50, e51⟩ := cell_two B5.out; obtain ⟨e70, e71⟩ := cell_two B7.out; have KK := Lib.hid (Kp.trans KK.out hk); clear hk) | (go_at_call 24; (with_reducible refine (M2.out _ KK.out).mono ?_); rintro e wn ⟨rfl, hk⟩; have t_ := kp_row hk B5.out; have B5 := Lib.hid t_; clear t_; have t_ := kp_row hk B7.out; have B7 := Lib.hid t_; clear t_; (try clear e50 e51 e70 e71); obtain ⟨e50, e51⟩ := cell_two B5.out; obtain ⟨e70, e71⟩ := cell_two B7.out; have KK := Lib.hid (Kp.trans KK.out hk); clear hk) | (go_at_call 24; (with_reducible refine (M3.out _ KK.out).mono ?_); rintro e wn ⟨rfl, hk⟩; have t_ := kp_row hk B5.out; have B5 := Lib.hid t_; clear t_; have t_ := kp_row hk B7.out; have B7 := Lib.hid t_; clear t_; (try clear e50 e51 e70 e71); obtain ⟨e50, e51⟩ := cell_two B5.out; obtain ⟨e70, e71⟩ := cell_two B7.out; have KK := Lib.hid (Kp.trans KK.out hk); clear hk))
  rw [HV0.out]
  refine wp_region_held_drew (S := fun w' => Kp wn w') (by kernel_rfl) ?_ (fun hHeld => ?_)
  · exact (Kp.refl wn).drew
  refine wpAnyH_take (i := 0) (v := ?_) rfl (by kernel_rfl) (by kernel_rfl) (by kernel_rfl) (fun _ _ _ h => h) (Or.inl ⟨by rfl, ?_⟩) (by assumption) ?_
  rotate_left
  · intro w hSw; go_simp; try with_reducible rfl
  go_simp
  refine wpAnyH_take (i := 1) (v := ?_) rfl (by kernel_rfl) (by kernel_rfl) (by kernel_rfl) (fun _ _ _ h => h) (Or.inl ⟨by rfl, ?_⟩) (by assumption) ?_
  rotate_left
  · intro w hSw; go_simp; try with_reducible rfl
  go_simp
  refine wpAnyH_take (i := 2) (v := ?_) rfl (by kernel_rfl) (by kernel_rfl) (by kernel_rfl) (fun _ _ _ h => h) (Or.inl ⟨by rfl, ?_⟩) (by assumption) ?_
  rotate_left
  · intro w hSw; go_simp; try with_reducible rfl
  go_simp
  refine wpAnyH_take (i := 3) (v := ?_) rfl (by kernel_rfl) (by kernel_rfl) (by kernel_rfl) (fun _ _ _ h => h) (Or.inl ⟨by rfl, ?_⟩) (by assumption) ?_
  rotate_left
  · intro w hSw; go_simp; (try rw [HB1.out]); try with_reducible rfl
  go_simp
  refine wpAnyH_take (i := 4) (v := ?_) rfl (by kernel_rfl) (by kernel_rfl) (by kernel_rfl) (fun _ _ _ h => h) (Or.inl ⟨by rfl, ?_⟩) (by assumption) ?_
  rotate_left
  · intro w hSw; go_simp; try with_reducible rfl
  go_simp
  refine wpAnyH_take (i := 5) (v := undef) rfl (by kernel_rfl) (by kernel_rfl) (by kernel_rfl) (fun _ _ _ h => h) (Or.inr ⟨by rfl, rfl⟩) (by assumption) ?_
  go_simp
  refine wpAnyH_take (i := 6) (v := undef) rfl (by kernel_rfl) (by kernel_rfl) (by kernel_rfl) (fun _ _ _ h => h) (Or.inr ⟨by rfl, rfl⟩) (by assumption) ?_
  go_simp
  refine wpAnyH_take (i := 7) (v := undef) rfl (by kernel_rfl) (by kernel_rfl) (by kernel_rfl) (fun _ _ _ h => h) (Or.inr ⟨by rfl, rfl⟩) (by assumption) ?_
  go_simp
  refine wpAnyH_take (i := 8) (v := undef) rfl (by kernel_rfl) (by kernel_rfl) (by kernel_rfl) (fun _ _ _ h => h) (Or.inr ⟨by rfl, rfl⟩) (by assumption) ?_
  go_simp
  refine wpAnyH_take (i := 9) (v := undef) rfl (by kernel_rfl) (by kernel_rfl) (by kernel_rfl) (fun _ _ _ h => h) (Or.inr ⟨by rfl, rfl⟩) (by assumption) ?_
  go_simp
  refine wpAnyH_take (i := 10) (v := undef) rfl (by kernel_rfl) (by kernel_rfl) (by kernel_rfl) (fun _ _ _ h => h) (Or.inr ⟨by rfl, rfl⟩) (by assumption) ?_
  go_simp
  refine wpAnyH_take (i := 11) (v := ?_) rfl (by kernel_rfl) (by kernel_rfl) (by kernel_rfl) (fun _ _ _ h => h) (Or.inl ⟨by rfl, ?_⟩) (by assumption) ?_
  rotate_left
  · intro w hSw; go_simp; try with_reducible rfl
  go_simp
  refine wpAnyH_take (i := 12) (v := ?_) rfl (by kernel_rfl) (by kernel_rfl) (by kernel_rfl) (fun _ _ _ h => h) (Or.inl ⟨by rfl, ?_⟩) (by assumption) ?_
  rotate_left
  · intro w hSw; go_simp; try with_reducible rfl
  go_simp
  refine wpAnyH_take (i := 13) (v := undef) rfl (by kernel_rfl) (by kernel_rfl) (by kernel_rfl) (fun _ _ _ h => h) (Or.inr ⟨by rfl, rfl⟩) (by assumption) ?_
  go_simp
  refine wpAnyH_take (i := 14) (v := undef) rfl (by kernel_rfl) (by kernel_rfl) (by kernel_rfl) (fun _ _ _ h => h) (Or.inr ⟨by rfl, rfl⟩) (by assumption) ?_
  go_simp
  refine wpAnyH_take (i := 15) (v := undef) rfl (by kernel_rfl) (by kernel_rfl) (by kernel_rfl) (fun _ _ _ h => h) (Or.inr ⟨by rfl, rfl⟩) (by assumption) ?_
  go_simp
  refine wpAnyH_take (i := 16) (v := undef) rfl (by kernel_rfl) (by kernel_rfl) (by kernel_rfl) (fun _ _ _ h => h) (Or.inr ⟨by rfl, rfl⟩) (by assumption) ?_
  go_simp
  refine wpAnyH_take (i := 17) (v := undef) rfl (by kernel_rfl) (by kernel_rfl) (by kernel_rfl) (fun _ _ _ h => h) (Or.inr ⟨by rfl, rfl⟩) (by assumption) ?_
  go_simp
  refine wpAnyH_take (i := 18) (v := undef) rfl (by kernel_rfl) (by kernel_rfl) (by kernel_rfl) (fun _ _ _ h => h) (Or.inr ⟨by rfl, rfl⟩) (by assumption) ?_
  go_simp
  refine wpAnyH_take (i := 19) (v := ?_) rfl (by kernel_rfl) (by kernel_rfl) (by kernel_rfl) (fun _ _ _ h => h) (Or.inl ⟨by rfl, ?_⟩) (by assumption) ?_
  rotate_left
  · intro w hSw; go_simp; try with_reducible rfl
  go_simp
  refine wpAnyH_take (i := 20) (v := ?_) rfl (by kernel_rfl) (by kernel_rfl) (by kernel_rfl) (fun _ _ _ h => h) (Or.inl ⟨by rfl, ?_⟩) (by assumption) ?_
  rotate_left
  · intro w hSw; go_simp; try with_reducible rfl
  go_simp
  refine wpAnyH_take (i := 21) (v := ?_) rfl (by kernel_rfl) (by kernel_rfl) (by kernel_rfl) (fun _ _ _ h => h) (Or.inl ⟨by rfl, ?_⟩) (by assumption) ?_
  rotate_left
  · intro w hSw; go_simp; try with_reducible rfl
  go_simp
  refine wpAnyH_take (i := 22) (v := ?_) rfl (by kernel_rfl) (by kernel_rfl) (by kernel_rfl) (fun _ _ _ h => h) (Or.inl ⟨by rfl, ?_⟩) (by assumption) ?_
  rotate_left
  · intro w hSw; go_simp; (try rw [HV1.out]); try with_reducible rfl
  go_simp
  refine wpAnyH_take (i := 23) (v := ?_) rfl (by kernel_rfl) (by kernel_rfl) (by kernel_rfl) (fun _ _ _ h => h) (Or.inl ⟨by rfl, ?_⟩) (by assumption) ?_
  rotate_left
  · intro w hSw; go_simp; try with_reducible rfl
  go_simp
  refine wpAnyH_take (i := 24) (v := ?_) rfl (by kernel_rfl) (by kernel_rfl) (by kernel_rfl) (fun _ _ _ h => h) (Or.inl ⟨by rfl, ?_⟩) (by assumption) ?_
  rotate_left
  · intro w hSw; have q := kp_cell hSw e50; have q2 := kp_cell hSw e51; go_simp; try with_reducible rfl
  go_simp
  refine wpAnyH_take (i := 25) (v := ?_) rfl (by kernel_rfl) (by kernel_rfl) (by kernel_rfl) (fun _ _ _ h => h) (Or.inl ⟨by rfl, ?_⟩) (by assumption) ?_
  rotate_left
  · intro w hSw; go_simp; try with_reducible rfl
  go_simp
  refine wpAnyH_take (i := 26) (v := ?_) rfl (by kernel_rfl) (by kernel_rfl) (by kernel_rfl) (fun _ _ _ h => h) (Or.inl ⟨by rfl, ?_⟩) (by assumption) ?_
  rotate_left
  · intro w hSw; go_simp; try with_reducible rfl
  go_simp
  refine wpAnyH_take (i := 27) (v := ?_) rfl (by kernel_rfl) (by kernel_rfl) (by kernel_rfl) (fun _ _ _ h => h) (Or.inl ⟨by rfl, ?_⟩) (by assumption) ?_
  rotate_left
  · intro w hSw; go_simp; try with_reducible rfl
  go_simp
  refine wpAnyH_take (i := 28) (v := ?_) rfl (by kernel_rfl) (by kernel_rfl) (by kernel_rfl) (fun _ _ _ h => h) (Or.inl ⟨by rfl, ?_⟩) (by assumption) ?_
  rotate_left
  · intro w hSw; go_simp; try with_reducible rfl
  go_simp
  refine wpAnyH_take (i := 29) (v := ?_) rfl (by kernel_rfl) (by kernel_rfl) (by kernel_rfl) (fun _ _ _ h => h) (Or.inl ⟨by rfl, ?_⟩) (by assumption) ?_
  rotate_left
  · intro w hSw; go_simp; try with_reducible rfl
  go_simp
  refine wpAnyH_take (i := 30) (v := ?_) rfl (by kernel_rfl) (by kernel_rfl) (by kernel_rfl) (fun _ _ _ h => h) (Or.inl ⟨by rfl, ?_⟩) (by assumption) ?_
  rotate_left
  · intro w hSw; go_simp; try with_reducible rfl
  go_simp
  refine wpAnyH_done (by kernel_rfl) ?_ _
  go_wp2
  refine wp_region_held_drew (S := fun w' => Kp wn w') (by kernel_rfl) ?_ (fun hHeld => ?_)
  · exact (Kp.refl wn).drew.drew
  refine wpAnyH_take (i := 0) (v := ?_) rfl (by kernel_rfl) (by kernel_rfl) (by kernel_rfl) (fun _ _ _ h => h) (Or.inl ⟨by rfl, ?_⟩) (by assumption) ?_
  rotate_left
  · intro w hSw; go_simp; try with_reducible rfl
  go_simp
  refine wpAnyH_take (i := 1) (v := ?_) rfl (by kernel_rfl) (by kernel_rfl) (by kernel_rfl) (fun _ _ _ h => h) (Or.inl ⟨by rfl, ?_⟩) (by assumption) ?_
  rotate_left
  · intro w hSw; go_simp; try with_reducible rfl
  go_simp
  refine wpAnyH_take (i := 2) (v := ?_) rfl (by kernel_rfl) (by kernel_rfl) (by kernel_rfl) (fun _ _ _ h => h) (Or.inl ⟨by rfl, ?_⟩) (by assumption) ?_
  rotate_left
  · intro w hSw; go_simp; try with_reducible rfl
  go_simp
  refine wpAnyH_take (i := 3) (v := ?_) rfl (by kernel_rfl) (by kernel_rfl) (by kernel_rfl) (fun _ _ _ h => h) (Or.inl ⟨by rfl, ?_⟩) (by assumption) ?_
  rotate_left
  · intro w hSw; go_simp; (try rw [HB2.out]); try with_reducible rfl
  go_simp
  refine wpAnyH_take (i := 4) (v := ?_) rfl (by kernel_rfl) (by kernel_rfl) (by kernel_rfl) (fun _ _ _ h => h) (Or.inl ⟨by rfl, ?_⟩) (by assumption) ?_
  rotate_left
  · intro w hSw; go_simp; try with_reducible rfl
  go_simp
  refine wpAnyH_take (i := 5) (v := undef) rfl (by kernel_rfl) (by kernel_rfl) (by kernel_rfl) (fun _ _ _ h => h) (Or.inr ⟨by rfl, rfl⟩) (by assumption) ?_
  go_simp
  refine wpAnyH_take (i := 6) (v := undef) rfl (by kernel_rfl) (by kernel_rfl) (by kernel_rfl) (fun _ _ _ h => h) (Or.inr ⟨by rfl, rfl⟩) (by assumption) ?_
  go_simp
  refine wpAnyH_take (i := 7) (v := undef) rfl (by kernel_rfl) (by kernel_rfl) (by kernel_rfl) (fun _ _ _ h => h) (Or.inr ⟨by rfl, rfl⟩) (by assumption) ?_
  go_simp
  refine wpAnyH_take (i := 8) (v := undef) rfl (by kernel_rfl) (by kernel_rfl) (by kernel_rfl) (fun _ _ _ h => h) (Or.inr ⟨by rfl, rfl⟩) (by assumption) ?_
  go_simp
  refine wpAnyH_take (i := 9) (v := undef) rfl (by kernel_rfl) (by kernel_rfl) (by kernel_rfl) (fun _ _ _ h => h) (Or.inr ⟨by rfl, rfl⟩) (by assumption) ?_
  go_simp
  refine wpAnyH_take (i := 10) (v := undef) rfl (by kernel_rfl) (by kernel_rfl) (by kernel_rfl) (fun _ _ _ h => h) (Or.inr ⟨by rfl, rfl⟩) (by assumption) ?_
  go_simp
  refine wpAnyH_take (i := 11) (v := ?_) rfl (by kernel_rfl) (by kernel_rfl) (by kernel_rfl) (fun _ _ _ h => h) (Or.inl ⟨by rfl, ?_⟩) (by assumption) ?_
  rotate_left
  · intro w hSw; go_simp; try with_reducible rfl
  go_simp
  refine wpAnyH_take (i := 12) (v := ?_) rfl (by kernel_rfl) (by kernel_rfl) (by kernel_rfl) (fun _ _ _ h => h) (Or.inl ⟨by rfl, ?_⟩) (by assumption) ?_
  rotate_left
  · intro w hSw; go_simp; try with_reducible rfl
  go_simp
  refine wpAnyH_take (i := 13) (v := undef) rfl (by kernel_rfl) (by kernel_rfl) (by kernel_rfl) (fun _ _ _ h => h) (Or.inr ⟨by rfl, rfl⟩) (by assumption) ?_
  go_simp
  refine wpAnyH_take (i := 14) (v := undef) rfl (by kernel_rfl) (by kernel_rfl) (by kernel_rfl) (fun _ _ _ h => h) (Or.inr ⟨by rfl, rfl⟩) (by assumption) ?_
  go_simp
  refine wpAnyH_take (i := 15) (v := undef) rfl (by kernel_rfl) (by kernel_rfl) (by kernel_rfl) (fun _ _ _ h => h) (Or.inr ⟨by rfl, rfl⟩) (by assumption) ?_
  go_simp
  refine wpAnyH_take (i := 16) (v := undef) rfl (by kernel_rfl) (by kernel_rfl) (by kernel_rfl) (fun _ _ _ h => h) (Or.inr ⟨by rfl, rfl⟩) (by assumption) ?_
  go_simp
  refine wpAnyH_take (i := 17) (v := undef) rfl (by kernel_rfl) (by kernel_rfl) (by kernel_rfl) (fun _ _ _ h => h) (Or.inr ⟨by rfl, rfl⟩) (by assumption) ?_
  go_simp
  refine wpAnyH_take (i := 18) (v := undef) rfl (by kernel_rfl) (by kernel_rfl) (by kernel_rfl) (fun _ _ _ h => h) (Or.inr ⟨by rfl, rfl⟩) (by assumption) ?_
  go_simp
  refine wpAnyH_take (i := 19) (v := ?_) rfl (by kernel_rfl) (by kernel_rfl) (by kernel_rfl) (fun _ _ _ h => h) (Or.inl ⟨by rfl, ?_⟩) (by assumption) ?_
  rotate_left
  · intro w hSw; go_simp; try with_reducible rfl
  go_simp
  refine wpAnyH_take (i := 20) (v := ?_) rfl (by kernel_rfl) (by kernel_rfl) (by kernel_rfl) (fun _ _ _ h => h) (Or.inl ⟨by rfl, ?_⟩) (by assumption) ?_
  rotate_left
  · intro w hSw; go_simp; try with_reducible rfl
  go_simp
  refine wpAnyH_take (i := 21) (v := undef) rfl (by kernel_rfl) (by kernel_rfl) (by kernel_rfl) (fun _ _ _ h => h) (Or.inr ⟨by rfl, rfl⟩) (by assumption) ?_
  go_simp
  refine wpAnyH_take (i := 22) (v := undef) rfl (by kernel_rfl) (by kernel_rfl) (by kernel_rfl) (fun _ _ _ h => h) (Or.inr ⟨by rfl, rfl⟩) (by assumption) ?_
  go_simp
  refine wpAnyH_take (i := 23) (v := undef) rfl (by kernel_rfl) (by kernel_rfl) (by kernel_rfl) (fun _ _ _ h => h) (Or.inr ⟨by rfl, rfl⟩) (by assumption) ?_
  go_simp
  refine wpAnyH_take (i := 24) (v := undef) rfl (by kernel_rfl) (by kernel_rfl) (by kernel_rfl) (fun _ _ _ h => h) (Or.inr ⟨by rfl, rfl⟩) (by assumption) ?_
  go_simp
  refine wpAnyH_take (i := 25) (v := undef) rfl (by kernel_rfl) (by kernel_rfl) (by kernel_rfl) (fun _ _ _ h => h) (Or.inr ⟨by rfl, rfl⟩) (by assumption) ?_
  go_simp
  refine wpAnyH_take (i := 26) (v := ?_) rfl (by kernel_rfl) (by kernel_rfl) (by kernel_rfl) (fun _ _ _ h => h) (Or.inl ⟨by rfl, ?_⟩) (by assumption) ?_
  rotate_left
  · intro w hSw; go_simp; try with_reducible rfl
  go_simp
  refine wpAnyH_take (i := 27) (v := ?_) rfl (by kernel_rfl) (by kernel_rfl) (by kernel_rfl) (fun _ _ _ h => h) (Or.inl ⟨by rfl, ?_⟩) (by assumption) ?_
  rotate_left
  · intro w hSw; go_simp; try with_reducible rfl
  go_simp
  refine wpAnyH_take (i := 28) (v := ?_) rfl (by kernel_rfl) (by kernel_rfl) (by kernel_rfl) (fun _ _ _ h => h) (Or.inl ⟨by rfl, ?_⟩) (by assumption) ?_
  rotate_left
  · intro w hSw; go_simp; try with_reducible rfl
  go_simp
  refine wpAnyH_take (i := 29) (v := ?_) rfl (by kernel_rfl) (by kernel_rfl) (by kernel_rfl) (fun _ _ _ h => h) (Or.inl ⟨by rfl, ?_⟩) (by assumption) ?_
  rotate_left
  · intro w hSw; go_simp; (try rw [HV2.out]); try with_reducible rfl
  go_simp
  refine wpAnyH_take (i := 30) (v := ?_) rfl (by kernel_rfl) (by kernel_rfl) (by kernel_rfl) (fun _ _ _ h => h) (Or.inl ⟨by rfl, ?_⟩) (by assumption) ?_
  rotate_left
  · intro w hSw; go_simp; try with_reducible rfl
  go_simp
  refine wpAnyH_take (i := 31) (v := ?_) rfl (by kernel_rfl) (by kernel_rfl) (by kernel_rfl) (fun _ _ _ h => h) (Or.inl ⟨by rfl, ?_⟩) (by assumption) ?_
  rotate_left
  · intro w hSw; have q := kp_cell hSw e70; have q2 := kp_cell hSw e71; go_simp; try with_reducible rfl
  go_simp
  refine wpAnyH_take (i := 32) (v := ?_) rfl (by kernel_rfl) (by kernel_rfl) (by kernel_rfl) (fun _ _ _ h => h) (Or.inl ⟨by rfl, ?_⟩) (by assumption) ?_
  rotate_left
  · intro w hSw; go_simp; try with_reducible rfl
  go_simp
  refine wpAnyH_take (i := 33) (v := ?_) rfl (by kernel_rfl) (by kernel_rfl) (by kernel_rfl) (fun _ _ _ h => h) (Or.inl ⟨by rfl, ?_⟩) (by assumption) ?_
  rotate_left
  · intro w hSw; go_simp; try with_reducible rfl
  go_simp
  refine wpAnyH_take (i := 34) (v := ?_) rfl (by kernel_rfl) (by kernel_rfl) (by kernel_rfl) (fun _ _ _ h => h) (Or.inl ⟨by rfl, ?_⟩) (by assumption) ?_
  rotate_left
  · intro w hSw; go_simp; try with_reducible rfl
  go_simp
  refine wpAnyH_take (i := 35) (v := ?_) rfl (by kernel_rfl) (by kernel_rfl) (by kernel_rfl) (fun _ _ _ h => h) (Or.inl ⟨by rfl, ?_⟩) (by assumption) ?_
  rotate_left
  · intro w hSw; go_simp; try with_reducible rfl
  go_simp
  refine wpAnyH_take (i := 36) (v := ?_) rfl (by kernel_rfl) (by kernel_rfl) (by kernel_rfl) (fun _ _ _ h => h) (Or.inl ⟨by rfl, ?_⟩) (by assumption) ?_
  rotate_left
  · intro w hSw; go_simp; try with_reducible rfl
  go_simp
  refine wpAnyH_take (i := 37) (v := ?_) rfl (by kernel_rfl) (by kernel_rfl) (by kernel_rfl) (fun _ _ _ h => h) (Or.inl ⟨by rfl, ?_⟩) (by assumption) ?_
  rotate_left
  · intro w hSw; go_simp; try with_reducible rfl
  go_simp
  refine wpAnyH_take (i := 38) (v := ?_) rfl (by kernel_rfl) (by kernel_rfl) (by kernel_rfl) (fun _ _ _ h => h) (Or.inl ⟨by rfl, ?_⟩) (by assumption) ?_
  rotate_left
  · intro w hSw; go_simp; try with_reducible rfl
  go_simp
  refine wpAnyH_take (i := 39) (v := ?_) rfl (by kernel_rfl) (by kernel_rfl) (by kernel_rfl) (fun _ _ _ h => h) (Or.inl ⟨by rfl, ?_⟩) (by assumption) ?_
  rotate_left
  · intro w hSw; go_simp; try with_reducible rfl
  go_simp
  refine wpAnyH_take (i := 40) (v := ?_) rfl (by kernel_rfl) (by kernel_rfl) (by kernel_rfl) (fun _ _ _ h => h) (Or.inl ⟨by rfl, ?_⟩) (by assumption) ?_
  rotate_left
  · intro w hSw; go_simp; try with_reducible rfl
  go_simp
  refine wpAnyH_take (i := 41) (v := ?_) rfl (by kernel_rfl) (by kernel_rfl) (by kernel_rfl) (fun _ _ _ h => h) (Or.inl ⟨by rfl, ?_⟩) (by assumption) ?_
  rotate_left
  · intro w hSw; go_simp; try with_reducible rfl
  go_simp
  refine wpAnyH_done (by kernel_rfl) ?_ _
  go_wp2
  go_ret
  exact ⟨by first | rfl | simp [*], KK.out.drew.drew⟩

set_option maxRecDepth 20000 in
set_option maxHeartbeats 1000000 in
theorem rea_ffft (ads : List Addr) (s : ByteArray) (hs : s.size ≤ 200) (w : World) (V : St ads w) (I : IdsC ads w) (h0 : (nodeN (strB s)).2 ≠ 0) (h1 : (actN (strB s)).2 ≠ 0) (h2 : (regN (strB s)).2 ≠ 0) (h3 : (partN (strB s)).2 = 0) :
    Calls Tryd.prog 4 #[.string s] w fun e w' => e = .returned (.bool true) ∧ Kp w w' := by
  have HAL := Lib.hid (fun w1 (hk : Kp w w1) => alive_any ads w1 (V.below hk) (I.kp hk))
  have R0 := fun w1 (hk : Kp w w1) => I.toNode w1 hk s hs
  have R1 := fun w1 (hk : Kp w w1) => I.toAct w1 hk s hs
  have R2 := fun w1 (hk : Kp w w1) => I.toReg w1 hk s hs
  have R3 := fun w1 (hk : Kp w w1) => I.toPart w1 hk s hs
  have N0 := fun w1 => nums_node s hs w1
  have M0 := fun w1 (hk : Kp w w1) => num_errI ads w1 (V.below hk) (nodeN (strB s)).2 (numM_three _ _ _)
  have hl0 : (nodeN (strB s)).1 = [] := numM_bad h0
  obtain ⟨k0, hk0⟩ : ∃ k, (nodeN (strB s)).2 = k := ⟨_, rfl⟩
  rw [hk0] at h0
  obtain ⟨o0, ho0⟩ := errI_some ads k0 h0
  simp only [hk0, hl0, List.getD_nil, ho0] at R0 N0 M0
  have N1 := fun w1 => nums_act s hs w1
  have M1 := fun w1 (hk : Kp w w1) => num_errI ads w1 (V.below hk) (actN (strB s)).2 (numM_three _ _ _)
  have hl1 : (actN (strB s)).1 = [] := numM_bad h1
  obtain ⟨k1, hk1⟩ : ∃ k, (actN (strB s)).2 = k := ⟨_, rfl⟩
  rw [hk1] at h1
  obtain ⟨o1, ho1⟩ := errI_some ads k1 h1
  simp only [hk1, hl1, List.getD_nil, ho1] at R1 N1 M1
  have N2 := fun w1 => nums_reg s hs w1
  have M2 := fun w1 (hk : Kp w w1) => num_errI ads w1 (V.below hk) (regN (strB s)).2 (numM_three _ _ _)
  have hl2 : (regN (strB s)).1 = [] := numM_bad h2
  obtain ⟨k2, hk2⟩ : ∃ k, (regN (strB s)).2 = k := ⟨_, rfl⟩
  rw [hk2] at h2
  obtain ⟨o2, ho2⟩ := errI_some ads k2 h2
  simp only [hk2, hl2, List.getD_nil, ho2] at R2 N2 M2
  have N3 := fun w1 => nums_part s hs w1
  have M3 := fun w1 (hk : Kp w w1) => num_errI ads w1 (V.below hk) (partN (strB s)).2 (numM_three _ _ _)
  have L3 := numM_len h3
  obtain ⟨v30, v31, hl3⟩ : ∃ v30 v31, (partN (strB s)).1 = [v30, v31] := by
    have e : (partN (strB s)).1.length = 2 := L3
    match h : (partN (strB s)).1, e with
    | [v30, v31], _ => exact ⟨_, _, rfl⟩
  simp only [h3, hl3, List.getD_cons_zero, List.getD_cons_succ] at R3 N3 M3
  simp only [show [v30, v31].length = 2 from rfl] at N3
  have a0 : errI ads 0 = .nilIface := rfl
  simp only [a0] at R3 M3
  have R0 := Lib.hid R0
  have N0 := Lib.hid N0
  have M0 := Lib.hid M0
  have R1 := Lib.hid R1
  have N1 := Lib.hid N1
  have M1 := Lib.hid M1
  have R2 := Lib.hid R2
  have N2 := Lib.hid N2
  have M2 := Lib.hid M2
  have R3 := Lib.hid R3
  have N3 := Lib.hid N3
  have M3 := Lib.hid M3
  have HB0 := Lib.hid (show (k0 == 0) = false from beq_eq_false_iff_ne.2 h0)
  have HV0 := Lib.hid (show (k0 != 0) = true by simp [bne, h0])
  have z0 : ¬ k0 = 0 := h0
  have HB1 := Lib.hid (show (k1 == 0) = false from beq_eq_false_iff_ne.2 h1)
  have HV1 := Lib.hid (show (k1 != 0) = true by simp [bne, h1])
  have z1 : ¬ k1 = 0 := h1
  have HB2 := Lib.hid (show (k2 == 0) = false from beq_eq_false_iff_ne.2 h2)
  have HV2 := Lib.hid (show (k2 != 0) = true by simp [bne, h2])
  have z2 : ¬ k2 = 0 := h2
  obtain ⟨ns, hns⟩ : ∃ n : Int, (s.size : Int) = n := ⟨_, rfl⟩
  have hg : ¬ ns > 200 := by omega
  clear V I a0 h0 hl0 hk0 ho0 h1 hl1 hk1 ho1 h2 hl2 hk2 ho2 h3 hl3 L3
  go_enter Tryd.func4, Tryd.ntmps4
  go_wp2_with (go_at_call 7; (with_reducible refine (HAL.out _ (Kp.refl _)).mono ?_); rintro e w1 ⟨rfl, hk⟩; have KK := Lib.hid hk; clear hk)
  go_wp2_with (go_at_call 19; (with_reducible refine (R0.out _ KK.out).mono ?_); rintro e w2 ⟨rfl, hk⟩; have KK := Lib.hid (Kp.trans KK.out hk); clear hk)
  go_wp2_with (go_at_call 20; (with_reducible refine (R1.out _ KK.out).mono ?_); rintro e w3 ⟨rfl, hk⟩; have KK := Lib.hid (Kp.trans KK.out hk); clear hk)
  go_wp2_with (go_at_call 21; (with_reducible refine (R2.out _ (Kp.trans KK.out (kp_alloc _ _))).mono ?_); rintro e w4 ⟨rfl, hk⟩; have t_ := kp_row hk (MapKept.heap_alloc w3 (.cells #[.int .i64 0, .int .i64 0] 23)).1; have B5 := Lib.hid t_; clear t_; have KK := Lib.hid (Kp.trans (Kp.trans KK.out (kp_alloc _ _)) hk); clear hk)
  go_wp2_with (go_at_call 22; (with_reducible refine (R3.out _ (Kp.trans KK.out (kp_alloc _ _))).mono ?_); rintro e w5 ⟨rfl, hk⟩; have t_ := kp_row hk (MapKept.heap_alloc w4 (.cells #[.int .i64 0, .int .i64 0] 23)).1; have B7 := Lib.hid t_; clear t_; have t_ := kp_row (Kp.trans (kp_alloc _ _) hk) B5.out; have B5 := Lib.hid t_; clear t_; have KK := Lib.hid (Kp.trans (Kp.trans KK.out (kp_alloc _ _)) hk); clear hk)
  go_wp2_with (go_at_call 23; (with_reducible refine (N0.out _).mono ?_); rintro e w6 ⟨u0, rfl, ho, hk⟩; have t_ := kp_row hk B5.out; have B5 := Lib.hid t_; clear t_; have t_ := kp_row hk B7.out; have B7 := Lib.hid t_; clear t_; have KK := Lib.hid (Kp.trans KK.out hk); clear hk ho)
  go_wp2_with (go_at_call 23; (with_reducible refine (N1.out _).mono ?_); rintro e w7 ⟨u1, rfl, ho, hk⟩; have t_ := kp_row hk B5.out; have B5 := Lib.hid t_; clear t_; have t_ := kp_row hk B7.out; have B7 := Lib.hid t_; clear t_; have KK := Lib.hid (Kp.trans KK.out hk); clear hk ho)
  go_wp2_with (go_at_call 23; (with_reducible refine (N2.out _).mono ?_); rintro e w8 ⟨u2, rfl, ho, hk⟩; have t_ := kp_row hk B5.out; have B5 := Lib.hid t_; clear t_; have t_ := kp_row hk B7.out; have B7 := Lib.hid t_; clear t_; have KK := Lib.hid (Kp.trans KK.out hk); clear hk ho)
  go_wp2_with (go_at_call 23; (with_reducible refine (N3.out _).mono ?_); rintro e w9 ⟨u3, rfl, ho, hk⟩; have t_ := kp_row hk B5.out; have B5 := Lib.hid t_; clear t_; have t_ := kp_row hk B7.out; have B7 := Lib.hid t_; clear t_; obtain ⟨g3, c3, rfl⟩ := own_gi ho (by simp); have O3 := Lib.hid ho; have KK := Lib.hid (Kp.trans KK.out hk); clear hk ho)
  go_wp2_with (first | (go_at_call 24; (with_reducible refine (M0.out _ KK.out).mono ?_); rintro e wn ⟨rfl, hk⟩; have t_ := kp_row hk B5.out; have B5 := Lib.hid t_; clear t_; have t_ := kp_row hk B7.out; have B7 := Lib.hid t_; clear t_; have t_ := own_kp O3.out hk; have O3 := Lib.hid t_; clear t_; (try clear e50 e51 e70 e71 f30 f31); obtain ⟨e50, e51⟩ := cell_two B5.out; obtain ⟨e70, e71⟩ := cell_two B7.out; have f30 : wn.cell? ⟨g3, 0, none⟩ = some (.int .i64 v30) := O3.out.cellAt 0 (by decide); have f31 : wn.cell? ⟨g3, 1, none⟩ = some (.int .i64 v31) := O3.out.cellAt 1 (by decide); have KK := Lib.hid (Kp.trans KK.out hk); clear hk) | (go_at_call 24; (with_reducible refine (M1.out _ KK.out).mono ?_); rintro e wn ⟨rfl, hk⟩; have t_ := kp_row hk B5.out; have B5 := Lib.hid t_; clear t_; have t_ := kp_row hk B7.out; have B7 := Lib.hid t_; clear t_; have t_ := own_kp O3.out hk; have O3 := Lib.hid t_; clear t_; (try clear e50 e51 e70 e71 f30 f31); obtain ⟨e50, e51⟩ := cell_two B5.out; obtain ⟨e70, e71⟩ := cell_two B7.out; have f30 : wn.cell? ⟨g3, 0, none⟩ = some (.int .i64 v30) := O3.out.cellAt 0 (by decide); have f31 : wn.cell? ⟨g3, 1, none⟩ = some (.int .i64 v31) := O3.out.cellAt 1 (by decide); have KK := Lib.hid (Kp.trans KK.out hk); clear hk) | (go_at_call 24; (with_reducible refine (M2.out _ KK.out).mono ?_); rintro e wn ⟨rfl, hk⟩; have t_ := kp_row hk B5.out; have B5 := Lib.hid t_; clear t_; have t_ := kp_row hk B7.out; have B7 := Lib.hid t_; clear t_; have t_ := own_kp O3.out hk; have O3 := Lib.hid t_; clear t_; (try clear e50 e51 e70 e71 f30 f31); obtain ⟨e50, e51⟩ := cell_two B5.out; obtain ⟨e70, e71⟩ := cell_two B7.out; have f30 : wn.cell? ⟨g3, 0, none⟩ = some (.int .i64 v30) := O3.out.cellAt 0 (by decide); have f31 : wn.cell? ⟨g3, 1, none⟩ = some (.int .i64 v31) := O3.out.cellAt 1 (by decide); have KK := Lib.hid (Kp.trans KK.out hk); clear hk) | (go_at_call 24; (with_reducible refine (M3.out _ KK.out).mono ?_); rintro e wn ⟨rfl, hk⟩; have t_ := kp_row hk B5.out; have B5 := Lib.hid t_; clear t_; have t_ := kp_row hk B7.out; have B7 := Lib.hid t_; clear t_; have t_ := own_kp O3.out hk; have O3 := Lib.hid t_; clear t_; (try clear e50 e51 e70 e71 f30 f31); obtain ⟨e50, e51⟩ := cell_two B5.out; obtain ⟨e70, e71⟩ := cell_two B7.out; have f30 : wn.cell? ⟨g3, 0, none⟩ = some (.int .i64 v30) := O3.out.cellAt 0 (by decide); have f31 : wn.cell? ⟨g3, 1, none⟩ = some (.int .i64 v31) := O3.out.cellAt 1 (by decide); have KK := Lib.hid (Kp.trans KK.out hk); clear hk))
  rw [HV0.out]
  refine wp_region_held_drew (S := fun w' => Kp wn w') (by kernel_rfl) ?_ (fun hHeld => ?_)
  · exact (Kp.refl wn).drew
  refine wpAnyH_take (i := 0) (v := ?_) rfl (by kernel_rfl) (by kernel_rfl) (by kernel_rfl) (fun _ _ _ h => h) (Or.inl ⟨by rfl, ?_⟩) (by assumption) ?_
  rotate_left
  · intro w hSw; go_simp; try with_reducible rfl
  go_simp
  refine wpAnyH_take (i := 1) (v := ?_) rfl (by kernel_rfl) (by kernel_rfl) (by kernel_rfl) (fun _ _ _ h => h) (Or.inl ⟨by rfl, ?_⟩) (by assumption) ?_
  rotate_left
  · intro w hSw; go_simp; try with_reducible rfl
  go_simp
  refine wpAnyH_take (i := 2) (v := ?_) rfl (by kernel_rfl) (by kernel_rfl) (by kernel_rfl) (fun _ _ _ h => h) (Or.inl ⟨by rfl, ?_⟩) (by assumption) ?_
  rotate_left
  · intro w hSw; go_simp; try with_reducible rfl
  go_simp
  refine wpAnyH_take (i := 3) (v := ?_) rfl (by kernel_rfl) (by kernel_rfl) (by kernel_rfl) (fun _ _ _ h => h) (Or.inl ⟨by rfl, ?_⟩) (by assumption) ?_
  rotate_left
  · intro w hSw; go_simp; (try rw [HB1.out]); try with_reducible rfl
  go_simp
  refine wpAnyH_take (i := 4) (v := ?_) rfl (by kernel_rfl) (by kernel_rfl) (by kernel_rfl) (fun _ _ _ h => h) (Or.inl ⟨by rfl, ?_⟩) (by assumption) ?_
  rotate_left
  · intro w hSw; go_simp; try with_reducible rfl
  go_simp
  refine wpAnyH_take (i := 5) (v := undef) rfl (by kernel_rfl) (by kernel_rfl) (by kernel_rfl) (fun _ _ _ h => h) (Or.inr ⟨by rfl, rfl⟩) (by assumption) ?_
  go_simp
  refine wpAnyH_take (i := 6) (v := undef) rfl (by kernel_rfl) (by kernel_rfl) (by kernel_rfl) (fun _ _ _ h => h) (Or.inr ⟨by rfl, rfl⟩) (by assumption) ?_
  go_simp
  refine wpAnyH_take (i := 7) (v := undef) rfl (by kernel_rfl) (by kernel_rfl) (by kernel_rfl) (fun _ _ _ h => h) (Or.inr ⟨by rfl, rfl⟩) (by assumption) ?_
  go_simp
  refine wpAnyH_take (i := 8) (v := undef) rfl (by kernel_rfl) (by kernel_rfl) (by kernel_rfl) (fun _ _ _ h => h) (Or.inr ⟨by rfl, rfl⟩) (by assumption) ?_
  go_simp
  refine wpAnyH_take (i := 9) (v := undef) rfl (by kernel_rfl) (by kernel_rfl) (by kernel_rfl) (fun _ _ _ h => h) (Or.inr ⟨by rfl, rfl⟩) (by assumption) ?_
  go_simp
  refine wpAnyH_take (i := 10) (v := undef) rfl (by kernel_rfl) (by kernel_rfl) (by kernel_rfl) (fun _ _ _ h => h) (Or.inr ⟨by rfl, rfl⟩) (by assumption) ?_
  go_simp
  refine wpAnyH_take (i := 11) (v := ?_) rfl (by kernel_rfl) (by kernel_rfl) (by kernel_rfl) (fun _ _ _ h => h) (Or.inl ⟨by rfl, ?_⟩) (by assumption) ?_
  rotate_left
  · intro w hSw; go_simp; try with_reducible rfl
  go_simp
  refine wpAnyH_take (i := 12) (v := ?_) rfl (by kernel_rfl) (by kernel_rfl) (by kernel_rfl) (fun _ _ _ h => h) (Or.inl ⟨by rfl, ?_⟩) (by assumption) ?_
  rotate_left
  · intro w hSw; go_simp; try with_reducible rfl
  go_simp
  refine wpAnyH_take (i := 13) (v := undef) rfl (by kernel_rfl) (by kernel_rfl) (by kernel_rfl) (fun _ _ _ h => h) (Or.inr ⟨by rfl, rfl⟩) (by assumption) ?_
  go_simp
  refine wpAnyH_take (i := 14) (v := undef) rfl (by kernel_rfl) (by kernel_rfl) (by kernel_rfl) (fun _ _ _ h => h) (Or.inr ⟨by rfl, rfl⟩) (by assumption) ?_
  go_simp
  refine wpAnyH_take (i := 15) (v := undef) rfl (by kernel_rfl) (by kernel_rfl) (by kernel_rfl) (fun _ _ _ h => h) (Or.inr ⟨by rfl, rfl⟩) (by assumption) ?_
  go_simp
  refine wpAnyH_take (i := 16) (v := undef) rfl (by kernel_rfl) (by kernel_rfl) (by kernel_rfl) (fun _ _ _ h => h) (Or.inr ⟨by rfl, rfl⟩) (by assumption) ?_
  go_simp
  refine wpAnyH_take (i := 17) (v := undef) rfl (by kernel_rfl) (by kernel_rfl) (by kernel_rfl) (fun _ _ _ h => h) (Or.inr ⟨by rfl, rfl⟩) (by assumption) ?_
  go_simp
  refine wpAnyH_take (i := 18) (v := undef) rfl (by kernel_rfl) (by kernel_rfl) (by kernel_rfl) (fun _ _ _ h => h) (Or.inr ⟨by rfl, rfl⟩) (by assumption) ?_
  go_simp
  refine wpAnyH_take (i := 19) (v := ?_) rfl (by kernel_rfl) (by kernel_rfl) (by kernel_rfl) (fun _ _ _ h => h) (Or.inl ⟨by rfl, ?_⟩) (by assumption) ?_
  rotate_left
  · intro w hSw; go_simp; try with_reducible rfl
  go_simp
  refine wpAnyH_take (i := 20) (v := ?_) rfl (by kernel_rfl) (by kernel_rfl) (by kernel_rfl) (fun _ _ _ h => h) (Or.inl ⟨by rfl, ?_⟩) (by assumption) ?_
  rotate_left
  · intro w hSw; go_simp; try with_reducible rfl
  go_simp
  refine wpAnyH_take (i := 21) (v := ?_) rfl (by kernel_rfl) (by kernel_rfl) (by kernel_rfl) (fun _ _ _ h => h) (Or.inl ⟨by rfl, ?_⟩) (by assumption) ?_
  rotate_left
  · intro w hSw; go_simp; try with_reducible rfl
  go_simp
  refine wpAnyH_take (i := 22) (v := ?_) rfl (by kernel_rfl) (by kernel_rfl) (by kernel_rfl) (fun _ _ _ h => h) (Or.inl ⟨by rfl, ?_⟩) (by assumption) ?_
  rotate_left
  · intro w hSw; go_simp; (try rw [HV1.out]); try with_reducible rfl
  go_simp
  refine wpAnyH_take (i := 23) (v := ?_) rfl (by kernel_rfl) (by kernel_rfl) (by kernel_rfl) (fun _ _ _ h => h) (Or.inl ⟨by rfl, ?_⟩) (by assumption) ?_
  rotate_left
  · intro w hSw; go_simp; try with_reducible rfl
  go_simp
  refine wpAnyH_take (i := 24) (v := ?_) rfl (by kernel_rfl) (by kernel_rfl) (by kernel_rfl) (fun _ _ _ h => h) (Or.inl ⟨by rfl, ?_⟩) (by assumption) ?_
  rotate_left
  · intro w hSw; have q := kp_cell hSw e50; have q2 := kp_cell hSw e51; go_simp; try with_reducible rfl
  go_simp
  refine wpAnyH_take (i := 25) (v := ?_) rfl (by kernel_rfl) (by kernel_rfl) (by kernel_rfl) (fun _ _ _ h => h) (Or.inl ⟨by rfl, ?_⟩) (by assumption) ?_
  rotate_left
  · intro w hSw; go_simp; try with_reducible rfl
  go_simp
  refine wpAnyH_take (i := 26) (v := ?_) rfl (by kernel_rfl) (by kernel_rfl) (by kernel_rfl) (fun _ _ _ h => h) (Or.inl ⟨by rfl, ?_⟩) (by assumption) ?_
  rotate_left
  · intro w hSw; go_simp; try with_reducible rfl
  go_simp
  refine wpAnyH_take (i := 27) (v := ?_) rfl (by kernel_rfl) (by kernel_rfl) (by kernel_rfl) (fun _ _ _ h => h) (Or.inl ⟨by rfl, ?_⟩) (by assumption) ?_
  rotate_left
  · intro w hSw; go_simp; try with_reducible rfl
  go_simp
  refine wpAnyH_take (i := 28) (v := ?_) rfl (by kernel_rfl) (by kernel_rfl) (by kernel_rfl) (fun _ _ _ h => h) (Or.inl ⟨by rfl, ?_⟩) (by assumption) ?_
  rotate_left
  · intro w hSw; go_simp; try with_reducible rfl
  go_simp
  refine wpAnyH_take (i := 29) (v := ?_) rfl (by kernel_rfl) (by kernel_rfl) (by kernel_rfl) (fun _ _ _ h => h) (Or.inl ⟨by rfl, ?_⟩) (by assumption) ?_
  rotate_left
  · intro w hSw; go_simp; try with_reducible rfl
  go_simp
  refine wpAnyH_take (i := 30) (v := ?_) rfl (by kernel_rfl) (by kernel_rfl) (by kernel_rfl) (fun _ _ _ h => h) (Or.inl ⟨by rfl, ?_⟩) (by assumption) ?_
  rotate_left
  · intro w hSw; go_simp; try with_reducible rfl
  go_simp
  refine wpAnyH_done (by kernel_rfl) ?_ _
  go_wp2
  refine wp_region_held_drew (S := fun w' => Kp wn w') (by kernel_rfl) ?_ (fun hHeld => ?_)
  · exact (Kp.refl wn).drew.drew
  refine wpAnyH_take (i := 0) (v := ?_) rfl (by kernel_rfl) (by kernel_rfl) (by kernel_rfl) (fun _ _ _ h => h) (Or.inl ⟨by rfl, ?_⟩) (by assumption) ?_
  rotate_left
  · intro w hSw; go_simp; try with_reducible rfl
  go_simp
  refine wpAnyH_take (i := 1) (v := ?_) rfl (by kernel_rfl) (by kernel_rfl) (by kernel_rfl) (fun _ _ _ h => h) (Or.inl ⟨by rfl, ?_⟩) (by assumption) ?_
  rotate_left
  · intro w hSw; go_simp; try with_reducible rfl
  go_simp
  refine wpAnyH_take (i := 2) (v := ?_) rfl (by kernel_rfl) (by kernel_rfl) (by kernel_rfl) (fun _ _ _ h => h) (Or.inl ⟨by rfl, ?_⟩) (by assumption) ?_
  rotate_left
  · intro w hSw; go_simp; try with_reducible rfl
  go_simp
  refine wpAnyH_take (i := 3) (v := ?_) rfl (by kernel_rfl) (by kernel_rfl) (by kernel_rfl) (fun _ _ _ h => h) (Or.inl ⟨by rfl, ?_⟩) (by assumption) ?_
  rotate_left
  · intro w hSw; go_simp; (try rw [HB2.out]); try with_reducible rfl
  go_simp
  refine wpAnyH_take (i := 4) (v := ?_) rfl (by kernel_rfl) (by kernel_rfl) (by kernel_rfl) (fun _ _ _ h => h) (Or.inl ⟨by rfl, ?_⟩) (by assumption) ?_
  rotate_left
  · intro w hSw; go_simp; try with_reducible rfl
  go_simp
  refine wpAnyH_take (i := 5) (v := undef) rfl (by kernel_rfl) (by kernel_rfl) (by kernel_rfl) (fun _ _ _ h => h) (Or.inr ⟨by rfl, rfl⟩) (by assumption) ?_
  go_simp
  refine wpAnyH_take (i := 6) (v := undef) rfl (by kernel_rfl) (by kernel_rfl) (by kernel_rfl) (fun _ _ _ h => h) (Or.inr ⟨by rfl, rfl⟩) (by assumption) ?_
  go_simp
  refine wpAnyH_take (i := 7) (v := undef) rfl (by kernel_rfl) (by kernel_rfl) (by kernel_rfl) (fun _ _ _ h => h) (Or.inr ⟨by rfl, rfl⟩) (by assumption) ?_
  go_simp
  refine wpAnyH_take (i := 8) (v := undef) rfl (by kernel_rfl) (by kernel_rfl) (by kernel_rfl) (fun _ _ _ h => h) (Or.inr ⟨by rfl, rfl⟩) (by assumption) ?_
  go_simp
  refine wpAnyH_take (i := 9) (v := undef) rfl (by kernel_rfl) (by kernel_rfl) (by kernel_rfl) (fun _ _ _ h => h) (Or.inr ⟨by rfl, rfl⟩) (by assumption) ?_
  go_simp
  refine wpAnyH_take (i := 10) (v := undef) rfl (by kernel_rfl) (by kernel_rfl) (by kernel_rfl) (fun _ _ _ h => h) (Or.inr ⟨by rfl, rfl⟩) (by assumption) ?_
  go_simp
  refine wpAnyH_take (i := 11) (v := ?_) rfl (by kernel_rfl) (by kernel_rfl) (by kernel_rfl) (fun _ _ _ h => h) (Or.inl ⟨by rfl, ?_⟩) (by assumption) ?_
  rotate_left
  · intro w hSw; go_simp; try with_reducible rfl
  go_simp
  refine wpAnyH_take (i := 12) (v := ?_) rfl (by kernel_rfl) (by kernel_rfl) (by kernel_rfl) (fun _ _ _ h => h) (Or.inl ⟨by rfl, ?_⟩) (by assumption) ?_
  rotate_left
  · intro w hSw; go_simp; try with_reducible rfl
  go_simp
  refine wpAnyH_take (i := 13) (v := undef) rfl (by kernel_rfl) (by kernel_rfl) (by kernel_rfl) (fun _ _ _ h => h) (Or.inr ⟨by rfl, rfl⟩) (by assumption) ?_
  go_simp
  refine wpAnyH_take (i := 14) (v := undef) rfl (by kernel_rfl) (by kernel_rfl) (by kernel_rfl) (fun _ _ _ h => h) (Or.inr ⟨by rfl, rfl⟩) (by assumption) ?_
  go_simp
  refine wpAnyH_take (i := 15) (v := undef) rfl (by kernel_rfl) (by kernel_rfl) (by kernel_rfl) (fun _ _ _ h => h) (Or.inr ⟨by rfl, rfl⟩) (by assumption) ?_
  go_simp
  refine wpAnyH_take (i := 16) (v := undef) rfl (by kernel_rfl) (by kernel_rfl) (by kernel_rfl) (fun _ _ _ h => h) (Or.inr ⟨by rfl, rfl⟩) (by assumption) ?_
  go_simp
  refine wpAnyH_take (i := 17) (v := undef) rfl (by kernel_rfl) (by kernel_rfl) (by kernel_rfl) (fun _ _ _ h => h) (Or.inr ⟨by rfl, rfl⟩) (by assumption) ?_
  go_simp
  refine wpAnyH_take (i := 18) (v := undef) rfl (by kernel_rfl) (by kernel_rfl) (by kernel_rfl) (fun _ _ _ h => h) (Or.inr ⟨by rfl, rfl⟩) (by assumption) ?_
  go_simp
  refine wpAnyH_take (i := 19) (v := ?_) rfl (by kernel_rfl) (by kernel_rfl) (by kernel_rfl) (fun _ _ _ h => h) (Or.inl ⟨by rfl, ?_⟩) (by assumption) ?_
  rotate_left
  · intro w hSw; go_simp; try with_reducible rfl
  go_simp
  refine wpAnyH_take (i := 20) (v := ?_) rfl (by kernel_rfl) (by kernel_rfl) (by kernel_rfl) (fun _ _ _ h => h) (Or.inl ⟨by rfl, ?_⟩) (by assumption) ?_
  rotate_left
  · intro w hSw; go_simp; try with_reducible rfl
  go_simp
  refine wpAnyH_take (i := 21) (v := undef) rfl (by kernel_rfl) (by kernel_rfl) (by kernel_rfl) (fun _ _ _ h => h) (Or.inr ⟨by rfl, rfl⟩) (by assumption) ?_
  go_simp
  refine wpAnyH_take (i := 22) (v := undef) rfl (by kernel_rfl) (by kernel_rfl) (by kernel_rfl) (fun _ _ _ h => h) (Or.inr ⟨by rfl, rfl⟩) (by assumption) ?_
  go_simp
  refine wpAnyH_take (i := 23) (v := undef) rfl (by kernel_rfl) (by kernel_rfl) (by kernel_rfl) (fun _ _ _ h => h) (Or.inr ⟨by rfl, rfl⟩) (by assumption) ?_
  go_simp
  refine wpAnyH_take (i := 24) (v := undef) rfl (by kernel_rfl) (by kernel_rfl) (by kernel_rfl) (fun _ _ _ h => h) (Or.inr ⟨by rfl, rfl⟩) (by assumption) ?_
  go_simp
  refine wpAnyH_take (i := 25) (v := undef) rfl (by kernel_rfl) (by kernel_rfl) (by kernel_rfl) (fun _ _ _ h => h) (Or.inr ⟨by rfl, rfl⟩) (by assumption) ?_
  go_simp
  refine wpAnyH_take (i := 26) (v := ?_) rfl (by kernel_rfl) (by kernel_rfl) (by kernel_rfl) (fun _ _ _ h => h) (Or.inl ⟨by rfl, ?_⟩) (by assumption) ?_
  rotate_left
  · intro w hSw; go_simp; try with_reducible rfl
  go_simp
  refine wpAnyH_take (i := 27) (v := ?_) rfl (by kernel_rfl) (by kernel_rfl) (by kernel_rfl) (fun _ _ _ h => h) (Or.inl ⟨by rfl, ?_⟩) (by assumption) ?_
  rotate_left
  · intro w hSw; go_simp; try with_reducible rfl
  go_simp
  refine wpAnyH_take (i := 28) (v := ?_) rfl (by kernel_rfl) (by kernel_rfl) (by kernel_rfl) (fun _ _ _ h => h) (Or.inl ⟨by rfl, ?_⟩) (by assumption) ?_
  rotate_left
  · intro w hSw; go_simp; try with_reducible rfl
  go_simp
  refine wpAnyH_take (i := 29) (v := ?_) rfl (by kernel_rfl) (by kernel_rfl) (by kernel_rfl) (fun _ _ _ h => h) (Or.inl ⟨by rfl, ?_⟩) (by assumption) ?_
  rotate_left
  · intro w hSw; go_simp; (try rw [HV2.out]); try with_reducible rfl
  go_simp
  refine wpAnyH_take (i := 30) (v := ?_) rfl (by kernel_rfl) (by kernel_rfl) (by kernel_rfl) (fun _ _ _ h => h) (Or.inl ⟨by rfl, ?_⟩) (by assumption) ?_
  rotate_left
  · intro w hSw; go_simp; try with_reducible rfl
  go_simp
  refine wpAnyH_take (i := 31) (v := ?_) rfl (by kernel_rfl) (by kernel_rfl) (by kernel_rfl) (fun _ _ _ h => h) (Or.inl ⟨by rfl, ?_⟩) (by assumption) ?_
  rotate_left
  · intro w hSw; have q := kp_cell hSw e70; have q2 := kp_cell hSw e71; go_simp; try with_reducible rfl
  go_simp
  refine wpAnyH_take (i := 32) (v := ?_) rfl (by kernel_rfl) (by kernel_rfl) (by kernel_rfl) (fun _ _ _ h => h) (Or.inl ⟨by rfl, ?_⟩) (by assumption) ?_
  rotate_left
  · intro w hSw; go_simp; try with_reducible rfl
  go_simp
  refine wpAnyH_take (i := 33) (v := ?_) rfl (by kernel_rfl) (by kernel_rfl) (by kernel_rfl) (fun _ _ _ h => h) (Or.inl ⟨by rfl, ?_⟩) (by assumption) ?_
  rotate_left
  · intro w hSw; go_simp; try with_reducible rfl
  go_simp
  refine wpAnyH_take (i := 34) (v := ?_) rfl (by kernel_rfl) (by kernel_rfl) (by kernel_rfl) (fun _ _ _ h => h) (Or.inl ⟨by rfl, ?_⟩) (by assumption) ?_
  rotate_left
  · intro w hSw; go_simp; try with_reducible rfl
  go_simp
  refine wpAnyH_take (i := 35) (v := ?_) rfl (by kernel_rfl) (by kernel_rfl) (by kernel_rfl) (fun _ _ _ h => h) (Or.inl ⟨by rfl, ?_⟩) (by assumption) ?_
  rotate_left
  · intro w hSw; go_simp; try with_reducible rfl
  go_simp
  refine wpAnyH_take (i := 36) (v := ?_) rfl (by kernel_rfl) (by kernel_rfl) (by kernel_rfl) (fun _ _ _ h => h) (Or.inl ⟨by rfl, ?_⟩) (by assumption) ?_
  rotate_left
  · intro w hSw; go_simp; try with_reducible rfl
  go_simp
  refine wpAnyH_take (i := 37) (v := ?_) rfl (by kernel_rfl) (by kernel_rfl) (by kernel_rfl) (fun _ _ _ h => h) (Or.inl ⟨by rfl, ?_⟩) (by assumption) ?_
  rotate_left
  · intro w hSw; go_simp; try with_reducible rfl
  go_simp
  refine wpAnyH_take (i := 38) (v := ?_) rfl (by kernel_rfl) (by kernel_rfl) (by kernel_rfl) (fun _ _ _ h => h) (Or.inl ⟨by rfl, ?_⟩) (by assumption) ?_
  rotate_left
  · intro w hSw; go_simp; try with_reducible rfl
  go_simp
  refine wpAnyH_take (i := 39) (v := ?_) rfl (by kernel_rfl) (by kernel_rfl) (by kernel_rfl) (fun _ _ _ h => h) (Or.inl ⟨by rfl, ?_⟩) (by assumption) ?_
  rotate_left
  · intro w hSw; go_simp; try with_reducible rfl
  go_simp
  refine wpAnyH_take (i := 40) (v := ?_) rfl (by kernel_rfl) (by kernel_rfl) (by kernel_rfl) (fun _ _ _ h => h) (Or.inl ⟨by rfl, ?_⟩) (by assumption) ?_
  rotate_left
  · intro w hSw; go_simp; try with_reducible rfl
  go_simp
  refine wpAnyH_take (i := 41) (v := ?_) rfl (by kernel_rfl) (by kernel_rfl) (by kernel_rfl) (fun _ _ _ h => h) (Or.inl ⟨by rfl, ?_⟩) (by assumption) ?_
  rotate_left
  · intro w hSw; go_simp; try with_reducible rfl
  go_simp
  refine wpAnyH_done (by kernel_rfl) ?_ _
  go_wp2
  go_ret
  exact ⟨by first | rfl | simp [*], KK.out.drew.drew⟩

set_option maxRecDepth 20000 in
set_option maxHeartbeats 1000000 in
theorem rea_fftf (ads : List Addr) (s : ByteArray) (hs : s.size ≤ 200) (w : World) (V : St ads w) (I : IdsC ads w) (h0 : (nodeN (strB s)).2 ≠ 0) (h1 : (actN (strB s)).2 ≠ 0) (h2 : (regN (strB s)).2 = 0) (h3 : (partN (strB s)).2 ≠ 0) :
    Calls Tryd.prog 4 #[.string s] w fun e w' => e = .returned (.bool true) ∧ Kp w w' := by
  have HAL := Lib.hid (fun w1 (hk : Kp w w1) => alive_any ads w1 (V.below hk) (I.kp hk))
  have R0 := fun w1 (hk : Kp w w1) => I.toNode w1 hk s hs
  have R1 := fun w1 (hk : Kp w w1) => I.toAct w1 hk s hs
  have R2 := fun w1 (hk : Kp w w1) => I.toReg w1 hk s hs
  have R3 := fun w1 (hk : Kp w w1) => I.toPart w1 hk s hs
  have N0 := fun w1 => nums_node s hs w1
  have M0 := fun w1 (hk : Kp w w1) => num_errI ads w1 (V.below hk) (nodeN (strB s)).2 (numM_three _ _ _)
  have hl0 : (nodeN (strB s)).1 = [] := numM_bad h0
  obtain ⟨k0, hk0⟩ : ∃ k, (nodeN (strB s)).2 = k := ⟨_, rfl⟩
  rw [hk0] at h0
  obtain ⟨o0, ho0⟩ := errI_some ads k0 h0
  simp only [hk0, hl0, List.getD_nil, ho0] at R0 N0 M0
  have N1 := fun w1 => nums_act s hs w1
  have M1 := fun w1 (hk : Kp w w1) => num_errI ads w1 (V.below hk) (actN (strB s)).2 (numM_three _ _ _)
  have hl1 : (actN (strB s)).1 = [] := numM_bad h1
  obtain ⟨k1, hk1⟩ : ∃ k, (actN (strB s)).2 = k := ⟨_, rfl⟩
  rw [hk1] at h1
  obtain ⟨o1, ho1⟩ := errI_some ads k1 h1
  simp only [hk1, hl1, List.getD_nil, ho1] at R1 N1 M1
  have N2 := fun w1 => nums_reg s hs w1
  have M2 := fun w1 (hk : Kp w w1) => num_errI ads w1 (V.below hk) (regN (strB s)).2 (numM_three _ _ _)
  have L2 := numM_len h2
  obtain ⟨v20, v21, v22, hl2⟩ : ∃ v20 v21 v22, (regN (strB s)).1 = [v20, v21, v22] := by
    have e : (regN (strB s)).1.length = 3 := L2
    match h : (regN (strB s)).1, e with
    | [v20, v21, v22], _ => exact ⟨_, _, _, rfl⟩
  simp only [h2, hl2, List.getD_cons_zero, List.getD_cons_succ] at R2 N2 M2
  simp only [show [v20, v21, v22].length = 3 from rfl] at N2
  have N3 := fun w1 => nums_part s hs w1
  have M3 := fun w1 (hk : Kp w w1) => num_errI ads w1 (V.below hk) (partN (strB s)).2 (numM_three _ _ _)
  have hl3 : (partN (strB s)).1 = [] := numM_bad h3
  obtain ⟨k3, hk3⟩ : ∃ k, (partN (strB s)).2 = k := ⟨_, rfl⟩
  rw [hk3] at h3
  obtain ⟨o3, ho3⟩ := errI_some ads k3 h3
  simp only [hk3, hl3, List.getD_nil, ho3] at R3 N3 M3
  have a0 : errI ads 0 = .nilIface := rfl
  simp only [a0] at R2 M2
  have R0 := Lib.hid R0
  have N0 := Lib.hid N0
  have M0 := Lib.hid M0
  have R1 := Lib.hid R1
  have N1 := Lib.hid N1
  have M1 := Lib.hid M1
  have R2 := Lib.hid R2
  have N2 := Lib.hid N2
  have M2 := Lib.hid M2
  have R3 := Lib.hid R3
  have N3 := Lib.hid N3
  have M3 := Lib.hid M3
  have HB0 := Lib.hid (show (k0 == 0) = false from beq_eq_false_iff_ne.2 h0)
  have HV0 := Lib.hid (show (k0 != 0) = true by simp [bne, h0])
  have z0 : ¬ k0 = 0 := h0
  have HB1 := Lib.hid (show (k1 == 0) = false from beq_eq_false_iff_ne.2 h1)
  have HV1 := Lib.hid (show (k1 != 0) = true by simp [bne, h1])
  have z1 : ¬ k1 = 0 := h1
  have HB3 := Lib.hid (show (k3 == 0) = false from beq_eq_false_iff_ne.2 h3)
  have HV3 := Lib.hid (show (k3 != 0) = true by simp [bne, h3])
  have z3 : ¬ k3 = 0 := h3
  obtain ⟨ns, hns⟩ : ∃ n : Int, (s.size : Int) = n := ⟨_, rfl⟩
  have hg : ¬ ns > 200 := by omega
  clear V I a0 h0 hl0 hk0 ho0 h1 hl1 hk1 ho1 h2 hl2 L2 h3 hl3 hk3 ho3
  go_enter Tryd.func4, Tryd.ntmps4
  go_wp2_with (go_at_call 7; (with_reducible refine (HAL.out _ (Kp.refl _)).mono ?_); rintro e w1 ⟨rfl, hk⟩; have KK := Lib.hid hk; clear hk)
  go_wp2_with (go_at_call 19; (with_reducible refine (R0.out _ KK.out).mono ?_); rintro e w2 ⟨rfl, hk⟩; have KK := Lib.hid (Kp.trans KK.out hk); clear hk)
  go_wp2_with (go_at_call 20; (with_reducible refine (R1.out _ KK.out).mono ?_); rintro e w3 ⟨rfl, hk⟩; have KK := Lib.hid (Kp.trans KK.out hk); clear hk)
  go_wp2_with (go_at_call 21; (with_reducible refine (R2.out _ (Kp.trans KK.out (kp_alloc _ _))).mono ?_); rintro e w4 ⟨rfl, hk⟩; have t_ := kp_row hk (MapKept.heap_alloc w3 (.cells #[.int .i64 0, .int .i64 0] 23)).1; have B5 := Lib.hid t_; clear t_; have KK := Lib.hid (Kp.trans (Kp.trans KK.out (kp_alloc _ _)) hk); clear hk)
  go_wp2_with (go_at_call 22; (with_reducible refine (R3.out _ (Kp.trans KK.out (kp_alloc _ _))).mono ?_); rintro e w5 ⟨rfl, hk⟩; have t_ := kp_row hk (MapKept.heap_alloc w4 (.cells #[.int .i64 v20, .int .i64 v21] 23)).1; have B7 := Lib.hid t_; clear t_; have t_ := kp_row (Kp.trans (kp_alloc _ _) hk) B5.out; have B5 := Lib.hid t_; clear t_; have KK := Lib.hid (Kp.trans (Kp.trans KK.out (kp_alloc _ _)) hk); clear hk)
  go_wp2_with (go_at_call 23; (with_reducible refine (N0.out _).mono ?_); rintro e w6 ⟨u0, rfl, ho, hk⟩; have t_ := kp_row hk B5.out; have B5 := Lib.hid t_; clear t_; have t_ := kp_row hk B7.out; have B7 := Lib.hid t_; clear t_; have KK := Lib.hid (Kp.trans KK.out hk); clear hk ho)
  go_wp2_with (go_at_call 23; (with_reducible refine (N1.out _).mono ?_); rintro e w7 ⟨u1, rfl, ho, hk⟩; have t_ := kp_row hk B5.out; have B5 := Lib.hid t_; clear t_; have t_ := kp_row hk B7.out; have B7 := Lib.hid t_; clear t_; have KK := Lib.hid (Kp.trans KK.out hk); clear hk ho)
  go_wp2_with (go_at_call 23; (with_reducible refine (N2.out _).mono ?_); rintro e w8 ⟨u2, rfl, ho, hk⟩; have t_ := kp_row hk B5.out; have B5 := Lib.hid t_; clear t_; have t_ := kp_row hk B7.out; have B7 := Lib.hid t_; clear t_; obtain ⟨g2, c2, rfl⟩ := own_gi ho (by simp); have O2 := Lib.hid ho; have KK := Lib.hid (Kp.trans KK.out hk); clear hk ho)
  go_wp2_with (go_at_call 23; (with_reducible refine (N3.out _).mono ?_); rintro e w9 ⟨u3, rfl, ho, hk⟩; have t_ := kp_row hk B5.out; have B5 := Lib.hid t_; clear t_; have t_ := kp_row hk B7.out; have B7 := Lib.hid t_; clear t_; have t_ := own_kp O2.out hk; have O2 := Lib.hid t_; clear t_; have KK := Lib.hid (Kp.trans KK.out hk); clear hk ho)
  go_wp2_with (first | (go_at_call 24; (with_reducible refine (M0.out _ KK.out).mono ?_); rintro e wn ⟨rfl, hk⟩; have t_ := kp_row hk B5.out; have B5 := Lib.hid t_; clear t_; have t_ := kp_row hk B7.out; have B7 := Lib.hid t_; clear t_; have t_ := own_kp O2.out hk; have O2 := Lib.hid t_; clear t_; (try clear e50 e51 e70 e71 f20 f21 f22); obtain ⟨e50, e51⟩ := cell_two B5.out; obtain ⟨e70, e71⟩ := cell_two B7.out; have f20 : wn.cell? ⟨g2, 0, none⟩ = some (.int .i64 v20) := O2.out.cellAt 0 (by decide); have f21 : wn.cell? ⟨g2, 1, none⟩ = some (.int .i64 v21) := O2.out.cellAt 1 (by decide); have f22 : wn.cell? ⟨g2, 2, none⟩ = some (.int .i64 v22) := O2.out.cellAt 2 (by decide); have KK := Lib.hid (Kp.trans KK.out hk); clear hk) | (go_at_call 24; (with_reducible refine (M1.out _ KK.out).mono ?_); rintro e wn ⟨rfl, hk⟩; have t_ := kp_row hk B5.out; have B5 := Lib.hid t_; clear t_; have t_ := kp_row hk B7.out; have B7 := Lib.hid t_; clear t_; have t_ := own_kp O2.out hk; have O2 := Lib.hid t_; clear t_; (try clear e50 e51 e70 e71 f20 f21 f22); obtain ⟨e50, e51⟩ := cell_two B5.out; obtain ⟨e70, e71⟩ := cell_two B7.out; have f20 : wn.cell? ⟨g2, 0, none⟩ = some (.int .i64 v20) := O2.out.cellAt 0 (by decide); have f21 : wn.cell? ⟨g2, 1, none⟩ = some (.int .i64 v21) := O2.out.cellAt 1 (by decide); have f22 : wn.cell? ⟨g2, 2, none⟩ = some (.int .i64 v22) := O2.out.cellAt 2 (by decide); have KK := Lib.hid (Kp.trans KK.out hk); clear hk) | (go_at_call 24; (with_reducible refine (M2.out _ KK.out).mono ?_); rintro e wn ⟨rfl, hk⟩; have t_ := kp_row hk B5.out; have B5 := Lib.hid t_; clear t_; have t_ := kp_row hk B7.out; have B7 := Lib.hid t_; clear t_; have t_ := own_kp O2.out hk; have O2 := Lib.hid t_; clear t_; (try clear e50 e51 e70 e71 f20 f21 f22); obtain ⟨e50, e51⟩ := cell_two B5.out; obtain ⟨e70, e71⟩ := cell_two B7.out; have f20 : wn.cell? ⟨g2, 0, none⟩ = some (.int .i64 v20) := O2.out.cellAt 0 (by decide); have f21 : wn.cell? ⟨g2, 1, none⟩ = some (.int .i64 v21) := O2.out.cellAt 1 (by decide); have f22 : wn.cell? ⟨g2, 2, none⟩ = some (.int .i64 v22) := O2.out.cellAt 2 (by decide); have KK := Lib.hid (Kp.trans KK.out hk); clear hk) | (go_at_call 24; (with_reducible refine (M3.out _ KK.out).mono ?_); rintro e wn ⟨rfl, hk⟩; have t_ := kp_row hk B5.out; have B5 := Lib.hid t_; clear t_; have t_ := kp_row hk B7.out; have B7 := Lib.hid t_; clear t_; have t_ := own_kp O2.out hk; have O2 := Lib.hid t_; clear t_; (try clear e50 e51 e70 e71 f20 f21 f22); obtain ⟨e50, e51⟩ := cell_two B5.out; obtain ⟨e70, e71⟩ := cell_two B7.out; have f20 : wn.cell? ⟨g2, 0, none⟩ = some (.int .i64 v20) := O2.out.cellAt 0 (by decide); have f21 : wn.cell? ⟨g2, 1, none⟩ = some (.int .i64 v21) := O2.out.cellAt 1 (by decide); have f22 : wn.cell? ⟨g2, 2, none⟩ = some (.int .i64 v22) := O2.out.cellAt 2 (by decide); have KK := Lib.hid (Kp.trans KK.out hk); clear hk))
  rw [HV0.out]
  refine wp_region_held_drew (S := fun w' => Kp wn w') (by kernel_rfl) ?_ (fun hHeld => ?_)
  · exact (Kp.refl wn).drew
  refine wpAnyH_take (i := 0) (v := ?_) rfl (by kernel_rfl) (by kernel_rfl) (by kernel_rfl) (fun _ _ _ h => h) (Or.inl ⟨by rfl, ?_⟩) (by assumption) ?_
  rotate_left
  · intro w hSw; go_simp; try with_reducible rfl
  go_simp
  refine wpAnyH_take (i := 1) (v := ?_) rfl (by kernel_rfl) (by kernel_rfl) (by kernel_rfl) (fun _ _ _ h => h) (Or.inl ⟨by rfl, ?_⟩) (by assumption) ?_
  rotate_left
  · intro w hSw; go_simp; try with_reducible rfl
  go_simp
  refine wpAnyH_take (i := 2) (v := ?_) rfl (by kernel_rfl) (by kernel_rfl) (by kernel_rfl) (fun _ _ _ h => h) (Or.inl ⟨by rfl, ?_⟩) (by assumption) ?_
  rotate_left
  · intro w hSw; go_simp; try with_reducible rfl
  go_simp
  refine wpAnyH_take (i := 3) (v := ?_) rfl (by kernel_rfl) (by kernel_rfl) (by kernel_rfl) (fun _ _ _ h => h) (Or.inl ⟨by rfl, ?_⟩) (by assumption) ?_
  rotate_left
  · intro w hSw; go_simp; (try rw [HB1.out]); try with_reducible rfl
  go_simp
  refine wpAnyH_take (i := 4) (v := ?_) rfl (by kernel_rfl) (by kernel_rfl) (by kernel_rfl) (fun _ _ _ h => h) (Or.inl ⟨by rfl, ?_⟩) (by assumption) ?_
  rotate_left
  · intro w hSw; go_simp; try with_reducible rfl
  go_simp
  refine wpAnyH_take (i := 5) (v := undef) rfl (by kernel_rfl) (by kernel_rfl) (by kernel_rfl) (fun _ _ _ h => h) (Or.inr ⟨by rfl, rfl⟩) (by assumption) ?_
  go_simp
  refine wpAnyH_take (i := 6) (v := undef) rfl (by kernel_rfl) (by kernel_rfl) (by kernel_rfl) (fun _ _ _ h => h) (Or.inr ⟨by rfl, rfl⟩) (by assumption) ?_
  go_simp
  refine wpAnyH_take (i := 7) (v := undef) rfl (by kernel_rfl) (by kernel_rfl) (by kernel_rfl) (fun _ _ _ h => h) (Or.inr ⟨by rfl, rfl⟩) (by assumption) ?_
  go_simp
  refine wpAnyH_take (i := 8) (v := undef) rfl (by kernel_rfl) (by kernel_rfl) (by kernel_rfl) (fun _ _ _ h => h) (Or.inr ⟨by rfl, rfl⟩) (by assumption) ?_
  go_simp
  refine wpAnyH_take (i := 9) (v := undef) rfl (by kernel_rfl) (by kernel_rfl) (by kernel_rfl) (fun _ _ _ h => h) (Or.inr ⟨by rfl, rfl⟩) (by assumption) ?_
  go_simp
  refine wpAnyH_take (i := 10) (v := undef) rfl (by kernel_rfl) (by kernel_rfl) (by kernel_rfl) (fun _ _ _ h => h) (Or.inr ⟨by rfl, rfl⟩) (by assumption) ?_
  go_simp
  refine wpAnyH_take (i := 11) (v := ?_) rfl (by kernel_rfl) (by kernel_rfl) (by kernel_rfl) (fun _ _ _ h => h) (Or.inl ⟨by rfl, ?_⟩) (by assumption) ?_
  rotate_left
  · intro w hSw; go_simp; try with_reducible rfl
  go_simp
  refine wpAnyH_take (i := 12) (v := ?_) rfl (by kernel_rfl) (by kernel_rfl) (by kernel_rfl) (fun _ _ _ h => h) (Or.inl ⟨by rfl, ?_⟩) (by assumption) ?_
  rotate_left
  · intro w hSw; go_simp; try with_reducible rfl
  go_simp
  refine wpAnyH_take (i := 13) (v := undef) rfl (by kernel_rfl) (by kernel_rfl) (by kernel_rfl) (fun _ _ _ h => h) (Or.inr ⟨by rfl, rfl⟩) (by assumption) ?_
  go_simp
  refine wpAnyH_take (i := 14) (v := undef) rfl (by kernel_rfl) (by kernel_rfl) (by kernel_rfl) (fun _ _ _ h => h) (Or.inr ⟨by rfl, rfl⟩) (by assumption) ?_
  go_simp
  refine wpAnyH_take (i := 15) (v := undef) rfl (by kernel_rfl) (by kernel_rfl) (by kernel_rfl) (fun _ _ _ h => h) (Or.inr ⟨by rfl, rfl⟩) (by assumption) ?_
  go_simp
  refine wpAnyH_take (i := 16) (v := undef) rfl (by kernel_rfl) (by kernel_rfl) (by kernel_rfl) (fun _ _ _ h => h) (Or.inr ⟨by rfl, rfl⟩) (by assumption) ?_
  go_simp
  refine wpAnyH_take (i := 17) (v := undef) rfl (by kernel_rfl) (by kernel_rfl) (by kernel_rfl) (fun _ _ _ h => h) (Or.inr ⟨by rfl, rfl⟩) (by assumption) ?_
  go_simp
  refine wpAnyH_take (i := 18) (v := undef) rfl (by kernel_rfl) (by kernel_rfl) (by kernel_rfl) (fun _ _ _ h => h) (Or.inr ⟨by rfl, rfl⟩) (by assumption) ?_
  go_simp
  refine wpAnyH_take (i := 19) (v := ?_) rfl (by kernel_rfl) (by kernel_rfl) (by kernel_rfl) (fun _ _ _ h => h) (Or.inl ⟨by rfl, ?_⟩) (by assumption) ?_
  rotate_left
  · intro w hSw; go_simp; try with_reducible rfl
  go_simp
  refine wpAnyH_take (i := 20) (v := ?_) rfl (by kernel_rfl) (by kernel_rfl) (by kernel_rfl) (fun _ _ _ h => h) (Or.inl ⟨by rfl, ?_⟩) (by assumption) ?_
  rotate_left
  · intro w hSw; go_simp; try with_reducible rfl
  go_simp
  refine wpAnyH_take (i := 21) (v := ?_) rfl (by kernel_rfl) (by kernel_rfl) (by kernel_rfl) (fun _ _ _ h => h) (Or.inl ⟨by rfl, ?_⟩) (by assumption) ?_
  rotate_left
  · intro w hSw; go_simp; try with_reducible rfl
  go_simp
  refine wpAnyH_take (i := 22) (v := ?_) rfl (by kernel_rfl) (by kernel_rfl) (by kernel_rfl) (fun _ _ _ h => h) (Or.inl ⟨by rfl, ?_⟩) (by assumption) ?_
  rotate_left
  · intro w hSw; go_simp; (try rw [HV1.out]); try with_reducible rfl
  go_simp
  refine wpAnyH_take (i := 23) (v := ?_) rfl (by kernel_rfl) (by kernel_rfl) (by kernel_rfl) (fun _ _ _ h => h) (Or.inl ⟨by rfl, ?_⟩) (by assumption) ?_
  rotate_left
  · intro w hSw; go_simp; try with_reducible rfl
  go_simp
  refine wpAnyH_take (i := 24) (v := ?_) rfl (by kernel_rfl) (by kernel_rfl) (by kernel_rfl) (fun _ _ _ h => h) (Or.inl ⟨by rfl, ?_⟩) (by assumption) ?_
  rotate_left
  · intro w hSw; have q := kp_cell hSw e50; have q2 := kp_cell hSw e51; go_simp; try with_reducible rfl
  go_simp
  refine wpAnyH_take (i := 25) (v := ?_) rfl (by kernel_rfl) (by kernel_rfl) (by kernel_rfl) (fun _ _ _ h => h) (Or.inl ⟨by rfl, ?_⟩) (by assumption) ?_
  rotate_left
  · intro w hSw; go_simp; try with_reducible rfl
  go_simp
  refine wpAnyH_take (i := 26) (v := ?_) rfl (by kernel_rfl) (by kernel_rfl) (by kernel_rfl) (fun _ _ _ h => h) (Or.inl ⟨by rfl, ?_⟩) (by assumption) ?_
  rotate_left
  · intro w hSw; go_simp; try with_reducible rfl
  go_simp
  refine wpAnyH_take (i := 27) (v := ?_) rfl (by kernel_rfl) (by kernel_rfl) (by kernel_rfl) (fun _ _ _ h => h) (Or.inl ⟨by rfl, ?_⟩) (by assumption) ?_
  rotate_left
  · intro w hSw; go_simp; try with_reducible rfl
  go_simp
  refine wpAnyH_take (i := 28) (v := ?_) rfl (by kernel_rfl) (by kernel_rfl) (by kernel_rfl) (fun _ _ _ h => h) (Or.inl ⟨by rfl, ?_⟩) (by assumption) ?_
  rotate_left
  · intro w hSw; go_simp; try with_reducible rfl
  go_simp
  refine wpAnyH_take (i := 29) (v := ?_) rfl (by kernel_rfl) (by kernel_rfl) (by kernel_rfl) (fun _ _ _ h => h) (Or.inl ⟨by rfl, ?_⟩) (by assumption) ?_
  rotate_left
  · intro w hSw; go_simp; try with_reducible rfl
  go_simp
  refine wpAnyH_take (i := 30) (v := ?_) rfl (by kernel_rfl) (by kernel_rfl) (by kernel_rfl) (fun _ _ _ h => h) (Or.inl ⟨by rfl, ?_⟩) (by assumption) ?_
  rotate_left
  · intro w hSw; go_simp; try with_reducible rfl
  go_simp
  refine wpAnyH_done (by kernel_rfl) ?_ _
  go_wp2
  refine wp_region_held_drew (S := fun w' => Kp wn w') (by kernel_rfl) ?_ (fun hHeld => ?_)
  · exact (Kp.refl wn).drew.drew
  refine wpAnyH_take (i := 0) (v := ?_) rfl (by kernel_rfl) (by kernel_rfl) (by kernel_rfl) (fun _ _ _ h => h) (Or.inl ⟨by rfl, ?_⟩) (by assumption) ?_
  rotate_left
  · intro w hSw; go_simp; try with_reducible rfl
  go_simp
  refine wpAnyH_take (i := 1) (v := ?_) rfl (by kernel_rfl) (by kernel_rfl) (by kernel_rfl) (fun _ _ _ h => h) (Or.inl ⟨by rfl, ?_⟩) (by assumption) ?_
  rotate_left
  · intro w hSw; go_simp; try with_reducible rfl
  go_simp
  refine wpAnyH_take (i := 2) (v := ?_) rfl (by kernel_rfl) (by kernel_rfl) (by kernel_rfl) (fun _ _ _ h => h) (Or.inl ⟨by rfl, ?_⟩) (by assumption) ?_
  rotate_left
  · intro w hSw; go_simp; try with_reducible rfl
  go_simp
  refine wpAnyH_take (i := 3) (v := ?_) rfl (by kernel_rfl) (by kernel_rfl) (by kernel_rfl) (fun _ _ _ h => h) (Or.inl ⟨by rfl, ?_⟩) (by assumption) ?_
  rotate_left
  · intro w hSw; go_simp; try with_reducible rfl
  go_simp
  refine wpAnyH_take (i := 4) (v := ?_) rfl (by kernel_rfl) (by kernel_rfl) (by kernel_rfl) (fun _ _ _ h => h) (Or.inl ⟨by rfl, ?_⟩) (by assumption) ?_
  rotate_left
  · intro w hSw; go_simp; try with_reducible rfl
  go_simp
  refine wpAnyH_take (i := 5) (v := ?_) rfl (by kernel_rfl) (by kernel_rfl) (by kernel_rfl) (fun _ _ _ h => h) (Or.inl ⟨by rfl, ?_⟩) (by assumption) ?_
  rotate_left
  · intro w hSw; go_simp; try with_reducible rfl
  go_simp
  refine wpAnyH_take (i := 6) (v := ?_) rfl (by kernel_rfl) (by kernel_rfl) (by kernel_rfl) (fun _ _ _ h => h) (Or.inl ⟨by rfl, ?_⟩) (by assumption) ?_
  rotate_left
  · intro w hSw; have q := kp_cell hSw e70; go_simp; try with_reducible rfl
  go_simp
  refine wpAnyH_take (i := 7) (v := ?_) rfl (by kernel_rfl) (by kernel_rfl) (by kernel_rfl) (fun _ _ _ h => h) (Or.inl ⟨by rfl, ?_⟩) (by assumption) ?_
  rotate_left
  · intro w hSw; go_simp; try with_reducible rfl
  go_simp
  refine wpAnyH_take (i := 8) (v := ?_) rfl (by kernel_rfl) (by kernel_rfl) (by kernel_rfl) (fun _ _ _ h => h) (Or.inl ⟨by rfl, ?_⟩) (by assumption) ?_
  rotate_left
  · intro w hSw; go_simp; try with_reducible rfl
  go_simp
  refine wpAnyH_take (i := 9) (v := ?_) rfl (by kernel_rfl) (by kernel_rfl) (by kernel_rfl) (fun _ _ _ h => h) (Or.inl ⟨by rfl, ?_⟩) (by assumption) ?_
  rotate_left
  · intro w hSw; have q := kp_cell hSw f20; go_simp; try with_reducible rfl
  go_simp
  refine wpAnyH_take (i := 10) (v := ?_) rfl (by kernel_rfl) (by kernel_rfl) (by kernel_rfl) (fun _ _ _ h => h) (Or.inl ⟨by rfl, ?_⟩) (by assumption) ?_
  rotate_left
  · intro w hSw; go_simp; try with_reducible rfl
  go_simp
  refine wpAnyH_take (i := 11) (v := ?_) rfl (by kernel_rfl) (by kernel_rfl) (by kernel_rfl) (fun _ _ _ h => h) (Or.inl ⟨by rfl, ?_⟩) (by assumption) ?_
  rotate_left
  · intro w hSw; go_simp; try with_reducible rfl
  go_simp
  refine wpAnyH_take (i := 12) (v := ?_) rfl (by kernel_rfl) (by kernel_rfl) (by kernel_rfl) (fun _ _ _ h => h) (Or.inl ⟨by rfl, ?_⟩) (by assumption) ?_
  rotate_left
  · intro w hSw; go_simp; try with_reducible rfl
  go_simp
  refine wpAnyH_take (i := 13) (v := ?_) rfl (by kernel_rfl) (by kernel_rfl) (by kernel_rfl) (fun _ _ _ h => h) (Or.inl ⟨by rfl, ?_⟩) (by assumption) ?_
  rotate_left
  · intro w hSw; go_simp; try with_reducible rfl
  go_simp
  refine wpAnyH_take (i := 14) (v := ?_) rfl (by kernel_rfl) (by kernel_rfl) (by kernel_rfl) (fun _ _ _ h => h) (Or.inl ⟨by rfl, ?_⟩) (by assumption) ?_
  rotate_left
  · intro w hSw; have q := kp_cell hSw e71; go_simp; try with_reducible rfl
  go_simp
  refine wpAnyH_take (i := 15) (v := ?_) rfl (by kernel_rfl) (by kernel_rfl) (by kernel_rfl) (fun _ _ _ h => h) (Or.inl ⟨by rfl, ?_⟩) (by assumption) ?_
  rotate_left
  · intro w hSw; go_simp; try with_reducible rfl
  go_simp
  refine wpAnyH_take (i := 16) (v := ?_) rfl (by kernel_rfl) (by kernel_rfl) (by kernel_rfl) (fun _ _ _ h => h) (Or.inl ⟨by rfl, ?_⟩) (by assumption) ?_
  rotate_left
  · intro w hSw; go_simp; try with_reducible rfl
  go_simp
  refine wpAnyH_take (i := 17) (v := ?_) rfl (by kernel_rfl) (by kernel_rfl) (by kernel_rfl) (fun _ _ _ h => h) (Or.inl ⟨by rfl, ?_⟩) (by assumption) ?_
  rotate_left
  · intro w hSw; have q := kp_cell hSw f21; go_simp; try with_reducible rfl
  go_simp
  refine wpAnyH_take (i := 18) (v := ?_) rfl (by kernel_rfl) (by kernel_rfl) (by kernel_rfl) (fun _ _ _ h => h) (Or.inl ⟨by rfl, ?_⟩) (by assumption) ?_
  rotate_left
  · intro w hSw; go_simp; try with_reducible rfl
  go_simp
  refine wpAnyH_take (i := 19) (v := ?_) rfl (by kernel_rfl) (by kernel_rfl) (by kernel_rfl) (fun _ _ _ h => h) (Or.inl ⟨by rfl, ?_⟩) (by assumption) ?_
  rotate_left
  · intro w hSw; go_simp; try with_reducible rfl
  go_simp
  refine wpAnyH_take (i := 20) (v := ?_) rfl (by kernel_rfl) (by kernel_rfl) (by kernel_rfl) (fun _ _ _ h => h) (Or.inl ⟨by rfl, ?_⟩) (by assumption) ?_
  rotate_left
  · intro w hSw; go_simp; try with_reducible rfl
  go_simp
  refine wpAnyH_take (i := 21) (v := ?_) rfl (by kernel_rfl) (by kernel_rfl) (by kernel_rfl) (fun _ _ _ h => h) (Or.inl ⟨by rfl, ?_⟩) (by assumption) ?_
  rotate_left
  · intro w hSw; go_simp; try with_reducible rfl
  go_simp
  refine wpAnyH_take (i := 22) (v := ?_) rfl (by kernel_rfl) (by kernel_rfl) (by kernel_rfl) (fun _ _ _ h => h) (Or.inl ⟨by rfl, ?_⟩) (by assumption) ?_
  rotate_left
  · intro w hSw; go_simp; try with_reducible rfl
  go_simp
  refine wpAnyH_take (i := 23) (v := ?_) rfl (by kernel_rfl) (by kernel_rfl) (by kernel_rfl) (fun _ _ _ h => h) (Or.inl ⟨by rfl, ?_⟩) (by assumption) ?_
  rotate_left
  · intro w hSw; go_simp; try with_reducible rfl
  go_simp
  refine wpAnyH_take (i := 24) (v := ?_) rfl (by kernel_rfl) (by kernel_rfl) (by kernel_rfl) (fun _ _ _ h => h) (Or.inl ⟨by rfl, ?_⟩) (by assumption) ?_
  rotate_left
  · intro w hSw; have q := kp_cell hSw f22; go_simp; try with_reducible rfl
  go_simp
  refine wpAnyH_take (i := 25) (v := ?_) rfl (by kernel_rfl) (by kernel_rfl) (by kernel_rfl) (fun _ _ _ h => h) (Or.inl ⟨by rfl, ?_⟩) (by assumption) ?_
  rotate_left
  · intro w hSw; go_simp; try with_reducible rfl
  go_simp
  refine wpAnyH_take (i := 26) (v := ?_) rfl (by kernel_rfl) (by kernel_rfl) (by kernel_rfl) (fun _ _ _ h => h) (Or.inl ⟨by rfl, ?_⟩) (by assumption) ?_
  rotate_left
  · intro w hSw; go_simp; try with_reducible rfl
  go_simp
  refine wpAnyH_take (i := 27) (v := ?_) rfl (by kernel_rfl) (by kernel_rfl) (by kernel_rfl) (fun _ _ _ h => h) (Or.inl ⟨by rfl, ?_⟩) (by assumption) ?_
  rotate_left
  · intro w hSw; go_simp; try with_reducible rfl
  go_simp
  refine wpAnyH_take (i := 28) (v := undef) rfl (by kernel_rfl) (by kernel_rfl) (by kernel_rfl) (fun _ _ _ h => h) (Or.inr ⟨by rfl, rfl⟩) (by assumption) ?_
  go_simp
  refine wpAnyH_take (i := 29) (v := undef) rfl (by kernel_rfl) (by kernel_rfl) (by kernel_rfl) (fun _ _ _ h => h) (Or.inr ⟨by rfl, rfl⟩) (by assumption) ?_
  go_simp
  refine wpAnyH_take (i := 30) (v := undef) rfl (by kernel_rfl) (by kernel_rfl) (by kernel_rfl) (fun _ _ _ h => h) (Or.inr ⟨by rfl, rfl⟩) (by assumption) ?_
  go_simp
  refine wpAnyH_take (i := 31) (v := undef) rfl (by kernel_rfl) (by kernel_rfl) (by kernel_rfl) (fun _ _ _ h => h) (Or.inr ⟨by rfl, rfl⟩) (by assumption) ?_
  go_simp
  refine wpAnyH_take (i := 32) (v := undef) rfl (by kernel_rfl) (by kernel_rfl) (by kernel_rfl) (fun _ _ _ h => h) (Or.inr ⟨by rfl, rfl⟩) (by assumption) ?_
  go_simp
  refine wpAnyH_take (i := 33) (v := undef) rfl (by kernel_rfl) (by kernel_rfl) (by kernel_rfl) (fun _ _ _ h => h) (Or.inr ⟨by rfl, rfl⟩) (by assumption) ?_
  go_simp
  refine wpAnyH_take (i := 34) (v := undef) rfl (by kernel_rfl) (by kernel_rfl) (by kernel_rfl) (fun _ _ _ h => h) (Or.inr ⟨by rfl, rfl⟩) (by assumption) ?_
  go_simp
  refine wpAnyH_take (i := 35) (v := undef) rfl (by kernel_rfl) (by kernel_rfl) (by kernel_rfl) (fun _ _ _ h => h) (Or.inr ⟨by rfl, rfl⟩) (by assumption) ?_
  go_simp
  refine wpAnyH_take (i := 36) (v := undef) rfl (by kernel_rfl) (by kernel_rfl) (by kernel_rfl) (fun _ _ _ h => h) (Or.inr ⟨by rfl, rfl⟩) (by assumption) ?_
  go_simp
  refine wpAnyH_take (i := 37) (v := undef) rfl (by kernel_rfl) (by kernel_rfl) (by kernel_rfl) (fun _ _ _ h => h) (Or.inr ⟨by rfl, rfl⟩) (by assumption) ?_
  go_simp
  refine wpAnyH_take (i := 38) (v := undef) rfl (by kernel_rfl) (by kernel_rfl) (by kernel_rfl) (fun _ _ _ h => h) (Or.inr ⟨by rfl, rfl⟩) (by assumption) ?_
  go_simp
  refine wpAnyH_take (i := 39) (v := ?_) rfl (by kernel_rfl) (by kernel_rfl) (by kernel_rfl) (fun _ _ _ h => h) (Or.inl ⟨by rfl, ?_⟩) (by assumption) ?_
  rotate_left
  · intro w hSw; go_simp; try with_reducible rfl
  go_simp
  refine wpAnyH_take (i := 40) (v := ?_) rfl (by kernel_rfl) (by kernel_rfl) (by kernel_rfl) (fun _ _ _ h => h) (Or.inl ⟨by rfl, ?_⟩) (by assumption) ?_
  rotate_left
  · intro w hSw; go_simp; try with_reducible rfl
  go_simp
  refine wpAnyH_take (i := 41) (v := ?_) rfl (by kernel_rfl) (by kernel_rfl) (by kernel_rfl) (fun _ _ _ h => h) (Or.inl ⟨by rfl, ?_⟩) (by assumption) ?_
  rotate_left
  · intro w hSw; go_simp; try with_reducible rfl
  go_simp
  refine wpAnyH_done (by kernel_rfl) ?_ _
  go_wp2
  go_ret
  exact ⟨by first | rfl | simp [*], KK.out.drew.drew⟩

set_option maxRecDepth 20000 in
set_option maxHeartbeats 1000000 in
theorem rea_fftt (ads : List Addr) (s : ByteArray) (hs : s.size ≤ 200) (w : World) (V : St ads w) (I : IdsC ads w) (h0 : (nodeN (strB s)).2 ≠ 0) (h1 : (actN (strB s)).2 ≠ 0) (h2 : (regN (strB s)).2 = 0) (h3 : (partN (strB s)).2 = 0) :
    Calls Tryd.prog 4 #[.string s] w fun e w' => e = .returned (.bool true) ∧ Kp w w' := by
  have HAL := Lib.hid (fun w1 (hk : Kp w w1) => alive_any ads w1 (V.below hk) (I.kp hk))
  have R0 := fun w1 (hk : Kp w w1) => I.toNode w1 hk s hs
  have R1 := fun w1 (hk : Kp w w1) => I.toAct w1 hk s hs
  have R2 := fun w1 (hk : Kp w w1) => I.toReg w1 hk s hs
  have R3 := fun w1 (hk : Kp w w1) => I.toPart w1 hk s hs
  have N0 := fun w1 => nums_node s hs w1
  have M0 := fun w1 (hk : Kp w w1) => num_errI ads w1 (V.below hk) (nodeN (strB s)).2 (numM_three _ _ _)
  have hl0 : (nodeN (strB s)).1 = [] := numM_bad h0
  obtain ⟨k0, hk0⟩ : ∃ k, (nodeN (strB s)).2 = k := ⟨_, rfl⟩
  rw [hk0] at h0
  obtain ⟨o0, ho0⟩ := errI_some ads k0 h0
  simp only [hk0, hl0, List.getD_nil, ho0] at R0 N0 M0
  have N1 := fun w1 => nums_act s hs w1
  have M1 := fun w1 (hk : Kp w w1) => num_errI ads w1 (V.below hk) (actN (strB s)).2 (numM_three _ _ _)
  have hl1 : (actN (strB s)).1 = [] := numM_bad h1
  obtain ⟨k1, hk1⟩ : ∃ k, (actN (strB s)).2 = k := ⟨_, rfl⟩
  rw [hk1] at h1
  obtain ⟨o1, ho1⟩ := errI_some ads k1 h1
  simp only [hk1, hl1, List.getD_nil, ho1] at R1 N1 M1
  have N2 := fun w1 => nums_reg s hs w1
  have M2 := fun w1 (hk : Kp w w1) => num_errI ads w1 (V.below hk) (regN (strB s)).2 (numM_three _ _ _)
  have L2 := numM_len h2
  obtain ⟨v20, v21, v22, hl2⟩ : ∃ v20 v21 v22, (regN (strB s)).1 = [v20, v21, v22] := by
    have e : (regN (strB s)).1.length = 3 := L2
    match h : (regN (strB s)).1, e with
    | [v20, v21, v22], _ => exact ⟨_, _, _, rfl⟩
  simp only [h2, hl2, List.getD_cons_zero, List.getD_cons_succ] at R2 N2 M2
  simp only [show [v20, v21, v22].length = 3 from rfl] at N2
  have N3 := fun w1 => nums_part s hs w1
  have M3 := fun w1 (hk : Kp w w1) => num_errI ads w1 (V.below hk) (partN (strB s)).2 (numM_three _ _ _)
  have L3 := numM_len h3
  obtain ⟨v30, v31, hl3⟩ : ∃ v30 v31, (partN (strB s)).1 = [v30, v31] := by
    have e : (partN (strB s)).1.length = 2 := L3
    match h : (partN (strB s)).1, e with
    | [v30, v31], _ => exact ⟨_, _, rfl⟩
  simp only [h3, hl3, List.getD_cons_zero, List.getD_cons_succ] at R3 N3 M3
  simp only [show [v30, v31].length = 2 from rfl] at N3
  have a0 : errI ads 0 = .nilIface := rfl
  simp only [a0] at R2 M2
  simp only [a0] at R3 M3
  have R0 := Lib.hid R0
  have N0 := Lib.hid N0
  have M0 := Lib.hid M0
  have R1 := Lib.hid R1
  have N1 := Lib.hid N1
  have M1 := Lib.hid M1
  have R2 := Lib.hid R2
  have N2 := Lib.hid N2
  have M2 := Lib.hid M2
  have R3 := Lib.hid R3
  have N3 := Lib.hid N3
  have M3 := Lib.hid M3
  have HB0 := Lib.hid (show (k0 == 0) = false from beq_eq_false_iff_ne.2 h0)
  have HV0 := Lib.hid (show (k0 != 0) = true by simp [bne, h0])
  have z0 : ¬ k0 = 0 := h0
  have HB1 := Lib.hid (show (k1 == 0) = false from beq_eq_false_iff_ne.2 h1)
  have HV1 := Lib.hid (show (k1 != 0) = true by simp [bne, h1])
  have z1 : ¬ k1 = 0 := h1
  obtain ⟨ns, hns⟩ : ∃ n : Int, (s.size : Int) = n := ⟨_, rfl⟩
  have hg : ¬ ns > 200 := by omega
  clear V I a0 h0 hl0 hk0 ho0 h1 hl1 hk1 ho1 h2 hl2 L2 h3 hl3 L3
  go_enter Tryd.func4, Tryd.ntmps4
  go_wp2_with (go_at_call 7; (with_reducible refine (HAL.out _ (Kp.refl _)).mono ?_); rintro e w1 ⟨rfl, hk⟩; have KK := Lib.hid hk; clear hk)
  go_wp2_with (go_at_call 19; (with_reducible refine (R0.out _ KK.out).mono ?_); rintro e w2 ⟨rfl, hk⟩; have KK := Lib.hid (Kp.trans KK.out hk); clear hk)
  go_wp2_with (go_at_call 20; (with_reducible refine (R1.out _ KK.out).mono ?_); rintro e w3 ⟨rfl, hk⟩; have KK := Lib.hid (Kp.trans KK.out hk); clear hk)
  go_wp2_with (go_at_call 21; (with_reducible refine (R2.out _ (Kp.trans KK.out (kp_alloc _ _))).mono ?_); rintro e w4 ⟨rfl, hk⟩; have t_ := kp_row hk (MapKept.heap_alloc w3 (.cells #[.int .i64 0, .int .i64 0] 23)).1; have B5 := Lib.hid t_; clear t_; have KK := Lib.hid (Kp.trans (Kp.trans KK.out (kp_alloc _ _)) hk); clear hk)
  go_wp2_with (go_at_call 22; (with_reducible refine (R3.out _ (Kp.trans KK.out (kp_alloc _ _))).mono ?_); rintro e w5 ⟨rfl, hk⟩; have t_ := kp_row hk (MapKept.heap_alloc w4 (.cells #[.int .i64 v20, .int .i64 v21] 23)).1; have B7 := Lib.hid t_; clear t_; have t_ := kp_row (Kp.trans (kp_alloc _ _) hk) B5.out; have B5 := Lib.hid t_; clear t_; have KK := Lib.hid (Kp.trans (Kp.trans KK.out (kp_alloc _ _)) hk); clear hk)
  go_wp2_with (go_at_call 23; (with_reducible refine (N0.out _).mono ?_); rintro e w6 ⟨u0, rfl, ho, hk⟩; have t_ := kp_row hk B5.out; have B5 := Lib.hid t_; clear t_; have t_ := kp_row hk B7.out; have B7 := Lib.hid t_; clear t_; have KK := Lib.hid (Kp.trans KK.out hk); clear hk ho)
  go_wp2_with (go_at_call 23; (with_reducible refine (N1.out _).mono ?_); rintro e w7 ⟨u1, rfl, ho, hk⟩; have t_ := kp_row hk B5.out; have B5 := Lib.hid t_; clear t_; have t_ := kp_row hk B7.out; have B7 := Lib.hid t_; clear t_; have KK := Lib.hid (Kp.trans KK.out hk); clear hk ho)
  go_wp2_with (go_at_call 23; (with_reducible refine (N2.out _).mono ?_); rintro e w8 ⟨u2, rfl, ho, hk⟩; have t_ := kp_row hk B5.out; have B5 := Lib.hid t_; clear t_; have t_ := kp_row hk B7.out; have B7 := Lib.hid t_; clear t_; obtain ⟨g2, c2, rfl⟩ := own_gi ho (by simp); have O2 := Lib.hid ho; have KK := Lib.hid (Kp.trans KK.out hk); clear hk ho)
  go_wp2_with (go_at_call 23; (with_reducible refine (N3.out _).mono ?_); rintro e w9 ⟨u3, rfl, ho, hk⟩; have t_ := kp_row hk B5.out; have B5 := Lib.hid t_; clear t_; have t_ := kp_row hk B7.out; have B7 := Lib.hid t_; clear t_; have t_ := own_kp O2.out hk; have O2 := Lib.hid t_; clear t_; obtain ⟨g3, c3, rfl⟩ := own_gi ho (by simp); have O3 := Lib.hid ho; have KK := Lib.hid (Kp.trans KK.out hk); clear hk ho)
  go_wp2_with (first | (go_at_call 24; (with_reducible refine (M0.out _ KK.out).mono ?_); rintro e wn ⟨rfl, hk⟩; have t_ := kp_row hk B5.out; have B5 := Lib.hid t_; clear t_; have t_ := kp_row hk B7.out; have B7 := Lib.hid t_; clear t_; have t_ := own_kp O2.out hk; have O2 := Lib.hid t_; clear t_; have t_ := own_kp O3.out hk; have O3 := Lib.hid t_; clear t_; (try clear e50 e51 e70 e71 f20 f21 f22 f30 f31); obtain ⟨e50, e51⟩ := cell_two B5.out; obtain ⟨e70, e71⟩ := cell_two B7.out; have f20 : wn.cell? ⟨g2, 0, none⟩ = some (.int .i64 v20) := O2.out.cellAt 0 (by decide); have f21 : wn.cell? ⟨g2, 1, none⟩ = some (.int .i64 v21) := O2.out.cellAt 1 (by decide); have f22 : wn.cell? ⟨g2, 2, none⟩ = some (.int .i64 v22) := O2.out.cellAt 2 (by decide); have f30 : wn.cell? ⟨g3, 0, none⟩ = some (.int .i64 v30) := O3.out.cellAt 0 (by decide); have f31 : wn.cell? ⟨g3, 1, none⟩ = some (.int .i64 v31) := O3.out.cellAt 1 (by decide); have KK := Lib.hid (Kp.trans KK.out hk); clear hk) | (go_at_call 24; (with_reducible refine (M1.out _ KK.out).mono ?_); rintro e wn ⟨rfl, hk⟩; have t_ := kp_row hk B5.out; have B5 := Lib.hid t_; clear t_; have t_ := kp_row hk B7.out; have B7 := Lib.hid t_; clear t_; have t_ := own_kp O2.out hk; have O2 := Lib.hid t_; clear t_; have t_ := own_kp O3.out hk; have O3 := Lib.hid t_; clear t_; (try clear e50 e51 e70 e71 f20 f21 f22 f30 f31); obtain ⟨e50, e51⟩ := cell_two B5.out; obtain ⟨e70, e71⟩ := cell_two B7.out; have f20 : wn.cell? ⟨g2, 0, none⟩ = some (.int .i64 v20) := O2.out.cellAt 0 (by decide); have f21 : wn.cell? ⟨g2, 1, none⟩ = some (.int .i64 v21) := O2.out.cellAt 1 (by decide); have f22 : wn.cell? ⟨g2, 2, none⟩ = some (.int .i64 v22) := O2.out.cellAt 2 (by decide); have f30 : wn.cell? ⟨g3, 0, none⟩ = some (.int .i64 v30) := O3.out.cellAt 0 (by decide); have f31 : wn.cell? ⟨g3, 1, none⟩ = some (.int .i64 v31) := O3.out.cellAt 1 (by decide); have KK := Lib.hid (Kp.trans KK.out hk); clear hk) | (go_at_call 24; (with_reducible refine (M2.out _ KK.out).mono ?_); rintro e wn ⟨rfl, hk⟩; have t_ := kp_row hk B5.out; have B5 := Lib.hid t_; clear t_; have t_ := kp_row hk B7.out; have B7 := Lib.hid t_; clear t_; have t_ := own_kp O2.out hk; have O2 := Lib.hid t_; clear t_; have t_ := own_kp O3.out hk; have O3 := Lib.hid t_; clear t_; (try clear e50 e51 e70 e71 f20 f21 f22 f30 f31); obtain ⟨e50, e51⟩ := cell_two B5.out; obtain ⟨e70, e71⟩ := cell_two B7.out; have f20 : wn.cell? ⟨g2, 0, none⟩ = some (.int .i64 v20) := O2.out.cellAt 0 (by decide); have f21 : wn.cell? ⟨g2, 1, none⟩ = some (.int .i64 v21) := O2.out.cellAt 1 (by decide); have f22 : wn.cell? ⟨g2, 2, none⟩ = some (.int .i64 v22) := O2.out.cellAt 2 (by decide); have f30 : wn.cell? ⟨g3, 0, none⟩ = some (.int .i64 v30) := O3.out.cellAt 0 (by decide); have f31 : wn.cell? ⟨g3, 1, none⟩ = some (.int .i64 v31) := O3.out.cellAt 1 (by decide); have KK := Lib.hid (Kp.trans KK.out hk); clear hk) | (go_at_call 24; (with_reducible refine (M3.out _ KK.out).mono ?_); rintro e wn ⟨rfl, hk⟩; have t_ := kp_row hk B5.out; have B5 := Lib.hid t_; clear t_; have t_ := kp_row hk B7.out; have B7 := Lib.hid t_; clear t_; have t_ := own_kp O2.out hk; have O2 := Lib.hid t_; clear t_; have t_ := own_kp O3.out hk; have O3 := Lib.hid t_; clear t_; (try clear e50 e51 e70 e71 f20 f21 f22 f30 f31); obtain ⟨e50, e51⟩ := cell_two B5.out; obtain ⟨e70, e71⟩ := cell_two B7.out; have f20 : wn.cell? ⟨g2, 0, none⟩ = some (.int .i64 v20) := O2.out.cellAt 0 (by decide); have f21 : wn.cell? ⟨g2, 1, none⟩ = some (.int .i64 v21) := O2.out.cellAt 1 (by decide); have f22 : wn.cell? ⟨g2, 2, none⟩ = some (.int .i64 v22) := O2.out.cellAt 2 (by decide); have f30 : wn.cell? ⟨g3, 0, none⟩ = some (.int .i64 v30) := O3.out.cellAt 0 (by decide); have f31 : wn.cell? ⟨g3, 1, none⟩ = some (.int .i64 v31) := O3.out.cellAt 1 (by decide); have KK := Lib.hid (Kp.trans KK.out hk); clear hk))
  rw [HV0.out]
  refine wp_region_held_drew (S := fun w' => Kp wn w') (by kernel_rfl) ?_ (fun hHeld => ?_)
  · exact (Kp.refl wn).drew
  refine wpAnyH_take (i := 0) (v := ?_) rfl (by kernel_rfl) (by kernel_rfl) (by kernel_rfl) (fun _ _ _ h => h) (Or.inl ⟨by rfl, ?_⟩) (by assumption) ?_
  rotate_left
  · intro w hSw; go_simp; try with_reducible rfl
  go_simp
  refine wpAnyH_take (i := 1) (v := ?_) rfl (by kernel_rfl) (by kernel_rfl) (by kernel_rfl) (fun _ _ _ h => h) (Or.inl ⟨by rfl, ?_⟩) (by assumption) ?_
  rotate_left
  · intro w hSw; go_simp; try with_reducible rfl
  go_simp
  refine wpAnyH_take (i := 2) (v := ?_) rfl (by kernel_rfl) (by kernel_rfl) (by kernel_rfl) (fun _ _ _ h => h) (Or.inl ⟨by rfl, ?_⟩) (by assumption) ?_
  rotate_left
  · intro w hSw; go_simp; try with_reducible rfl
  go_simp
  refine wpAnyH_take (i := 3) (v := ?_) rfl (by kernel_rfl) (by kernel_rfl) (by kernel_rfl) (fun _ _ _ h => h) (Or.inl ⟨by rfl, ?_⟩) (by assumption) ?_
  rotate_left
  · intro w hSw; go_simp; (try rw [HB1.out]); try with_reducible rfl
  go_simp
  refine wpAnyH_take (i := 4) (v := ?_) rfl (by kernel_rfl) (by kernel_rfl) (by kernel_rfl) (fun _ _ _ h => h) (Or.inl ⟨by rfl, ?_⟩) (by assumption) ?_
  rotate_left
  · intro w hSw; go_simp; try with_reducible rfl
  go_simp
  refine wpAnyH_take (i := 5) (v := undef) rfl (by kernel_rfl) (by kernel_rfl) (by kernel_rfl) (fun _ _ _ h => h) (Or.inr ⟨by rfl, rfl⟩) (by assumption) ?_
  go_simp
  refine wpAnyH_take (i := 6) (v := undef) rfl (by kernel_rfl) (by kernel_rfl) (by kernel_rfl) (fun _ _ _ h => h) (Or.inr ⟨by rfl, rfl⟩) (by assumption) ?_
  go_simp
  refine wpAnyH_take (i := 7) (v := undef) rfl (by kernel_rfl) (by kernel_rfl) (by kernel_rfl) (fun _ _ _ h => h) (Or.inr ⟨by rfl, rfl⟩) (by assumption) ?_
  go_simp
  refine wpAnyH_take (i := 8) (v := undef) rfl (by kernel_rfl) (by kernel_rfl) (by kernel_rfl) (fun _ _ _ h => h) (Or.inr ⟨by rfl, rfl⟩) (by assumption) ?_
  go_simp
  refine wpAnyH_take (i := 9) (v := undef) rfl (by kernel_rfl) (by kernel_rfl) (by kernel_rfl) (fun _ _ _ h => h) (Or.inr ⟨by rfl, rfl⟩) (by assumption) ?_
  go_simp
  refine wpAnyH_take (i := 10) (v := undef) rfl (by kernel_rfl) (by kernel_rfl) (by kernel_rfl) (fun _ _ _ h => h) (Or.inr ⟨by rfl, rfl⟩) (by assumption) ?_
  go_simp
  refine wpAnyH_take (i := 11) (v := ?_) rfl (by kernel_rfl) (by kernel_rfl) (by kernel_rfl) (fun _ _ _ h => h) (Or.inl ⟨by rfl, ?_⟩) (by assumption) ?_
  rotate_left
  · intro w hSw; go_simp; try with_reducible rfl
  go_simp
  refine wpAnyH_take (i := 12) (v := ?_) rfl (by kernel_rfl) (by kernel_rfl) (by kernel_rfl) (fun _ _ _ h => h) (Or.inl ⟨by rfl, ?_⟩) (by assumption) ?_
  rotate_left
  · intro w hSw; go_simp; try with_reducible rfl
  go_simp
  refine wpAnyH_take (i := 13) (v := undef) rfl (by kernel_rfl) (by kernel_rfl) (by kernel_rfl) (fun _ _ _ h => h) (Or.inr ⟨by rfl, rfl⟩) (by assumption) ?_
  go_simp
  refine wpAnyH_take (i := 14) (v := undef) rfl (by kernel_rfl) (by kernel_rfl) (by kernel_rfl) (fun _ _ _ h => h) (Or.inr ⟨by rfl, rfl⟩) (by assumption) ?_
  go_simp
  refine wpAnyH_take (i := 15) (v := undef) rfl (by kernel_rfl) (by kernel_rfl) (by kernel_rfl) (fun _ _ _ h => h) (Or.inr ⟨by rfl, rfl⟩) (by assumption) ?_
  go_simp
  refine wpAnyH_take (i := 16) (v := undef) rfl (by kernel_rfl) (by kernel_rfl) (by kernel_rfl) (fun _ _ _ h => h) (Or.inr ⟨by rfl, rfl⟩) (by assumption) ?_
  go_simp
  refine wpAnyH_take (i := 17) (v := undef) rfl (by kernel_rfl) (by kernel_rfl) (by kernel_rfl) (fun _ _ _ h => h) (Or.inr ⟨by rfl, rfl⟩) (by assumption) ?_
  go_simp
  refine wpAnyH_take (i := 18) (v := undef) rfl (by kernel_rfl) (by kernel_rfl) (by kernel_rfl) (fun _ _ _ h => h) (Or.inr ⟨by rfl, rfl⟩) (by assumption) ?_
  go_simp
  refine wpAnyH_take (i := 19) (v := ?_) rfl (by kernel_rfl) (by kernel_rfl) (by kernel_rfl) (fun _ _ _ h => h) (Or.inl ⟨by rfl, ?_⟩) (by assumption) ?_
  rotate_left
  · intro w hSw; go_simp; try with_reducible rfl
  go_simp
  refine wpAnyH_take (i := 20) (v := ?_) rfl (by kernel_rfl) (by kernel_rfl) (by kernel_rfl) (fun _ _ _ h => h) (Or.inl ⟨by rfl, ?_⟩) (by assumption) ?_
  rotate_left
  · intro w hSw; go_simp; try with_reducible rfl
  go_simp
  refine wpAnyH_take (i := 21) (v := ?_) rfl (by kernel_rfl) (by kernel_rfl) (by kernel_rfl) (fun _ _ _ h => h) (Or.inl ⟨by rfl, ?_⟩) (by assumption) ?_
  rotate_left
  · intro w hSw; go_simp; try with_reducible rfl
  go_simp
  refine wpAnyH_take (i := 22) (v := ?_) rfl (by kernel_rfl) (by kernel_rfl) (by kernel_rfl) (fun _ _ _ h => h) (Or.inl ⟨by rfl, ?_⟩) (by assumption) ?_
  rotate_left
  · intro w hSw; go_simp; (try rw [HV1.out]); try with_reducible rfl
  go_simp
  refine wpAnyH_take (i := 23) (v := ?_) rfl (by kernel_rfl) (by kernel_rfl) (by kernel_rfl) (fun _ _ _ h => h) (Or.inl ⟨by rfl, ?_⟩) (by assumption) ?_
  rotate_left
  · intro w hSw; go_simp; try with_reducible rfl
  go_simp
  refine wpAnyH_take (i := 24) (v := ?_) rfl (by kernel_rfl) (by kernel_rfl) (by kernel_rfl) (fun _ _ _ h => h) (Or.inl ⟨by rfl, ?_⟩) (by assumption) ?_
  rotate_left
  · intro w hSw; have q := kp_cell hSw e50; have q2 := kp_cell hSw e51; go_simp; try with_reducible rfl
  go_simp
  refine wpAnyH_take (i := 25) (v := ?_) rfl (by kernel_rfl) (by kernel_rfl) (by kernel_rfl) (fun _ _ _ h => h) (Or.inl ⟨by rfl, ?_⟩) (by assumption) ?_
  rotate_left
  · intro w hSw; go_simp; try with_reducible rfl
  go_simp
  refine wpAnyH_take (i := 26) (v := ?_) rfl (by kernel_rfl) (by kernel_rfl) (by kernel_rfl) (fun _ _ _ h => h) (Or.inl ⟨by rfl, ?_⟩) (by assumption) ?_
  rotate_left
  · intro w hSw; go_simp; try with_reducible rfl
  go_simp
  refine wpAnyH_take (i := 27) (v := ?_) rfl (by kernel_rfl) (by kernel_rfl) (by kernel_rfl) (fun _ _ _ h => h) (Or.inl ⟨by rfl, ?_⟩) (by assumption) ?_
  rotate_left
  · intro w hSw; go_simp; try with_reducible rfl
  go_simp
  refine wpAnyH_take (i := 28) (v := ?_) rfl (by kernel_rfl) (by kernel_rfl) (by kernel_rfl) (fun _ _ _ h => h) (Or.inl ⟨by rfl, ?_⟩) (by assumption) ?_
  rotate_left
  · intro w hSw; go_simp; try with_reducible rfl
  go_simp
  refine wpAnyH_take (i := 29) (v := ?_) rfl (by kernel_rfl) (by kernel_rfl) (by kernel_rfl) (fun _ _ _ h => h) (Or.inl ⟨by rfl, ?_⟩) (by assumption) ?_
  rotate_left
  · intro w hSw; go_simp; try with_reducible rfl
  go_simp
  refine wpAnyH_take (i := 30) (v := ?_) rfl (by kernel_rfl) (by kernel_rfl) (by kernel_rfl) (fun _ _ _ h => h) (Or.inl ⟨by rfl, ?_⟩) (by assumption) ?_
  rotate_left
  · intro w hSw; go_simp; try with_reducible rfl
  go_simp
  refine wpAnyH_done (by kernel_rfl) ?_ _
  go_wp2
  refine wp_region_held_drew (S := fun w' => Kp wn w') (by kernel_rfl) ?_ (fun hHeld => ?_)
  · exact (Kp.refl wn).drew.drew
  refine wpAnyH_take (i := 0) (v := ?_) rfl (by kernel_rfl) (by kernel_rfl) (by kernel_rfl) (fun _ _ _ h => h) (Or.inl ⟨by rfl, ?_⟩) (by assumption) ?_
  rotate_left
  · intro w hSw; go_simp; try with_reducible rfl
  go_simp
  refine wpAnyH_take (i := 1) (v := ?_) rfl (by kernel_rfl) (by kernel_rfl) (by kernel_rfl) (fun _ _ _ h => h) (Or.inl ⟨by rfl, ?_⟩) (by assumption) ?_
  rotate_left
  · intro w hSw; go_simp; try with_reducible rfl
  go_simp
  refine wpAnyH_take (i := 2) (v := ?_) rfl (by kernel_rfl) (by kernel_rfl) (by kernel_rfl) (fun _ _ _ h => h) (Or.inl ⟨by rfl, ?_⟩) (by assumption) ?_
  rotate_left
  · intro w hSw; go_simp; try with_reducible rfl
  go_simp
  refine wpAnyH_take (i := 3) (v := ?_) rfl (by kernel_rfl) (by kernel_rfl) (by kernel_rfl) (fun _ _ _ h => h) (Or.inl ⟨by rfl, ?_⟩) (by assumption) ?_
  rotate_left
  · intro w hSw; go_simp; try with_reducible rfl
  go_simp
  refine wpAnyH_take (i := 4) (v := ?_) rfl (by kernel_rfl) (by kernel_rfl) (by kernel_rfl) (fun _ _ _ h => h) (Or.inl ⟨by rfl, ?_⟩) (by assumption) ?_
  rotate_left
  · intro w hSw; go_simp; try with_reducible rfl
  go_simp
  refine wpAnyH_take (i := 5) (v := ?_) rfl (by kernel_rfl) (by kernel_rfl) (by kernel_rfl) (fun _ _ _ h => h) (Or.inl ⟨by rfl, ?_⟩) (by assumption) ?_
  rotate_left
  · intro w hSw; go_simp; try with_reducible rfl
  go_simp
  refine wpAnyH_take (i := 6) (v := ?_) rfl (by kernel_rfl) (by kernel_rfl) (by kernel_rfl) (fun _ _ _ h => h) (Or.inl ⟨by rfl, ?_⟩) (by assumption) ?_
  rotate_left
  · intro w hSw; have q := kp_cell hSw e70; go_simp; try with_reducible rfl
  go_simp
  refine wpAnyH_take (i := 7) (v := ?_) rfl (by kernel_rfl) (by kernel_rfl) (by kernel_rfl) (fun _ _ _ h => h) (Or.inl ⟨by rfl, ?_⟩) (by assumption) ?_
  rotate_left
  · intro w hSw; go_simp; try with_reducible rfl
  go_simp
  refine wpAnyH_take (i := 8) (v := ?_) rfl (by kernel_rfl) (by kernel_rfl) (by kernel_rfl) (fun _ _ _ h => h) (Or.inl ⟨by rfl, ?_⟩) (by assumption) ?_
  rotate_left
  · intro w hSw; go_simp; try with_reducible rfl
  go_simp
  refine wpAnyH_take (i := 9) (v := ?_) rfl (by kernel_rfl) (by kernel_rfl) (by kernel_rfl) (fun _ _ _ h => h) (Or.inl ⟨by rfl, ?_⟩) (by assumption) ?_
  rotate_left
  · intro w hSw; have q := kp_cell hSw f20; go_simp; try with_reducible rfl
  go_simp
  refine wpAnyH_take (i := 10) (v := ?_) rfl (by kernel_rfl) (by kernel_rfl) (by kernel_rfl) (fun _ _ _ h => h) (Or.inl ⟨by rfl, ?_⟩) (by assumption) ?_
  rotate_left
  · intro w hSw; go_simp; try with_reducible rfl
  go_simp
  refine wpAnyH_take (i := 11) (v := ?_) rfl (by kernel_rfl) (by kernel_rfl) (by kernel_rfl) (fun _ _ _ h => h) (Or.inl ⟨by rfl, ?_⟩) (by assumption) ?_
  rotate_left
  · intro w hSw; go_simp; try with_reducible rfl
  go_simp
  refine wpAnyH_take (i := 12) (v := ?_) rfl (by kernel_rfl) (by kernel_rfl) (by kernel_rfl) (fun _ _ _ h => h) (Or.inl ⟨by rfl, ?_⟩) (by assumption) ?_
  rotate_left
  · intro w hSw; go_simp; try with_reducible rfl
  go_simp
  refine wpAnyH_take (i := 13) (v := ?_) rfl (by kernel_rfl) (by kernel_rfl) (by kernel_rfl) (fun _ _ _ h => h) (Or.inl ⟨by rfl, ?_⟩) (by assumption) ?_
  rotate_left
  · intro w hSw; go_simp; try with_reducible rfl
  go_simp
  refine wpAnyH_take (i := 14) (v := ?_) rfl (by kernel_rfl) (by kernel_rfl) (by kernel_rfl) (fun _ _ _ h => h) (Or.inl ⟨by rfl, ?_⟩) (by assumption) ?_
  rotate_left
  · intro w hSw; have q := kp_cell hSw e71; go_simp; try with_reducible rfl
  go_simp
  refine wpAnyH_take (i := 15) (v := ?_) rfl (by kernel_rfl) (by kernel_rfl) (by kernel_rfl) (fun _ _ _ h => h) (Or.inl ⟨by rfl, ?_⟩) (by assumption) ?_
  rotate_left
  · intro w hSw; go_simp; try with_reducible rfl
  go_simp
  refine wpAnyH_take (i := 16) (v := ?_) rfl (by kernel_rfl) (by kernel_rfl) (by kernel_rfl) (fun _ _ _ h => h) (Or.inl ⟨by rfl, ?_⟩) (by assumption) ?_
  rotate_left
  · intro w hSw; go_simp; try with_reducible rfl
  go_simp
  refine wpAnyH_take (i := 17) (v := ?_) rfl (by kernel_rfl) (by kernel_rfl) (by kernel_rfl) (fun _ _ _ h => h) (Or.inl ⟨by rfl, ?_⟩) (by assumption) ?_
  rotate_left
  · intro w hSw; have q := kp_cell hSw f21; go_simp; try with_reducible rfl
  go_simp
  refine wpAnyH_take (i := 18) (v := ?_) rfl (by kernel_rfl) (by kernel_rfl) (by kernel_rfl) (fun _ _ _ h => h) (Or.inl ⟨by rfl, ?_⟩) (by assumption) ?_
  rotate_left
  · intro w hSw; go_simp; try with_reducible rfl
  go_simp
  refine wpAnyH_take (i := 19) (v := ?_) rfl (by kernel_rfl) (by kernel_rfl) (by kernel_rfl) (fun _ _ _ h => h) (Or.inl ⟨by rfl, ?_⟩) (by assumption) ?_
  rotate_left
  · intro w hSw; go_simp; try with_reducible rfl
  go_simp
  refine wpAnyH_take (i := 20) (v := ?_) rfl (by kernel_rfl) (by kernel_rfl) (by kernel_rfl) (fun _ _ _ h => h) (Or.inl ⟨by rfl, ?_⟩) (by assumption) ?_
  rotate_left
  · intro w hSw; go_simp; try with_reducible rfl
  go_simp
  refine wpAnyH_take (i := 21) (v := ?_) rfl (by kernel_rfl) (by kernel_rfl) (by kernel_rfl) (fun _ _ _ h => h) (Or.inl ⟨by rfl, ?_⟩) (by assumption) ?_
  rotate_left
  · intro w hSw; go_simp; try with_reducible rfl
  go_simp
  refine wpAnyH_take (i := 22) (v := ?_) rfl (by kernel_rfl) (by kernel_rfl) (by kernel_rfl) (fun _ _ _ h => h) (Or.inl ⟨by rfl, ?_⟩) (by assumption) ?_
  rotate_left
  · intro w hSw; go_simp; try with_reducible rfl
  go_simp
  refine wpAnyH_take (i := 23) (v := ?_) rfl (by kernel_rfl) (by kernel_rfl) (by kernel_rfl) (fun _ _ _ h => h) (Or.inl ⟨by rfl, ?_⟩) (by assumption) ?_
  rotate_left
  · intro w hSw; go_simp; try with_reducible rfl
  go_simp
  refine wpAnyH_take (i := 24) (v := ?_) rfl (by kernel_rfl) (by kernel_rfl) (by kernel_rfl) (fun _ _ _ h => h) (Or.inl ⟨by rfl, ?_⟩) (by assumption) ?_
  rotate_left
  · intro w hSw; have q := kp_cell hSw f22; go_simp; try with_reducible rfl
  go_simp
  refine wpAnyH_take (i := 25) (v := ?_) rfl (by kernel_rfl) (by kernel_rfl) (by kernel_rfl) (fun _ _ _ h => h) (Or.inl ⟨by rfl, ?_⟩) (by assumption) ?_
  rotate_left
  · intro w hSw; go_simp; try with_reducible rfl
  go_simp
  refine wpAnyH_take (i := 26) (v := ?_) rfl (by kernel_rfl) (by kernel_rfl) (by kernel_rfl) (fun _ _ _ h => h) (Or.inl ⟨by rfl, ?_⟩) (by assumption) ?_
  rotate_left
  · intro w hSw; go_simp; try with_reducible rfl
  go_simp
  refine wpAnyH_take (i := 27) (v := ?_) rfl (by kernel_rfl) (by kernel_rfl) (by kernel_rfl) (fun _ _ _ h => h) (Or.inl ⟨by rfl, ?_⟩) (by assumption) ?_
  rotate_left
  · intro w hSw; go_simp; try with_reducible rfl
  go_simp
  refine wpAnyH_take (i := 28) (v := undef) rfl (by kernel_rfl) (by kernel_rfl) (by kernel_rfl) (fun _ _ _ h => h) (Or.inr ⟨by rfl, rfl⟩) (by assumption) ?_
  go_simp
  refine wpAnyH_take (i := 29) (v := undef) rfl (by kernel_rfl) (by kernel_rfl) (by kernel_rfl) (fun _ _ _ h => h) (Or.inr ⟨by rfl, rfl⟩) (by assumption) ?_
  go_simp
  refine wpAnyH_take (i := 30) (v := undef) rfl (by kernel_rfl) (by kernel_rfl) (by kernel_rfl) (fun _ _ _ h => h) (Or.inr ⟨by rfl, rfl⟩) (by assumption) ?_
  go_simp
  refine wpAnyH_take (i := 31) (v := undef) rfl (by kernel_rfl) (by kernel_rfl) (by kernel_rfl) (fun _ _ _ h => h) (Or.inr ⟨by rfl, rfl⟩) (by assumption) ?_
  go_simp
  refine wpAnyH_take (i := 32) (v := undef) rfl (by kernel_rfl) (by kernel_rfl) (by kernel_rfl) (fun _ _ _ h => h) (Or.inr ⟨by rfl, rfl⟩) (by assumption) ?_
  go_simp
  refine wpAnyH_take (i := 33) (v := undef) rfl (by kernel_rfl) (by kernel_rfl) (by kernel_rfl) (fun _ _ _ h => h) (Or.inr ⟨by rfl, rfl⟩) (by assumption) ?_
  go_simp
  refine wpAnyH_take (i := 34) (v := undef) rfl (by kernel_rfl) (by kernel_rfl) (by kernel_rfl) (fun _ _ _ h => h) (Or.inr ⟨by rfl, rfl⟩) (by assumption) ?_
  go_simp
  refine wpAnyH_take (i := 35) (v := undef) rfl (by kernel_rfl) (by kernel_rfl) (by kernel_rfl) (fun _ _ _ h => h) (Or.inr ⟨by rfl, rfl⟩) (by assumption) ?_
  go_simp
  refine wpAnyH_take (i := 36) (v := undef) rfl (by kernel_rfl) (by kernel_rfl) (by kernel_rfl) (fun _ _ _ h => h) (Or.inr ⟨by rfl, rfl⟩) (by assumption) ?_
  go_simp
  refine wpAnyH_take (i := 37) (v := undef) rfl (by kernel_rfl) (by kernel_rfl) (by kernel_rfl) (fun _ _ _ h => h) (Or.inr ⟨by rfl, rfl⟩) (by assumption) ?_
  go_simp
  refine wpAnyH_take (i := 38) (v := undef) rfl (by kernel_rfl) (by kernel_rfl) (by kernel_rfl) (fun _ _ _ h => h) (Or.inr ⟨by rfl, rfl⟩) (by assumption) ?_
  go_simp
  refine wpAnyH_take (i := 39) (v := ?_) rfl (by kernel_rfl) (by kernel_rfl) (by kernel_rfl) (fun _ _ _ h => h) (Or.inl ⟨by rfl, ?_⟩) (by assumption) ?_
  rotate_left
  · intro w hSw; go_simp; try with_reducible rfl
  go_simp
  refine wpAnyH_take (i := 40) (v := ?_) rfl (by kernel_rfl) (by kernel_rfl) (by kernel_rfl) (fun _ _ _ h => h) (Or.inl ⟨by rfl, ?_⟩) (by assumption) ?_
  rotate_left
  · intro w hSw; go_simp; try with_reducible rfl
  go_simp
  refine wpAnyH_take (i := 41) (v := ?_) rfl (by kernel_rfl) (by kernel_rfl) (by kernel_rfl) (fun _ _ _ h => h) (Or.inl ⟨by rfl, ?_⟩) (by assumption) ?_
  rotate_left
  · intro w hSw; go_simp; try with_reducible rfl
  go_simp
  refine wpAnyH_done (by kernel_rfl) ?_ _
  go_wp2
  go_ret
  exact ⟨by first | rfl | simp [*], KK.out.drew.drew⟩
end Go.Proofs.YtjilfkfhnbhjiaaDoor
