/-
  THE LAW's alive (own work), stage 9.
-/
import Derived.Test.YtldamfpoemgkpaaDoorScoC
namespace Go.Proofs.YtldamfpoemgkpaaDoor
open Go.RowKit Go.ChangeShapes Go.WideShapes

theorem live_new9 : newX 0 1 1 4617315517961601024 9218868437227405312 = (0, ⟨0, 1, 1, 0, 9218868437227405312⟩) := by kernel_rfl
theorem live_o1 : openX ⟨0, 1, 1, 0, 9218868437227405312⟩ 4617315517961601024 = true := by kernel_rfl
theorem live_o2 : openX ⟨0, 1, 1, 0, 9218868437227405312⟩ 9094988921128908188 = true := by kernel_rfl
theorem live_o3 : openX ⟨0, 1, 1, 0, 9218868437227405312⟩ 9218868437227405312 = false := by kernel_rfl
set_option maxRecDepth 100000 in
set_option maxHeartbeats 4000000 in
theorem alive9_any (ads : List Addr) (w : World) (S : ScoC ads w) : Calls Tryd.prog 7 #[] w fun e w' => e = .returned (.bool true) ∧ Kp w w' := by
  have HN := fun w1 (hk : Kp w w1) => S.new w1 hk 0 1 1 4617315517961601024 9218868437227405312 (by decide) (by decide)
  have O1 := fun w1 (hk : Kp w w1) => S.opn w1 hk ⟨0, 1, 1, 0, 9218868437227405312⟩ 4617315517961601024 (by unfold CX.wf; decide) (by decide)
  have O2 := fun w1 (hk : Kp w w1) => S.opn w1 hk ⟨0, 1, 1, 0, 9218868437227405312⟩ 9094988921128908188 (by unfold CX.wf; decide) (by decide)
  have O3 := fun w1 (hk : Kp w w1) => S.opn w1 hk ⟨0, 1, 1, 0, 9218868437227405312⟩ 9218868437227405312 (by unfold CX.wf; decide) (by decide)
  rw [live_new9] at HN
  rw [live_o1] at O1
  rw [live_o2] at O2
  rw [live_o3] at O3
  dsimp only [CX.cells] at HN O1 O2 O3
  simp only [errI_nil] at HN
  have HN := Lib.hid HN
  have O1 := Lib.hid O1
  have O2 := Lib.hid O2
  have O3 := Lib.hid O3
  have hsf := store_fl
  go_enter Tryd.func7, Tryd.ntmps7
  go_wp2_with (first
    | (go_at_call 20; (with_reducible refine (inf_one _).mono ?_); rintro e w' ⟨rfl, rfl⟩)
    | (go_at_call 8; (with_reducible refine (HN.out _ (Kp.refl _)).mono ?_); rintro e w1 ⟨rfl, hk⟩; have K1 := Lib.hid (Kp.trans hk (kp_alloc w1 (.cells #[.int .i64 0, .int .i64 1, .int .i64 1, .int .i64 0, .float .f64 9218868437227405312] 29))); have B1 := (MapKept.heap_alloc w1 (.cells #[.int .i64 0, .int .i64 1, .int .i64 1, .int .i64 0, .float .f64 9218868437227405312] 29)).1; obtain ⟨b0, b1, b2, b3, b4⟩ := cells5 (B1); clear hk B1))
  obtain ⟨w2, hw2⟩ : ∃ y, w1.alloc (.cells #[.int .i64 0, .int .i64 1, .int .i64 1, .int .i64 0, .float .f64 9218868437227405312] 29) = y := ⟨_, rfl⟩
  obtain ⟨p0, hp0⟩ : ∃ y, w1.heap.size = y := ⟨_, rfl⟩
  rw [hw2] at K1 b0 b1 b2 b3 b4 ⊢
  rw [hp0] at b0 b1 b2 b3 b4 ⊢
  clear hw2 hp0
  refine wp_region_held_drew (S := fun w' => Kp w2 w') (by kernel_rfl) ?_ (fun hHeld => ?_)
  · exact (Kp.refl w2).drew
  refine wpAnyH_take (i := 0) (v := ?_) rfl (by kernel_rfl) (by kernel_rfl) (by kernel_rfl) (fun _ _ _ h => h) (Or.inl ⟨by rfl, ?_⟩) (by assumption) ?_
  rotate_left
  · intro w hSw; go_simp; try with_reducible rfl
  go_simp
  refine wpAnyH_take (i := 1) (v := ?_) rfl (by kernel_rfl) (by kernel_rfl) (by kernel_rfl) (fun _ _ _ h => h) (Or.inl ⟨by rfl, ?_⟩) (by assumption) ?_
  rotate_left
  · intro w hSw; go_simp; try with_reducible rfl
  go_simp
  refine wpAnyH_take (i := 2) (v := ?_) rfl (by kernel_rfl) (by kernel_rfl) (by kernel_rfl) (fun _ _ _ h => h) (Or.inl ⟨by rfl, ?_⟩) (by assumption) ?_
  rotate_left
  · intro w hSw; go_simp; try with_reducible rfl
  go_simp
  refine wpAnyH_take (i := 3) (v := ?_) rfl (by kernel_rfl) (by kernel_rfl) (by kernel_rfl) (fun _ _ _ h => h) (Or.inl ⟨by rfl, ?_⟩) (by assumption) ?_
  rotate_left
  · intro w hSw; have qb0 := kp_cell hSw b0; have qb1 := kp_cell hSw b1; have qb2 := kp_cell hSw b2; have qb3 := kp_cell hSw b3; have qb4 := kp_cell hSw b4; go_simp; try with_reducible rfl
  go_simp
  refine wpAnyH_ready (rs := [4]) (by kernel_rfl) (by simp) ?_
  refine AllReadyH.cons rfl (fun K hK => ?_) AllReadyH.nil
  go_simp
  go_wp2_with (go_at_call 16; (with_reducible refine (O1.out _ (Kp.trans K1.out hHeld)).mono ?_); rintro e w' ⟨rfl, hk⟩; have KK := Lib.hid (Kp.trans hHeld hk); clear hk)
  refine hK.out _ _ ?_ (fun hHeld => ?_)
  · exact KK.out
  clear hK K
  refine wpAnyH_take (i := 5) (v := ?_) rfl (by kernel_rfl) (by kernel_rfl) (by kernel_rfl) (fun _ _ _ h => h) (Or.inl ⟨by rfl, ?_⟩) (by assumption) ?_
  rotate_left
  · intro w hSw; go_simp; try with_reducible rfl
  go_simp
  refine wpAnyH_take (i := 6) (v := ?_) rfl (by kernel_rfl) (by kernel_rfl) (by kernel_rfl) (fun _ _ _ h => h) (Or.inl ⟨by rfl, ?_⟩) (by assumption) ?_
  rotate_left
  · intro w hSw; go_simp; try with_reducible rfl
  go_simp
  refine wpAnyH_take (i := 7) (v := ?_) rfl (by kernel_rfl) (by kernel_rfl) (by kernel_rfl) (fun _ _ _ h => h) (Or.inl ⟨by rfl, ?_⟩) (by assumption) ?_
  rotate_left
  · intro w hSw; have qb0 := kp_cell hSw b0; have qb1 := kp_cell hSw b1; have qb2 := kp_cell hSw b2; have qb3 := kp_cell hSw b3; have qb4 := kp_cell hSw b4; go_simp; try with_reducible rfl
  go_simp
  refine wpAnyH_ready (rs := [8]) (by kernel_rfl) (by simp) ?_
  refine AllReadyH.cons rfl (fun K hK => ?_) AllReadyH.nil
  go_simp
  go_wp2_with (go_at_call 16; (with_reducible refine (O2.out _ (Kp.trans K1.out hHeld)).mono ?_); rintro e w' ⟨rfl, hk⟩; have KK := Lib.hid (Kp.trans hHeld hk); clear hk)
  refine hK.out _ _ ?_ (fun hHeld => ?_)
  · exact KK.out
  clear hK K
  refine wpAnyH_take (i := 9) (v := ?_) rfl (by kernel_rfl) (by kernel_rfl) (by kernel_rfl) (fun _ _ _ h => h) (Or.inl ⟨by rfl, ?_⟩) (by assumption) ?_
  rotate_left
  · intro w hSw; go_simp; try with_reducible rfl
  go_simp
  refine wpAnyH_take (i := 10) (v := ?_) rfl (by kernel_rfl) (by kernel_rfl) (by kernel_rfl) (fun _ _ _ h => h) (Or.inl ⟨by rfl, ?_⟩) (by assumption) ?_
  rotate_left
  · intro w hSw; go_simp; try with_reducible rfl
  go_simp
  refine wpAnyH_take (i := 11) (v := ?_) rfl (by kernel_rfl) (by kernel_rfl) (by kernel_rfl) (fun _ _ _ h => h) (Or.inl ⟨by rfl, ?_⟩) (by assumption) ?_
  rotate_left
  · intro w hSw; have qb0 := kp_cell hSw b0; have qb1 := kp_cell hSw b1; have qb2 := kp_cell hSw b2; have qb3 := kp_cell hSw b3; have qb4 := kp_cell hSw b4; go_simp; try with_reducible rfl
  go_simp
  refine wpAnyH_ready (rs := [12]) (by kernel_rfl) (by simp) ?_
  refine AllReadyH.cons rfl (fun K hK => ?_) AllReadyH.nil
  go_simp
  go_wp2_with (go_at_call 20; (with_reducible refine (inf_one _).mono ?_); rintro e w' ⟨rfl, rfl⟩)
  refine hK.out _ _ ?_ (fun hHeld => ?_)
  · exact hHeld
  clear hK K
  refine wpAnyH_ready (rs := [13]) (by kernel_rfl) (by simp) ?_
  refine AllReadyH.cons rfl (fun K hK => ?_) AllReadyH.nil
  go_simp
  go_wp2_with (go_at_call 16; (with_reducible refine (O3.out _ (Kp.trans K1.out hHeld)).mono ?_); rintro e w' ⟨rfl, hk⟩; have KK := Lib.hid (Kp.trans hHeld hk); clear hk)
  refine hK.out _ _ ?_ (fun hHeld => ?_)
  · exact KK.out
  clear hK K
  refine wpAnyH_take (i := 14) (v := ?_) rfl (by kernel_rfl) (by kernel_rfl) (by kernel_rfl) (fun _ _ _ h => h) (Or.inl ⟨by rfl, ?_⟩) (by assumption) ?_
  rotate_left
  · intro w hSw; go_simp; try with_reducible rfl
  go_simp
  refine wpAnyH_take (i := 15) (v := ?_) rfl (by kernel_rfl) (by kernel_rfl) (by kernel_rfl) (fun _ _ _ h => h) (Or.inl ⟨by rfl, ?_⟩) (by assumption) ?_
  rotate_left
  · intro w hSw; go_simp; try with_reducible rfl
  go_simp
  refine wpAnyH_take (i := 16) (v := ?_) rfl (by kernel_rfl) (by kernel_rfl) (by kernel_rfl) (fun _ _ _ h => h) (Or.inl ⟨by rfl, ?_⟩) (by assumption) ?_
  rotate_left
  · intro w hSw; go_simp; try with_reducible rfl
  go_simp
  refine wpAnyH_done (by kernel_rfl) ?_ _
  go_wp2
  go_ret
  exact ⟨by first | rfl | simp, Kp.trans K1.out hHeld⟩
end Go.Proofs.YtldamfpoemgkpaaDoor
