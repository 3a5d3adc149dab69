/-
  ScopeChildren's WALK (own work).
-/
import Derived.Test.YtldamfpoemgkpaaDoorSalV
namespace Go.Proofs.YtldamfpoemgkpaaDoor
open Go.RowKit Go.ChangeShapes Go.WideShapes

set_option maxRecDepth 100000 in
set_option maxHeartbeats 8000000 in
theorem children_any (ads : List Addr) (c e : CX) (t : Nat) (hc : c.wf) (he : e.wf) (ht : t < 18446744073709551616) (w : World) (V : St ads w) (S : ScoC ads w) :
    Calls Tryd.prog 4 #[.agg c.cells, .agg e.cells, .float .f64 t] w fun e w' => e = .returned (.bool true) ∧ Kp w w' := by
  have HA := Lib.hid (fun w1 (hk : Kp w w1) => alive9_any ads w1 (ScoC.kp S hk))
  have HN := fun w1 (hk : Kp w w1) => S.child w1 hk c e.n e.s e.o hc
  have HF := fun w1 => refChild9_any c hc e.n e.s e.o w1
  have hwf := child_wf9 hc e.n e.s e.o
  have hrg := child_num9 c e.n e.s e.o
  have HU := fun w1 (hk : Kp w w1) => num_errN ads w1 (V.below hk) (childX c e.n e.s e.o).1 hrg.1 hrg.2
  obtain ⟨M, hM⟩ : ∃ y, (childX c e.n e.s e.o).2 = y := ⟨_, rfl⟩
  obtain ⟨k, hk0⟩ : ∃ y, (childX c e.n e.s e.o).1 = y := ⟨_, rfl⟩
  rw [hM] at HN HF hwf
  rw [hk0] at HN HF HU
  obtain ⟨ev, hev⟩ : ∃ y, errI ads k = y := ⟨_, rfl⟩
  rw [hev] at HN HU
  have HS := fun w1 => refSame9_any M M hwf hwf w1
  rw [same_refl9] at HS
  have HR := fun w1 (hk : Kp w w1) => S.right w1 hk c hc
  have HR8 := fun w1 => refRight9_any c hc w1
  have HO := fun w1 (hk : Kp w w1) => S.opn w1 hk c t hc ht
  have HO8 := fun w1 => refOpen9_any c hc t ht w1
  have HX := fun w1 (hk : Kp w w1) => S.same w1 hk c e hc he
  have HX8 := fun w1 => refSame9_any c e hc he w1
  have HX1 := fun w1 (hk : Kp w w1) => S.same w1 hk c c hc hc
  rw [same_refl9] at HX1
  obtain ⟨rx, hrx⟩ : ∃ y, rightX c = y := ⟨_, rfl⟩
  obtain ⟨ox, hox⟩ : ∃ y, openX c t = y := ⟨_, rfl⟩
  obtain ⟨sx, hsx⟩ : ∃ y, sameX c e = y := ⟨_, rfl⟩
  rw [hrx] at HR HR8
  rw [hox] at HO HO8
  rw [hsx] at HX HX8
  obtain ⟨n3, s3, o3, d3, x3⟩ := M
  obtain ⟨n, s, o, d, x⟩ := c
  obtain ⟨n2, s2, o2, d2, x2⟩ := e
  dsimp only [CX.cells] at HN HF HS HR HR8 HO HO8 HX HX8 HX1 ⊢
  have HN := Lib.hid HN
  have HF := Lib.hid HF
  have HS := Lib.hid HS
  have HR := Lib.hid HR
  have HR8 := Lib.hid HR8
  have HO := Lib.hid HO
  have HO8 := Lib.hid HO8
  have HX := Lib.hid HX
  have HX8 := Lib.hid HX8
  have HX1 := Lib.hid HX1
  have HU := Lib.hid HU
  have KK := Lib.hid (Kp.trans (kp_alloc w (.cells #[.int .i64 n, .int .i64 s, .int .i64 o, .int .i64 d, .float .f64 x] 29)) (kp_alloc (w.alloc (.cells #[.int .i64 n, .int .i64 s, .int .i64 o, .int .i64 d, .float .f64 x] 29)) (.cells #[.int .i64 n2, .int .i64 s2, .int .i64 o2, .int .i64 d2, .float .f64 x2] 29)))
  have RC := Lib.hid (new5_0 w (.cells #[.int .i64 n, .int .i64 s, .int .i64 o, .int .i64 d, .float .f64 x] 29) (.cells #[.int .i64 n2, .int .i64 s2, .int .i64 o2, .int .i64 d2, .float .f64 x2] 29))
  have RD := Lib.hid (new5_1 w (.cells #[.int .i64 n, .int .i64 s, .int .i64 o, .int .i64 d, .float .f64 x] 29) (.cells #[.int .i64 n2, .int .i64 s2, .int .i64 o2, .int .i64 d2, .float .f64 x2] 29))
  obtain ⟨b0, b1, b2, b3, b4⟩ := cells5 (RC.out)
  obtain ⟨c0, c1, c2, c3, c4⟩ := cells5 (RD.out)
  clear hwf hrg hM hk0 hev hrx hox hsx V S hc he ht
  have hsf := store_fl
  go_enter Tryd.func4, Tryd.ntmps4
  go_wp2_with (first
    | (go_at_call 7; (with_reducible refine (HA.out _ KK.out).mono ?_); rintro e w2 ⟨rfl, hk⟩; clear b0 c0 b1 c1 b2 c2 b3 c3 b4 c4; have KK := Lib.hid (Kp.trans KK.out hk); have RC := Lib.hid (kp_row hk RC.out); have RD := Lib.hid (kp_row hk RD.out); obtain ⟨b0, b1, b2, b3, b4⟩ := cells5 (RC.out); obtain ⟨c0, c1, c2, c3, c4⟩ := cells5 (RD.out); clear hk)
    | (go_at_call 13; (with_reducible refine (HN.out _ KK.out).mono ?_); rintro e w3 ⟨rfl, hk0⟩; have hk := Kp.trans hk0 (kp_alloc w3 (.cells #[.int .i64 n3, .int .i64 s3, .int .i64 o3, .int .i64 d3, .float .f64 x3] 29)); clear b0 c0 b1 c1 b2 c2 b3 c3 b4 c4; have KK := Lib.hid (Kp.trans KK.out hk); have RC := Lib.hid (kp_row hk RC.out); have RD := Lib.hid (kp_row hk RD.out); obtain ⟨b0, b1, b2, b3, b4⟩ := cells5 (RC.out); obtain ⟨c0, c1, c2, c3, c4⟩ := cells5 (RD.out); have BX := Lib.hid (MapKept.heap_alloc w3 (.cells #[.int .i64 n3, .int .i64 s3, .int .i64 o3, .int .i64 d3, .float .f64 x3] 29)).1; clear hk hk0)
    | (go_at_call 14; (with_reducible refine (HF.out _).mono ?_); rintro e w4 ⟨rfl, hk0⟩; have hk := Kp.trans hk0 (kp_alloc w4 (.cells #[.int .i64 n3, .int .i64 s3, .int .i64 o3, .int .i64 d3, .float .f64 x3] 29)); clear b0 c0 b1 c1 b2 c2 b3 c3 b4 c4; have KK := Lib.hid (Kp.trans KK.out hk); have RC := Lib.hid (kp_row hk RC.out); have RD := Lib.hid (kp_row hk RD.out); obtain ⟨b0, b1, b2, b3, b4⟩ := cells5 (RC.out); obtain ⟨c0, c1, c2, c3, c4⟩ := cells5 (RD.out); have BX := Lib.hid (kp_row hk BX.out); obtain ⟨y0, y1, y2, y3, y4⟩ := cells5 (BX.out); clear hk hk0))
  have BY := Lib.hid (MapKept.heap_alloc w4 (.cells #[.int .i64 n3, .int .i64 s3, .int .i64 o3, .int .i64 d3, .float .f64 x3] 29)).1
  obtain ⟨wX, hwX⟩ : ∃ y, w4.alloc (.cells #[.int .i64 n3, .int .i64 s3, .int .i64 o3, .int .i64 d3, .float .f64 x3] 29) = y := ⟨_, rfl⟩
  obtain ⟨p4, hp4⟩ : ∃ y, w4.heap.size = y := ⟨_, rfl⟩
  rw [hwX] at KK RC RD BX BY b0 b1 b2 b3 b4 c0 c1 c2 c3 c4 y0 y1 y2 y3 y4 ⊢
  rw [hp4] at BY ⊢
  obtain ⟨z0, z1, z2, z3, z4⟩ := cells5 (BY.out)
  clear hwX hp4
  refine wp_region_held_drew (S := fun w' => Kp wX w') (by kernel_rfl) ?_ (fun hHeld => ?_)
  · exact (Kp.refl wX).drew
  refine wpAnyH_take (i := 0) (v := ?_) rfl (by kernel_rfl) (by kernel_rfl) (by kernel_rfl) (fun _ _ _ h => h) (Or.inl ⟨by rfl, ?_⟩) (by assumption) ?_
  rotate_left
  · intro w hSw; have qy0 := kp_cell hSw y0; have qy1 := kp_cell hSw y1; have qy2 := kp_cell hSw y2; have qy3 := kp_cell hSw y3; have qy4 := kp_cell hSw y4; go_simp; try with_reducible rfl
  go_simp
  refine wpAnyH_take (i := 1) (v := ?_) rfl (by kernel_rfl) (by kernel_rfl) (by kernel_rfl) (fun _ _ _ h => h) (Or.inl ⟨by rfl, ?_⟩) (by assumption) ?_
  rotate_left
  · intro w hSw; have qz0 := kp_cell hSw z0; have qz1 := kp_cell hSw z1; have qz2 := kp_cell hSw z2; have qz3 := kp_cell hSw z3; have qz4 := kp_cell hSw z4; go_simp; try with_reducible rfl
  go_simp
  refine wpAnyH_ready (rs := [2]) (by kernel_rfl) (by simp) ?_
  refine AllReadyH.cons rfl (fun K hK => ?_) AllReadyH.nil
  go_simp
  go_wp2_with (go_at_call 10; (with_reducible refine (HS.out _).mono ?_); rintro e w5 ⟨rfl, hk⟩; have KH := Lib.hid (Kp.trans hHeld hk); clear hk)
  refine hK.out _ _ ?_ (fun hHeld => ?_)
  · exact KH.out
  clear hK K
  refine wpAnyH_take (i := 3) (v := ?_) rfl (by kernel_rfl) (by kernel_rfl) (by kernel_rfl) (fun _ _ _ h => h) (Or.inl ⟨by rfl, ?_⟩) (by assumption) ?_
  rotate_left
  · intro w hSw; go_simp; try with_reducible rfl
  go_simp
  refine wpAnyH_take (i := 4) (v := ?_) rfl (by kernel_rfl) (by kernel_rfl) (by kernel_rfl) (fun _ _ _ h => h) (Or.inl ⟨by rfl, ?_⟩) (by assumption) ?_
  rotate_left
  · intro w hSw; go_simp; try with_reducible rfl
  go_simp
  refine wpAnyH_take (i := 6) (v := ?_) rfl (by kernel_rfl) (by kernel_rfl) (by kernel_rfl) (fun _ _ _ h => h) (Or.inl ⟨by rfl, ?_⟩) (by assumption) ?_
  rotate_left
  · intro w hSw; go_simp; try with_reducible rfl
  go_simp
  refine wpAnyH_ready (rs := [5]) (by kernel_rfl) (by simp) ?_
  refine AllReadyH.cons rfl (fun K hK => ?_) AllReadyH.nil
  go_simp
  go_wp2_with (go_at_call 11; (with_reducible refine (HU.out _ (Kp.trans KK.out hHeld)).mono ?_); rintro e w5 ⟨rfl, hk⟩; have KH := Lib.hid (Kp.trans hHeld hk); clear hk)
  refine hK.out _ _ ?_ (fun hHeld => ?_)
  · exact KH.out
  clear hK K
  refine wpAnyH_take (i := 7) (v := ?_) rfl (by kernel_rfl) (by kernel_rfl) (by kernel_rfl) (fun _ _ _ h => h) (Or.inl ⟨by rfl, ?_⟩) (by assumption) ?_
  rotate_left
  · intro w hSw; go_simp; try with_reducible rfl
  go_simp
  refine wpAnyH_take (i := 8) (v := ?_) rfl (by kernel_rfl) (by kernel_rfl) (by kernel_rfl) (fun _ _ _ h => h) (Or.inl ⟨by rfl, ?_⟩) (by assumption) ?_
  rotate_left
  · intro w hSw; go_simp; try with_reducible rfl
  go_simp
  refine wpAnyH_take (i := 9) (v := ?_) rfl (by kernel_rfl) (by kernel_rfl) (by kernel_rfl) (fun _ _ _ h => h) (Or.inl ⟨by rfl, ?_⟩) (by assumption) ?_
  rotate_left
  · intro w hSw; go_simp; try with_reducible rfl
  go_simp
  refine wpAnyH_take (i := 10) (v := ?_) rfl (by kernel_rfl) (by kernel_rfl) (by kernel_rfl) (fun _ _ _ h => h) (Or.inl ⟨by rfl, ?_⟩) (by assumption) ?_
  rotate_left
  · intro w hSw; have qb0 := kp_cell hSw b0; have qb1 := kp_cell hSw b1; have qb2 := kp_cell hSw b2; have qb3 := kp_cell hSw b3; have qb4 := kp_cell hSw b4; go_simp; try with_reducible rfl
  go_simp
  refine wpAnyH_take (i := 12) (v := ?_) rfl (by kernel_rfl) (by kernel_rfl) (by kernel_rfl) (fun _ _ _ h => h) (Or.inl ⟨by rfl, ?_⟩) (by assumption) ?_
  rotate_left
  · intro w hSw; have qb0 := kp_cell hSw b0; have qb1 := kp_cell hSw b1; have qb2 := kp_cell hSw b2; have qb3 := kp_cell hSw b3; have qb4 := kp_cell hSw b4; go_simp; try with_reducible rfl
  go_simp
  refine wpAnyH_ready (rs := [11]) (by kernel_rfl) (by simp) ?_
  refine AllReadyH.cons rfl (fun K hK => ?_) AllReadyH.nil
  go_simp
  go_wp2_with (go_at_call 12; (with_reducible refine (HR.out _ (Kp.trans KK.out hHeld)).mono ?_); rintro e w5 ⟨rfl, hk⟩; have KH := Lib.hid (Kp.trans hHeld hk); clear hk)
  refine hK.out _ _ ?_ (fun hHeld => ?_)
  · exact KH.out
  clear hK K
  refine wpAnyH_ready (rs := [13]) (by kernel_rfl) (by simp) ?_
  refine AllReadyH.cons rfl (fun K hK => ?_) AllReadyH.nil
  go_simp
  go_wp2_with (go_at_call 15; (with_reducible refine (HR8.out _).mono ?_); rintro e w5 ⟨rfl, hk⟩; have KH := Lib.hid (Kp.trans hHeld hk); clear hk)
  refine hK.out _ _ ?_ (fun hHeld => ?_)
  · exact KH.out
  clear hK K
  refine wpAnyH_take (i := 14) (v := ?_) rfl (by kernel_rfl) (by kernel_rfl) (by kernel_rfl) (fun _ _ _ h => h) (Or.inl ⟨by rfl, ?_⟩) (by assumption) ?_
  rotate_left
  · intro w hSw; go_simp; try with_reducible rfl
  go_simp
  refine wpAnyH_take (i := 15) (v := ?_) rfl (by kernel_rfl) (by kernel_rfl) (by kernel_rfl) (fun _ _ _ h => h) (Or.inl ⟨by rfl, ?_⟩) (by assumption) ?_
  rotate_left
  · intro w hSw; go_simp; try with_reducible rfl
  go_simp
  refine wpAnyH_take (i := 16) (v := ?_) rfl (by kernel_rfl) (by kernel_rfl) (by kernel_rfl) (fun _ _ _ h => h) (Or.inl ⟨by rfl, ?_⟩) (by assumption) ?_
  rotate_left
  · intro w hSw; go_simp; try with_reducible rfl
  go_simp
  refine wpAnyH_take (i := 17) (v := ?_) rfl (by kernel_rfl) (by kernel_rfl) (by kernel_rfl) (fun _ _ _ h => h) (Or.inl ⟨by rfl, ?_⟩) (by assumption) ?_
  rotate_left
  · intro w hSw; have qb0 := kp_cell hSw b0; have qb1 := kp_cell hSw b1; have qb2 := kp_cell hSw b2; have qb3 := kp_cell hSw b3; have qb4 := kp_cell hSw b4; go_simp; try with_reducible rfl
  go_simp
  refine wpAnyH_take (i := 18) (v := ?_) rfl (by kernel_rfl) (by kernel_rfl) (by kernel_rfl) (fun _ _ _ h => h) (Or.inl ⟨by rfl, ?_⟩) (by assumption) ?_
  rotate_left
  · intro w hSw; go_simp; try with_reducible rfl
  go_simp
  refine wpAnyH_take (i := 20) (v := ?_) rfl (by kernel_rfl) (by kernel_rfl) (by kernel_rfl) (fun _ _ _ h => h) (Or.inl ⟨by rfl, ?_⟩) (by assumption) ?_
  rotate_left
  · intro w hSw; have qb0 := kp_cell hSw b0; have qb1 := kp_cell hSw b1; have qb2 := kp_cell hSw b2; have qb3 := kp_cell hSw b3; have qb4 := kp_cell hSw b4; go_simp; try with_reducible rfl
  go_simp
  refine wpAnyH_take (i := 21) (v := ?_) rfl (by kernel_rfl) (by kernel_rfl) (by kernel_rfl) (fun _ _ _ h => h) (Or.inl ⟨by rfl, ?_⟩) (by assumption) ?_
  rotate_left
  · intro w hSw; go_simp; try with_reducible rfl
  go_simp
  refine wpAnyH_ready (rs := [19]) (by kernel_rfl) (by simp) ?_
  refine AllReadyH.cons rfl (fun K hK => ?_) AllReadyH.nil
  go_simp
  go_wp2_with (go_at_call 16; (with_reducible refine (HO.out _ (Kp.trans KK.out hHeld)).mono ?_); rintro e w5 ⟨rfl, hk⟩; have KH := Lib.hid (Kp.trans hHeld hk); clear hk)
  refine hK.out _ _ ?_ (fun hHeld => ?_)
  · exact KH.out
  clear hK K
  refine wpAnyH_ready (rs := [22]) (by kernel_rfl) (by simp) ?_
  refine AllReadyH.cons rfl (fun K hK => ?_) AllReadyH.nil
  go_simp
  go_wp2_with (go_at_call 17; (with_reducible refine (HO8.out _).mono ?_); rintro e w5 ⟨rfl, hk⟩; have KH := Lib.hid (Kp.trans hHeld hk); clear hk)
  refine hK.out _ _ ?_ (fun hHeld => ?_)
  · exact KH.out
  clear hK K
  refine wpAnyH_take (i := 23) (v := ?_) rfl (by kernel_rfl) (by kernel_rfl) (by kernel_rfl) (fun _ _ _ h => h) (Or.inl ⟨by rfl, ?_⟩) (by assumption) ?_
  rotate_left
  · intro w hSw; go_simp; try with_reducible rfl
  go_simp
  refine wpAnyH_take (i := 24) (v := ?_) rfl (by kernel_rfl) (by kernel_rfl) (by kernel_rfl) (fun _ _ _ h => h) (Or.inl ⟨by rfl, ?_⟩) (by assumption) ?_
  rotate_left
  · intro w hSw; go_simp; try with_reducible rfl
  go_simp
  refine wpAnyH_take (i := 25) (v := ?_) rfl (by kernel_rfl) (by kernel_rfl) (by kernel_rfl) (fun _ _ _ h => h) (Or.inl ⟨by rfl, ?_⟩) (by assumption) ?_
  rotate_left
  · intro w hSw; go_simp; try with_reducible rfl
  go_simp
  refine wpAnyH_take (i := 26) (v := ?_) rfl (by kernel_rfl) (by kernel_rfl) (by kernel_rfl) (fun _ _ _ h => h) (Or.inl ⟨by rfl, ?_⟩) (by assumption) ?_
  rotate_left
  · intro w hSw; have qb0 := kp_cell hSw b0; have qb1 := kp_cell hSw b1; have qb2 := kp_cell hSw b2; have qb3 := kp_cell hSw b3; have qb4 := kp_cell hSw b4; go_simp; try with_reducible rfl
  go_simp
  refine wpAnyH_take (i := 27) (v := ?_) rfl (by kernel_rfl) (by kernel_rfl) (by kernel_rfl) (fun _ _ _ h => h) (Or.inl ⟨by rfl, ?_⟩) (by assumption) ?_
  rotate_left
  · intro w hSw; have qc0 := kp_cell hSw c0; have qc1 := kp_cell hSw c1; have qc2 := kp_cell hSw c2; have qc3 := kp_cell hSw c3; have qc4 := kp_cell hSw c4; go_simp; try with_reducible rfl
  go_simp
  refine wpAnyH_take (i := 29) (v := ?_) rfl (by kernel_rfl) (by kernel_rfl) (by kernel_rfl) (fun _ _ _ h => h) (Or.inl ⟨by rfl, ?_⟩) (by assumption) ?_
  rotate_left
  · intro w hSw; have qb0 := kp_cell hSw b0; have qb1 := kp_cell hSw b1; have qb2 := kp_cell hSw b2; have qb3 := kp_cell hSw b3; have qb4 := kp_cell hSw b4; go_simp; try with_reducible rfl
  go_simp
  refine wpAnyH_take (i := 30) (v := ?_) rfl (by kernel_rfl) (by kernel_rfl) (by kernel_rfl) (fun _ _ _ h => h) (Or.inl ⟨by rfl, ?_⟩) (by assumption) ?_
  rotate_left
  · intro w hSw; have qc0 := kp_cell hSw c0; have qc1 := kp_cell hSw c1; have qc2 := kp_cell hSw c2; have qc3 := kp_cell hSw c3; have qc4 := kp_cell hSw c4; go_simp; try with_reducible rfl
  go_simp
  refine wpAnyH_ready (rs := [28]) (by kernel_rfl) (by simp) ?_
  refine AllReadyH.cons rfl (fun K hK => ?_) AllReadyH.nil
  go_simp
  go_wp2_with (go_at_call 18; (with_reducible refine (HX.out _ (Kp.trans KK.out hHeld)).mono ?_); rintro e w5 ⟨rfl, hk⟩; have KH := Lib.hid (Kp.trans hHeld hk); clear hk)
  refine hK.out _ _ ?_ (fun hHeld => ?_)
  · exact KH.out
  clear hK K
  refine wpAnyH_ready (rs := [31]) (by kernel_rfl) (by simp) ?_
  refine AllReadyH.cons rfl (fun K hK => ?_) AllReadyH.nil
  go_simp
  go_wp2_with (go_at_call 10; (with_reducible refine (HX8.out _).mono ?_); rintro e w5 ⟨rfl, hk⟩; have KH := Lib.hid (Kp.trans hHeld hk); clear hk)
  refine hK.out _ _ ?_ (fun hHeld => ?_)
  · exact KH.out
  clear hK K
  refine wpAnyH_take (i := 32) (v := ?_) rfl (by kernel_rfl) (by kernel_rfl) (by kernel_rfl) (fun _ _ _ h => h) (Or.inl ⟨by rfl, ?_⟩) (by assumption) ?_
  rotate_left
  · intro w hSw; go_simp; try with_reducible rfl
  go_simp
  refine wpAnyH_take (i := 33) (v := ?_) rfl (by kernel_rfl) (by kernel_rfl) (by kernel_rfl) (fun _ _ _ h => h) (Or.inl ⟨by rfl, ?_⟩) (by assumption) ?_
  rotate_left
  · intro w hSw; go_simp; try with_reducible rfl
  go_simp
  refine wpAnyH_take (i := 34) (v := ?_) rfl (by kernel_rfl) (by kernel_rfl) (by kernel_rfl) (fun _ _ _ h => h) (Or.inl ⟨by rfl, ?_⟩) (by assumption) ?_
  rotate_left
  · intro w hSw; go_simp; try with_reducible rfl
  go_simp
  refine wpAnyH_take (i := 35) (v := ?_) rfl (by kernel_rfl) (by kernel_rfl) (by kernel_rfl) (fun _ _ _ h => h) (Or.inl ⟨by rfl, ?_⟩) (by assumption) ?_
  rotate_left
  · intro w hSw; have qb0 := kp_cell hSw b0; have qb1 := kp_cell hSw b1; have qb2 := kp_cell hSw b2; have qb3 := kp_cell hSw b3; have qb4 := kp_cell hSw b4; go_simp; try with_reducible rfl
  go_simp
  refine wpAnyH_take (i := 36) (v := ?_) rfl (by kernel_rfl) (by kernel_rfl) (by kernel_rfl) (fun _ _ _ h => h) (Or.inl ⟨by rfl, ?_⟩) (by assumption) ?_
  rotate_left
  · intro w hSw; have qb0 := kp_cell hSw b0; have qb1 := kp_cell hSw b1; have qb2 := kp_cell hSw b2; have qb3 := kp_cell hSw b3; have qb4 := kp_cell hSw b4; go_simp; try with_reducible rfl
  go_simp
  refine wpAnyH_ready (rs := [37]) (by kernel_rfl) (by simp) ?_
  refine AllReadyH.cons rfl (fun K hK => ?_) AllReadyH.nil
  go_simp
  go_wp2_with (go_at_call 18; (with_reducible refine (HX1.out _ (Kp.trans KK.out hHeld)).mono ?_); rintro e w5 ⟨rfl, hk⟩; have KH := Lib.hid (Kp.trans hHeld hk); clear hk)
  refine hK.out _ _ ?_ (fun hHeld => ?_)
  · exact KH.out
  clear hK K
  refine wpAnyH_take (i := 38) (v := ?_) rfl (by kernel_rfl) (by kernel_rfl) (by kernel_rfl) (fun _ _ _ h => h) (Or.inl ⟨by rfl, ?_⟩) (by assumption) ?_
  rotate_left
  · intro w hSw; go_simp; try with_reducible rfl
  go_simp
  refine wpAnyH_take (i := 39) (v := ?_) rfl (by kernel_rfl) (by kernel_rfl) (by kernel_rfl) (fun _ _ _ h => h) (Or.inl ⟨by rfl, ?_⟩) (by assumption) ?_
  rotate_left
  · intro w hSw; go_simp; try with_reducible rfl
  go_simp
  refine wpAnyH_done (by kernel_rfl) ?_ _
  go_wp2
  go_ret
  exact ⟨by first | rfl | simp, Kp.trans KK.out hHeld⟩
end Go.Proofs.YtldamfpoemgkpaaDoor
