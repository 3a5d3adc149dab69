/-
  A FACT's BYTES AS THE DOCUMENT HAS THEM (own work): liaisonref14.Bytes.
-/
import Derived.Test.YtahdoniggipmmaaGreatDoorPkI
import Derived.Test.YtahdoniggipmmaaGreatDoorPkE

namespace Go.Proofs.YtahdoniggipmmaaGreatDoor
open Go.RowKit Go.ChangeShapes Go.WideShapes

set_option maxRecDepth 100000 in
set_option maxHeartbeats 4000000 in
theorem refSame14_any (f g : FX) (hf : f.wf) (hg : g.wf) (w : World) : Calls Tryz.prog 14 #[.agg f.cells, .agg g.cells] w fun e w' => e = .returned (.bool (sameF f g)) ∧ Kp w w' := by
  have HN := Lib.hid (fun w1 => refNumbers_any f w1)
  have HM := Lib.hid (fun w1 => refNumbers_any g w1)
  have hla : f.nums.length ≤ 1000000 := by show 13 ≤ 1000000; decide
  have hsm : sameF f g = (decide (f.nums = g.nums) && (((Fl.plain f.x : Nat) : Int) == ((Fl.plain g.x : Nat) : Int))) := by
    unfold sameF
    congr 1
    rw [Bool.eq_iff_iff, decide_eq_true_eq, beq_iff_eq]
    omega
  obtain ⟨na, hna⟩ : ∃ z, f.nums = z := ⟨_, rfl⟩
  obtain ⟨nb, hnb⟩ : ∃ z, g.nums = z := ⟨_, rfl⟩
  rw [hna, hnb] at hsm
  rw [hna] at HN hla
  rw [hnb] at HM
  clear hna hnb
  obtain ⟨k, n, s, r, u, p, q, o, d, a, t, hh, c, x⟩ := f
  obtain ⟨k', n', s', r', u', p', q', o', d', a', t', hh', c', x'⟩ := g
  have hx : x < 18446744073709551616 := hf
  have hx' : x' < 18446744073709551616 := hg
  dsimp only [FX.cells] at HN HM hsm ⊢
  have HSM := Lib.hid hsm
  have HLE := Lib.hid hla
  obtain ⟨w2, hw2⟩ : ∃ y, (w.alloc (.cells #[.int .i64 k, .int .i64 n, .int .i64 s, .int .i64 r, .int .i64 u, .int .i64 p, .int .i64 q, .int .i64 o, .int .i64 d, .int .i64 a, .int .i64 t, .int .i64 hh, .int .i64 c, .float .f64 x] 28)).alloc (.cells #[.int .i64 k', .int .i64 n', .int .i64 s', .int .i64 r', .int .i64 u', .int .i64 p', .int .i64 q', .int .i64 o', .int .i64 d', .int .i64 a', .int .i64 t', .int .i64 hh', .int .i64 c', .float .f64 x'] 28) = y := ⟨_, rfl⟩
  have ra : w2.heap[w.heap.size]? = some (.cells #[.int .i64 k, .int .i64 n, .int .i64 s, .int .i64 r, .int .i64 u, .int .i64 p, .int .i64 q, .int .i64 o, .int .i64 d, .int .i64 a, .int .i64 t, .int .i64 hh, .int .i64 c, .float .f64 x] 28) := by rw [← hw2]; exact new14_0 w _ _
  have rb : w2.heap[w.heap.size + 1]? = some (.cells #[.int .i64 k', .int .i64 n', .int .i64 s', .int .i64 r', .int .i64 u', .int .i64 p', .int .i64 q', .int .i64 o', .int .i64 d', .int .i64 a', .int .i64 t', .int .i64 hh', .int .i64 c', .float .f64 x'] 28) := by rw [← hw2]; exact new14_1 w _ _
  have kw : Kp w w2 := by rw [← hw2]; exact Kp.trans (kp_alloc _ _) (kp_alloc _ _)
  obtain ⟨a0, a1, a2, a3, a4, a5, a6, a7, a8, a9, a10, a11, a12, a13⟩ := cells14 ra
  obtain ⟨b0, b1, b2, b3, b4, b5, b6, b7, b8, b9, b10, b11, b12, b13⟩ := cells14 rb
  have KW := Lib.hid kw
  clear hf hg ra rb kw hsm hla
  go_enter Tryz.func14, Tryz.ntmps14
  go_wp2
  try rw [hw2]
  clear hw2
  refine wp_region_held_drew (S := fun w' => Kp w2 w') (by kernel_rfl) ?_ (fun hHeld => ?_)
  · exact (Kp.refl w2).drew
  refine wpAnyH_take (i := 0) (v := ?_) rfl (by kernel_rfl) (by kernel_rfl) (by kernel_rfl) (fun _ _ _ h => h) (Or.inl ⟨by rfl, ?_⟩) (by assumption) ?_
  rotate_left
  · intro w hSw; have q0 := kp_cell hSw a0; have q1 := kp_cell hSw a1; have q2 := kp_cell hSw a2; have q3 := kp_cell hSw a3; have q4 := kp_cell hSw a4; have q5 := kp_cell hSw a5; have q6 := kp_cell hSw a6; have q7 := kp_cell hSw a7; have q8 := kp_cell hSw a8; have q9 := kp_cell hSw a9; have q10 := kp_cell hSw a10; have q11 := kp_cell hSw a11; have q12 := kp_cell hSw a12; have q13 := kp_cell hSw a13; go_simp; try with_reducible rfl
  go_simp
  refine wpAnyH_take (i := 2) (v := ?_) rfl (by kernel_rfl) (by kernel_rfl) (by kernel_rfl) (fun _ _ _ h => h) (Or.inl ⟨by rfl, ?_⟩) (by assumption) ?_
  rotate_left
  · intro w hSw; have q0 := kp_cell hSw b0; have q1 := kp_cell hSw b1; have q2 := kp_cell hSw b2; have q3 := kp_cell hSw b3; have q4 := kp_cell hSw b4; have q5 := kp_cell hSw b5; have q6 := kp_cell hSw b6; have q7 := kp_cell hSw b7; have q8 := kp_cell hSw b8; have q9 := kp_cell hSw b9; have q10 := kp_cell hSw b10; have q11 := kp_cell hSw b11; have q12 := kp_cell hSw b12; have q13 := kp_cell hSw b13; go_simp; try with_reducible rfl
  go_simp
  refine wpAnyH_ready (rs := [1]) (by kernel_rfl) (by simp) ?_
  refine AllReadyH.cons rfl (fun K hK => ?_) AllReadyH.nil
  go_simp
  go_wp2_with (go_at_call 34; (with_reducible refine (HN.out _).mono ?_); rintro e w4 ⟨g4, rfl, ho4, hk4⟩; have HO4 := Lib.hid ho4; have K4 := Lib.hid (Kp.trans hHeld hk4); have KD4 := Lib.hid hk4; clear ho4 hk4)
  refine hK.out _ _ ?_ (fun hHeld => ?_)
  · exact K4.out
  clear hK K
  refine wpAnyH_ready (rs := [3]) (by kernel_rfl) (by simp) ?_
  refine AllReadyH.cons rfl (fun K hK => ?_) AllReadyH.nil
  go_simp
  go_wp2_with (go_at_call 34; (with_reducible refine (HM.out _).mono ?_); rintro e w5 ⟨g5, rfl, ho5, hk5⟩; have HO5 := Lib.hid ho5; have K5 := Lib.hid (Kp.trans hHeld hk5); have KD5 := Lib.hid hk5; clear ho5 hk5)
  refine hK.out _ _ ?_ (fun hHeld => ?_)
  · exact K5.out
  clear hK K
  refine wpAnyH_ready (rs := [4]) (by kernel_rfl) (by simp) ?_
  refine AllReadyH.cons rfl (fun K hK => ?_) AllReadyH.nil
  go_simp
  go_wp2_with (go_at_call 48; (with_reducible refine (sameInts_any _ _ _ _ HLE.out _ (own_sli (own_kp HO4.out KD5.out)) (own_sli HO5.out)).mono ?_); rintro e w6 ⟨rfl, hk6⟩; have K6 := Lib.hid (Kp.trans hHeld hk6); clear hk6)
  refine hK.out _ _ ?_ (fun hHeld => ?_)
  · exact K6.out
  clear hK K
  obtain ⟨vn, hvn⟩ : ∃ z, decide (na = nb) = z := ⟨_, rfl⟩
  rw [hvn] at HSM ⊢
  clear hvn
  cases vn with
  | false =>
    refine wpAnyH_take (i := 5) (v := ?_) rfl (by kernel_rfl) (by kernel_rfl) (by kernel_rfl) (fun _ _ _ h => h) (Or.inl ⟨by rfl, ?_⟩) (by assumption) ?_
    rotate_left
    · intro w hSw; go_simp; try with_reducible rfl
    go_simp
    refine wpAnyH_take (i := 6) (v := undef) rfl (by kernel_rfl) (by kernel_rfl) (by kernel_rfl) (fun _ _ _ h => h) (Or.inr ⟨by rfl, rfl⟩) (by assumption) ?_
    go_simp
    refine wpAnyH_take (i := 7) (v := undef) rfl (by kernel_rfl) (by kernel_rfl) (by kernel_rfl) (fun _ _ _ h => h) (Or.inr ⟨by rfl, rfl⟩) (by assumption) ?_
    go_simp
    refine wpAnyH_take (i := 8) (v := undef) rfl (by kernel_rfl) (by kernel_rfl) (by kernel_rfl) (fun _ _ _ h => h) (Or.inr ⟨by rfl, rfl⟩) (by assumption) ?_
    go_simp
    refine wpAnyH_take (i := 9) (v := undef) rfl (by kernel_rfl) (by kernel_rfl) (by kernel_rfl) (fun _ _ _ h => h) (Or.inr ⟨by rfl, rfl⟩) (by assumption) ?_
    go_simp
    refine wpAnyH_take (i := 10) (v := undef) rfl (by kernel_rfl) (by kernel_rfl) (by kernel_rfl) (fun _ _ _ h => h) (Or.inr ⟨by rfl, rfl⟩) (by assumption) ?_
    go_simp
    refine wpAnyH_take (i := 11) (v := undef) rfl (by kernel_rfl) (by kernel_rfl) (by kernel_rfl) (fun _ _ _ h => h) (Or.inr ⟨by rfl, rfl⟩) (by assumption) ?_
    go_simp
    refine wpAnyH_take (i := 12) (v := undef) rfl (by kernel_rfl) (by kernel_rfl) (by kernel_rfl) (fun _ _ _ h => h) (Or.inr ⟨by rfl, rfl⟩) (by assumption) ?_
    go_simp
    refine wpAnyH_take (i := 13) (v := ?_) rfl (by kernel_rfl) (by kernel_rfl) (by kernel_rfl) (fun _ _ _ h => h) (Or.inl ⟨by rfl, ?_⟩) (by assumption) ?_
    rotate_left
    · intro w hSw; go_simp; try with_reducible rfl
    go_simp
    refine wpAnyH_take (i := 14) (v := ?_) rfl (by kernel_rfl) (by kernel_rfl) (by kernel_rfl) (fun _ _ _ h => h) (Or.inl ⟨by rfl, ?_⟩) (by assumption) ?_
    rotate_left
    · intro w hSw; go_simp; try with_reducible rfl
    go_simp
    refine wpAnyH_done (by kernel_rfl) ?_ _
    go_wp2
    go_ret
    exact ⟨by rw [HSM.out]; rfl, Kp.trans KW.out hHeld⟩
  | true =>
    refine wpAnyH_take (i := 5) (v := ?_) rfl (by kernel_rfl) (by kernel_rfl) (by kernel_rfl) (fun _ _ _ h => h) (Or.inl ⟨by rfl, ?_⟩) (by assumption) ?_
    rotate_left
    · intro w hSw; go_simp; try with_reducible rfl
    go_simp
    refine wpAnyH_take (i := 6) (v := ?_) rfl (by kernel_rfl) (by kernel_rfl) (by kernel_rfl) (fun _ _ _ h => h) (Or.inl ⟨by rfl, ?_⟩) (by assumption) ?_
    rotate_left
    · intro w hSw; go_simp; try with_reducible rfl
    go_simp
    refine wpAnyH_take (i := 7) (v := ?_) rfl (by kernel_rfl) (by kernel_rfl) (by kernel_rfl) (fun _ _ _ h => h) (Or.inl ⟨by rfl, ?_⟩) (by assumption) ?_
    rotate_left
    · intro w hSw; have q := kp_cell hSw a13; go_simp; try with_reducible rfl
    go_simp
    refine wpAnyH_take (i := 9) (v := ?_) rfl (by kernel_rfl) (by kernel_rfl) (by kernel_rfl) (fun _ _ _ h => h) (Or.inl ⟨by rfl, ?_⟩) (by assumption) ?_
    rotate_left
    · intro w hSw; go_simp; try with_reducible rfl
    go_simp
    refine wpAnyH_take (i := 10) (v := ?_) rfl (by kernel_rfl) (by kernel_rfl) (by kernel_rfl) (fun _ _ _ h => h) (Or.inl ⟨by rfl, ?_⟩) (by assumption) ?_
    rotate_left
    · intro w hSw; have q := kp_cell hSw b13; go_simp; try with_reducible rfl
    go_simp
    refine wpAnyH_ready (rs := [8]) (by kernel_rfl) (by simp) ?_
    refine AllReadyH.cons rfl (fun K hK => ?_) AllReadyH.nil
    go_simp
    go_wp2_with (go_at_call 49; (with_reducible refine (refBits_any x _ hx).mono ?_); rintro e w' ⟨rfl, rfl⟩)
    refine hK.out _ _ ?_ (fun hHeld => ?_)
    · exact hHeld
    clear hK K
    refine wpAnyH_ready (rs := [11]) (by kernel_rfl) (by simp) ?_
    refine AllReadyH.cons rfl (fun K hK => ?_) AllReadyH.nil
    go_simp
    go_wp2_with (go_at_call 49; (with_reducible refine (refBits_any x' _ hx').mono ?_); rintro e w' ⟨rfl, rfl⟩)
    refine hK.out _ _ ?_ (fun hHeld => ?_)
    · exact hHeld
    clear hK K
    refine wpAnyH_take (i := 12) (v := ?_) rfl (by kernel_rfl) (by kernel_rfl) (by kernel_rfl) (fun _ _ _ h => h) (Or.inl ⟨by rfl, ?_⟩) (by assumption) ?_
    rotate_left
    · intro w hSw; go_simp; try with_reducible rfl
    go_simp
    refine wpAnyH_take (i := 13) (v := ?_) rfl (by kernel_rfl) (by kernel_rfl) (by kernel_rfl) (fun _ _ _ h => h) (Or.inl ⟨by rfl, ?_⟩) (by assumption) ?_
    rotate_left
    · intro w hSw; go_simp; try with_reducible rfl
    go_simp
    refine wpAnyH_take (i := 14) (v := ?_) rfl (by kernel_rfl) (by kernel_rfl) (by kernel_rfl) (fun _ _ _ h => h) (Or.inl ⟨by rfl, ?_⟩) (by assumption) ?_
    rotate_left
    · intro w hSw; go_simp; try with_reducible rfl
    go_simp
    refine wpAnyH_done (by kernel_rfl) ?_ _
    go_wp2
    go_ret
    exact ⟨by rw [HSM.out]; rfl, Kp.trans KW.out hHeld⟩
end Go.Proofs.YtahdoniggipmmaaGreatDoor

namespace Go.Proofs.YtahdoniggipmmaaGreatDoor
open Go.RowKit Go.ChangeShapes Go.WideShapes

set_option maxRecDepth 100000 in
set_option maxHeartbeats 4000000 in
theorem refBytes14_any (f : FX) (hf : f.wf) (hm : ∀ x ∈ f.nums, 0 ≤ x ∧ x ≤ 999999) (w : World) :
    Calls Tryz.prog 13 #[.agg f.cells] w fun e w' => ∃ v, e = .returned v ∧ SlB v (encF f) w' ∧ Kp w w' := by
  have hml : f.nums.length = 13 := rfl
  have hjo := fun (a : Option Addr) (cap len : Nat) (hl : (rowG f).length = len) (w1 : World) (hs : SlQ (.slice a len cap) (rowG f) w1) => refJoin_any a cap (rowG f) len hl (by rw [← hl]; have := rowG_len f; omega) (rowG_small f) w1 hs
  unfold encF
  have hrx : rowG f = rowF 1 f.nums ++ tailF f := rfl
  have htl : tailF f = if f.k = 1 then [(14, f8 (Fl.plain f.x))] else [] := rfl
  have HNU := Lib.hid (fun w1 => refNumbers_any f w1)
  obtain ⟨RX, hRX⟩ : ∃ y, rowG f = y := ⟨_, rfl⟩
  rw [hRX] at hjo hrx ⊢
  obtain ⟨TX, hTX⟩ : ∃ y, tailF f = y := ⟨_, rfl⟩
  rw [hTX] at hrx htl
  have hfl := fun w1 => refFloat_own f.x hf w1
  obtain ⟨k, n, s, r, u, p, q, o, d, a, t, hh, c, x⟩ := f
  obtain ⟨ns, hns⟩ : ∃ y, FX.nums ⟨k, n, s, r, u, p, q, o, d, a, t, hh, c, x⟩ = y := ⟨_, rfl⟩
  rw [hns] at hml hm hrx HNU
  dsimp only [FX.cells] at hfl htl HNU ⊢
  obtain ⟨fx, hfx⟩ : ∃ y, f8 (Fl.plain x) = y := ⟨_, rfl⟩
  have hfi : InB fx := by rw [← hfx]; exact f8_in _
  have hf8 : fx.length = 8 := by rw [← hfx]; rfl
  rw [hfx] at hfl htl
  have HOK := Lib.hid hm
  have HML := Lib.hid hml
  have HJO := Lib.hid hjo
  have HFL := Lib.hid hfl
  have HRX := Lib.hid hrx
  have HTL := Lib.hid htl
  have HFI := Lib.hid (And.intro hfi hf8)
  have HIF := Lib.hid (info_parts info_fieldT)
  have h0 := own_empty2 (w.alloc (.cells #[.int .i64 k, .int .i64 n, .int .i64 s, .int .i64 r, .int .i64 u, .int .i64 p, .int .i64 q, .int .i64 o, .int .i64 d, .int .i64 a, .int .i64 t, .int .i64 hh, .int .i64 c, .float .f64 x] 28)) 64 2
  rw [show (w.alloc (.cells #[.int .i64 k, .int .i64 n, .int .i64 s, .int .i64 r, .int .i64 u, .int .i64 p, .int .i64 q, .int .i64 o, .int .i64 d, .int .i64 a, .int .i64 t, .int .i64 hh, .int .i64 c, .float .f64 x] 28)).heap.size = w.heap.size + 1 by simp] at h0
  replace h0 := own_mono h0 (Nat.le_succ w.heap.size)
  have OW0 := Lib.hid h0
  have K0 := Lib.hid (Kp.trans (kp_alloc w (.cells #[.int .i64 k, .int .i64 n, .int .i64 s, .int .i64 r, .int .i64 u, .int .i64 p, .int .i64 q, .int .i64 o, .int .i64 d, .int .i64 a, .int .i64 t, .int .i64 hh, .int .i64 c, .float .f64 x] 28)) (kp_alloc (w.alloc (.cells #[.int .i64 k, .int .i64 n, .int .i64 s, .int .i64 r, .int .i64 u, .int .i64 p, .int .i64 q, .int .i64 o, .int .i64 d, .int .i64 a, .int .i64 t, .int .i64 hh, .int .i64 c, .float .f64 x] 28)) (.cells #[] 64)))
  have HRWB := Lib.hid (kp_row (kp_alloc (w.alloc (.cells #[.int .i64 k, .int .i64 n, .int .i64 s, .int .i64 r, .int .i64 u, .int .i64 p, .int .i64 q, .int .i64 o, .int .i64 d, .int .i64 a, .int .i64 t, .int .i64 hh, .int .i64 c, .float .f64 x] 28)) (.cells #[] 64)) (MapKept.heap_alloc w (.cells #[.int .i64 k, .int .i64 n, .int .i64 s, .int .i64 r, .int .i64 u, .int .i64 p, .int .i64 q, .int .i64 o, .int .i64 d, .int .i64 a, .int .i64 t, .int .i64 hh, .int .i64 c, .float .f64 x] 28)).1)
  obtain ⟨b0, b1, b2, b3, b4, b5, b6, b7, b8, b9, b10, b11, b12, b13⟩ := cells14 HRWB.out
  clear hm hml hns hjo hfl hrx htl hRX hTX hfx hfi hf8 hf h0
  go_enter Tryz.func13, Tryz.ntmps13
  go_wp2_with (go_at_call 34; (with_reducible refine (HNU.out _).mono ?_); rintro e w3 ⟨g, rfl, ho, hk3⟩; have HNO := Lib.hid (own_mono ho (Below.size K0.out)); have OW3 := Lib.hid (own_kp OW0.out hk3); have RC := Lib.hid (kp_row hk3 HRWB.out); have K3 := Lib.hid (Kp.trans K0.out hk3); clear ho hk3)
  clear b0 b1 b2 b3 b4 b5 b6 b7 b8 b9 b10 b11 b12 b13
  go_loopw [3, 10] (fun v i wr => ∃ (j : Nat) (gs : List (Int × List Int × Value)), j ≤ 13 ∧ i = .int .i64 j ∧ Kp w wr ∧ wr.ownsRow w.heap.size 3 1 (.slice (some ⟨g, 0, none⟩) 13 13) 13 (ns.map (Value.int .i64)) ∧ wr.ownsRow w.heap.size 64 2 v gs.length (gs.flatMap cellQ) ∧ OwnD w.heap.size gs wr ∧ gs.map fldQ = rowF 1 (ns.take j) ∧ wr.heap[w.heap.size]? = some (.cells #[.int .i64 k, .int .i64 n, .int .i64 s, .int .i64 r, .int .i64 u, .int .i64 p, .int .i64 q, .int .i64 o, .int .i64 d, .int .i64 a, .int .i64 t, .int .i64 hh, .int .i64 c, .float .f64 x] 28 (0, 0))) (fun _ i _ => 13 - (intOf i).toNat)
  case atStart => exact ⟨0, [], Nat.zero_le _, rfl, K3.out, HNO.out, OW3.out, (fun g hg => by cases hg), rfl, RC.out⟩
  case round =>
    obtain ⟨j, gs, hj, rfl, hk, hnw, hown, hod, hrow, hrc⟩ := hrel
    obtain ⟨jj, hjj⟩ : ∃ jj : Int, (j : Int) = jj := ⟨_, rfl⟩
    rw [hjj]
    have HK := Lib.hid hk
    have HNW := Lib.hid hnw
    have HOW := Lib.hid hown
    have HOD := Lib.hid hod
    have HROW := Lib.hid hrow
    have HRC := Lib.hid hrc
    have hml := HML.out
    by_cases hlt : j < 13
    · have hjl : j < ns.length := by omega
      have hcj := hnw.cellAt j (by omega)
      have hx := HOK.out ns[j] (List.getElem_mem hjl)
      have SN := rowF_snoc (ns.take j) 1 ns[j]
      rw [← List.take_succ_eq_append_getElem hjl, List.length_take, Nat.min_eq_left (by omega)] at SN
      rw [List.getElem?_map, List.getElem?_eq_getElem hjl, Option.map_some] at hcj
      obtain ⟨y, hxx⟩ : ∃ x, ns[j] = x := ⟨_, rfl⟩
      rw [hxx] at hcj hx SN
      obtain ⟨x0, x1⟩ := hx
      have ej : jj.toNat = j := by omega
      rw [← ej] at hcj
      have j0 : 0 ≤ jj := by omega
      have hltj : jj < 13 := by omega
      have HJ := Lib.hid hjj
      by_cases hz : y = 0
      · rw [if_pos hz] at SN
        have HSN := Lib.hid SN
        subst hz
        clear hk hnw hown hod hrow hrc SN hxx hjl hml hlt x0 x1 ej hjj
        go_wp2
        have hjj := HJ.out
        go_roundw
        case rel => exact ⟨j + 1, gs, by omega, by congr 1; omega, HK.out, HNW.out, HOW.out, HOD.out, by rw [HSN.out, List.append_nil]; exact HROW.out, HRC.out⟩
        case measure => simp [intOf]; omega
      · rw [if_neg hz] at SN
        have HSN := Lib.hid SN
        have hxn : ((y.toNat : Nat) : Int) = y := by omega
        have hzb : (y != 0) = true := by simpa using hz
        have HNB := Lib.hid (fun w1 => refNumber_any 8 (Nat.le_refl _) y.toNat (by omega) y hxn w1)
        obtain ⟨bs, hbs⟩ : ∃ b, beF 8 y.toNat = b := ⟨_, rfl⟩
        have hbi : InB bs := by rw [← hbs]; exact beF_inB _ _
        rw [hbs] at HNB HSN
        have HBI := Lib.hid hbi
        obtain ⟨av, cv, hv⟩ := (own_slq rfl hown hod).form
        rw [List.length_map] at hv
        subst hv
        obtain ⟨kl, hkl⟩ : ∃ x, gs.length = x := ⟨_, rfl⟩
        have hk9 : kl ≤ 13 := by
          have h1 := congrArg List.length hrow
          have h2 := rowF_len (ns.take j) 1
          rw [List.length_map] at h1
          rw [List.length_take] at h2
          omega
        rw [hkl] at hown HOW ⊢
        have HKL := Lib.hid hkl
        obtain ⟨i0, hi, hz0, hz1, hz2⟩ := HIF.out
        have HI := Lib.hid (And.intro hz1 hz2)
        have HI2 := Lib.hid hi
        have HI3 := Lib.hid hz0
        clear hk hnw hown hod hrow hrc SN hxx hjl hml hlt x0 x1 hxn hbs hbi hi hz0 hz1 hz2 hkl ej hjj hz
        go_wp2_with (first
          | (go_at_call 45; (with_reducible refine (HNB.out _).mono ?_); rintro e w5 ⟨v5, rfl, ho5, hk5⟩; obtain ⟨a5, c5, rfl, -⟩ := enc_len ho5; have HO5 := Lib.hid ho5; have K5 := Lib.hid hk5; have K6 := Lib.hid (Kp.trans hk5 (kp_alloc w5 (.cells #[.int .i64 (jj + 1), .slice a5 bs.length c5] 64))); have OW6 := Lib.hid (own_kp HOW.out K6.out); clear ho5 hk5)
          | (at_builtin; refine wpList_append_own _ rfl (.tmp 17) (.tmp 23) 56 rfl w.heap.size 64 i0 (.agg #[.int .i64 0, .slice none 0 0]) 2 32 Tryz.underlying56 HI2.out HI3.out HI.out.1 HI.out.2 rfl (by decide) _ _ _ rfl OW6.out ⟨w5.heap.size, 0, none⟩ 1 1 [.int .i64 (jj + 1), .slice a5 bs.length c5] rfl ?c1 ?c2 ?c3 ?c4 ?c5 ?c6 ?_))
        case c1 => rfl
        case c2 =>
          intro i u hi
          rw [add_plain]
          unfold World.cell?
          dsimp only
          rw [(MapKept.heap_alloc w5 _).1]
          have hi3 : i < 2 := by
            rcases Nat.lt_or_ge i 2 with q | q
            · exact q
            · rw [List.getElem?_eq_none (by simpa using q)] at hi; cases hi
          match i, hi3, hi with
          | 0, _, hi | 1, _, hi => simpa using hi
        case c3 => intro u hu; simp at hu; rcases hu with rfl | rfl <;> rfl
        case c4 => unfold maxLen; omega
        case c5 => omega
        case c6 => exact Below.size (Kp.trans HK.out K6.out)
        rintro v6 w6 hown6 hgr6 -
        have hsz := Below.size HK.out
        have kp6 : Kp w w6 := rows_kp OW6.out hgr6 (Kp.trans HK.out K6.out)
        have od6 : OwnD w.heap.size (gs ++ [(jj + 1, bs, Value.slice a5 bs.length c5)]) w6 := by
          intro g hg
          rcases List.mem_append.1 hg with hg | hg
          · exact ((HOD.out.kp K6.out).grows OW6.out hgr6) g hg
          · have : g = (jj + 1, bs, Value.slice a5 bs.length c5) := by simpa using hg
            subst this
            exact ⟨own_grows OW6.out hgr6 (own_kp (own_mono HO5.out hsz) (kp_alloc w5 _)) (by decide), HBI.out⟩
        have own6 : w6.ownsRow w.heap.size 64 2 v6 (gs ++ [(jj + 1, bs, Value.slice a5 bs.length c5)]).length ((gs ++ [(jj + 1, bs, Value.slice a5 bs.length c5)]).flatMap cellQ) := by
          rw [List.length_append, List.length_singleton, HKL.out, List.flatMap_append]
          exact hown6
        have rc6 := row_grows OW6.out hgr6 _ _ _ (kp_row K6.out HRC.out) (by decide)
        have nw6 := own_grows OW6.out hgr6 (own_kp HNW.out K6.out) (by decide)
        have O6 := Lib.hid own6
        have D6 := Lib.hid od6
        have KQ6 := Lib.hid kp6
        have RC6 := Lib.hid rc6
        have NW6 := Lib.hid nw6
        clear own6 od6 kp6 rc6 nw6 hown6 hgr6 hsz
        go_wp2
        have hjj := HJ.out
        go_roundw
        case rel =>
          refine ⟨j + 1, gs ++ [(jj + 1, bs, Value.slice a5 bs.length c5)], by omega, by congr 1; omega, KQ6.out, NW6.out, O6.out, D6.out, ?_, RC6.out⟩
          rw [HSN.out, List.map_append, HROW.out, ← hjj, show (1 : Int) + (j : Int) = (j : Int) + 1 by omega]
          rfl
        case measure => simp [intOf]; omega
    · obtain rfl : j = 13 := by omega
      have hful : ns.take 13 = ns := List.take_of_length_le (by omega)
      rw [hful] at hrow
      obtain ⟨av, cv, hv⟩ := (own_slq rfl hown hod).form
      rw [List.length_map] at hv
      subst hv
      have hrow2 := hrow
      obtain ⟨kl, hkl⟩ : ∃ x, gs.length = x := ⟨_, rfl⟩
      have hk9 : kl ≤ 13 := by
        have h1 := congrArg List.length hrow
        have h2 := rowF_len ns 1
        rw [List.length_map] at h1
        omega
      have HSQ := Lib.hid (own_slq rfl hown hod)
      rw [hkl] at hown HOW ⊢
      have HKL := Lib.hid hkl
      obtain ⟨i0, hi, hz0, hz1, hz2⟩ := HIF.out
      have HI := Lib.hid (And.intro hz1 hz2)
      have HI2 := Lib.hid hi
      have HI3 := Lib.hid hz0
      have hex : ¬ jj < 13 := by omega
      obtain ⟨m0, m1, m2, m3, m4, m5, m6, m7, m8, m9, m10, m11, m12, m13⟩ := cells14 hrc
      have H8 := HFI.out.2
      by_cases hk1 : k = 1
      · subst hk1
        have htx := HTL.out
        rw [if_pos rfl] at htx
        have HTX := Lib.hid htx
        clear hk hnw hown hod hrow hrow2 hrc hful hml hlt hi hz0 hz1 hz2 hkl hjj htx
        go_wp2_with (first
          | (go_at_call 46; (with_reducible refine (HFL.out _).mono ?_); rintro e w5 ⟨v5, rfl, ho5, hk5⟩; obtain ⟨a5, c5, rfl, -⟩ := enc_len ho5; have HO5 := Lib.hid ho5; have K5 := Lib.hid hk5; have K6 := Lib.hid (Kp.trans hk5 (kp_alloc w5 (.cells #[.int .i64 14, .slice a5 8 c5] 64))); have OW6 := Lib.hid (own_kp HOW.out K6.out); clear ho5 hk5)
          | (at_builtin; refine wpList_append_own _ rfl (.tmp 29) (.tmp 34) 56 rfl w.heap.size 64 i0 (.agg #[.int .i64 0, .slice none 0 0]) 2 32 Tryz.underlying56 HI2.out HI3.out HI.out.1 HI.out.2 rfl (by decide) _ _ _ rfl OW6.out ⟨w5.heap.size, 0, none⟩ 1 1 [.int .i64 14, .slice a5 8 c5] rfl ?d1 ?d2 ?d3 ?d4 ?d5 ?d6 ?_))
        case d1 => rfl
        case d2 =>
          intro i u hi
          rw [add_plain]
          unfold World.cell?
          dsimp only
          rw [(MapKept.heap_alloc w5 _).1]
          have hi3 : i < 2 := by
            rcases Nat.lt_or_ge i 2 with q | q
            · exact q
            · rw [List.getElem?_eq_none (by simpa using q)] at hi; cases hi
          match i, hi3, hi with
          | 0, _, hi | 1, _, hi => simpa using hi
        case d3 => intro u hu; simp at hu; rcases hu with rfl | rfl <;> rfl
        case d4 => unfold maxLen; omega
        case d5 => omega
        case d6 => exact Below.size (Kp.trans HK.out K6.out)
        rintro v6 w6 hown6 hgr6 -
        have hsz := Below.size HK.out
        have kp6 : Kp w w6 := rows_kp OW6.out hgr6 (Kp.trans HK.out K6.out)
        have od6 : OwnD w.heap.size (gs ++ [(14, fx, Value.slice a5 8 c5)]) w6 := by
          intro g hg
          rcases List.mem_append.1 hg with hg | hg
          · exact ((HOD.out.kp K6.out).grows OW6.out hgr6) g hg
          · have : g = (14, fx, Value.slice a5 8 c5) := by simpa using hg
            subst this
            refine ⟨?_, HFI.out.1⟩
            have := own_grows OW6.out hgr6 (own_kp (own_mono HO5.out hsz) (kp_alloc w5 _)) (by decide)
            rw [H8]
            exact this
        have own6 : w6.ownsRow w.heap.size 64 2 v6 (gs ++ [(14, fx, Value.slice a5 8 c5)]).length ((gs ++ [(14, fx, Value.slice a5 8 c5)]).flatMap cellQ) := by
          rw [List.length_append, List.length_singleton, HKL.out, List.flatMap_append]
          have e : [((14 : Int), fx, Value.slice a5 8 c5)].flatMap cellQ = [.int .i64 14, .slice a5 8 c5] := rfl
          rw [e]
          exact hown6
        have hsq := own_slq rfl own6 od6
        have hrow2 : (gs ++ [((14 : Int), fx, Value.slice a5 8 c5)]).map fldQ = RX := by
          have hful : ns.take 13 = ns := List.take_of_length_le (by have := HML.out; omega)
          have h := HROW.out
          rw [hful] at h
          rw [List.map_append, h, HRX.out, HTX.out]
          rfl
        rw [hrow2] at hsq
        obtain ⟨av6, cv6, hv6⟩ := hsq.form
        subst hv6
        have hj := Lib.hid (HJO.out av6 cv6 _ rfl w6 hsq)
        have K8 := Lib.hid kp6
        clear own6 od6 kp6 hown6 hgr6 hsz hsq hrow2
        go_wp2_with (go_at_call 47; (with_reducible refine hj.out.mono ?_); rintro e w7 ⟨v7, rfl, hs7, hk7⟩; have K7 := Lib.hid (Kp.trans K8.out hk7); have S7 := Lib.hid hs7; clear hs7 hk7)
        go_ret
        exact ⟨_, rfl, S7.out, K7.out⟩
      · have hkb : (k == 1) = false := by simpa using hk1
        have htx := HTL.out
        rw [if_neg hk1] at htx
        have hrx : gs.map fldQ = RX := by rw [hrow2, HRX.out, htx, List.append_nil]
        have hsq := HSQ.out
        rw [hrx] at hsq
        have hlr : RX.length = kl := by rw [← hrx, List.length_map]; exact hkl
        have hj := Lib.hid (HJO.out av cv kl hlr wr (by rw [← hkl]; exact hsq))
        clear hk hnw hown hod hrow hrow2 hrc hful hml hlt hi hz0 hz1 hz2 hkl hjj htx hrx hsq hlr hk1
        go_wp2_with (go_at_call 47; (with_reducible refine hj.out.mono ?_); rintro e w7 ⟨v7, rfl, hs7, hk7⟩; have K7 := Lib.hid (Kp.trans HK.out hk7); have S7 := Lib.hid hs7; clear hs7 hk7)
        go_ret
        exact ⟨_, rfl, S7.out, K7.out⟩
end Go.Proofs.YtahdoniggipmmaaGreatDoor

