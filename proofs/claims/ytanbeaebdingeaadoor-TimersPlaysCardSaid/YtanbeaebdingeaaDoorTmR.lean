/-
  THE LAWS OF CLOCKS (own work): TimersPlays.
-/
import Derived.Test.YtanbeaebdingeaaDoorTmQ
import Derived.Test.YtanbeaebdingeaaDoorRkG
namespace Go.Proofs.YtanbeaebdingeaaDoor
open Go.RowKit Go.ChangeShapes Go.WideShapes
variable {w w1 w2 w6 : World} {q mb g : Nat} {c d c' d' : CkM} {v v' : Value} {ads : List Addr}
theorem wpAnyH_monoP {P : Program} {md : Region.Mode} {ops : Array Oper} {Q : Exit → Act → World → Prop} {S S' : World → Prop} (hs : ∀ w, S' w → S w) : ∀ (fuel : Nat) (listed : Array Bool) (a : Act) (w : World), wpAnyH P md ops Q S' fuel listed a w → wpAnyH P md ops Q S fuel listed a w
  | 0, _, _, _, h => h
  | fuel + 1, _, _, _, h => ⟨h.1, fun i hi => wpOp_mono (fun a' w' h' => ⟨hs _ h'.1, wpAnyH_monoP hs fuel _ a' w' h'.2⟩) (h.2 i hi)⟩
theorem min_ex : ∀ l : List Tm, l ≠ [] → ∃ t ∈ l, ∀ u ∈ l, t.a ≤ u.a
  | [], h => absurd rfl h
  | [t], _ => ⟨t, List.mem_singleton_self t, fun u hu => by rw [List.mem_singleton.1 hu]; exact Nat.le_refl _⟩
  | t :: u :: l, _ => by
    obtain ⟨m, h1, h2⟩ := min_ex (u :: l) (by simp)
    by_cases h : t.a ≤ m.a
    · exact ⟨t, List.mem_cons_self, fun z hz => by
        rcases List.mem_cons.1 hz with rfl | hz
        · exact Nat.le_refl _
        · exact Nat.le_trans h (h2 z hz)⟩
    · exact ⟨m, List.mem_cons_of_mem _ h1, fun z hz => by
        rcases List.mem_cons.1 hz with rfl | hz
        · omega
        · exact h2 z hz⟩
theorem next_both (h1 : Lk w q mb d w6) (h2 : Rk w g d v w6) : ∃ (nx : Nat) (nb : Bool), (∀ w2, Kp w6 w2 → Calls Tryd.prog 17 #[.pointer (some ⟨q, 0, none⟩)] w2 fun r w' => r = .returned (.tuple #[.float .f64 nx, .bool nb]) ∧ Kp w2 w') ∧ (∀ w2, Kp w6 w2 → Calls Tryd.prog 18 #[.pointer (some ⟨g, 0, none⟩)] w2 fun r w' => r = .returned (.tuple #[.float .f64 nx, .bool nb]) ∧ Kp w2 w') := by
  by_cases h0 : d.ts = []
  · have no : ∀ m, ¬ NextIs d m := fun m hm => by
      obtain ⟨⟨t, ht, _⟩, _⟩ := hm
      rw [h0] at ht
      cases ht
    exact ⟨0, false, fun w2 hk => (lkNext_any (h1.kp hk)).mono fun _ _ ⟨q1, q2⟩ => ⟨q1.elim (fun h => h.2) (fun ⟨m, h3, _⟩ => absurd h3 (no m)), q2⟩, fun w2 hk => (rkNext_any (h2.kp hk) h1.ok).mono fun _ _ ⟨q1, q2⟩ => ⟨q1.elim (fun h => h.2) (fun ⟨m, h3, _⟩ => absurd h3 (no m)), q2⟩⟩
  · obtain ⟨t, ht, hm⟩ := min_ex d.ts h0
    have hn : NextIs d t.a := ⟨⟨t, ht, rfl⟩, hm⟩
    exact ⟨t.a, true, fun w2 hk => (lkNext_any (h1.kp hk)).mono fun _ _ ⟨q1, q2⟩ => ⟨q1.elim (fun h => absurd h.1 h0) (fun ⟨m, h3, h4⟩ => by rw [h4, next_one h3 hn]), q2⟩, fun w2 hk => (rkNext_any (h2.kp hk) h1.ok).mono fun _ _ ⟨q1, q2⟩ => ⟨q1.elim (fun h => absurd h.1 h0) (fun ⟨m, h3, h4⟩ => by rw [h4, next_one h3 hn]), q2⟩⟩
theorem rk_new (w w1 : World) (hk : w.heap.size ≤ w1.heap.size) : Rk w w1.heap.size ckNew (.slice none 0 0) (w1.alloc (.cells #[.float .f64 0, .slice none 0 0] 31)) :=
  ⟨(MapKept.heap_alloc w1 (.cells #[.float .f64 0, .slice none 0 0] 31)).1, hk, ⟨by simp [EncG.row, ckNew], Or.inl ⟨rfl, rfl⟩⟩⟩
set_option maxRecDepth 100000 in
set_option maxHeartbeats 8000000 in
theorem plays13_any (v0 : Value) (os : List OpT) (hs : SlT v0 os w) (hl : os.length ≤ maxLen) (V0 : St ads w) (E0 : EP [0, 3, 5, 7] ads w) : Calls Tryd.prog 3 #[v0] w fun r w' => r = .returned (.bool true) ∧ Kp w w' := by
  have HLG := Lib.hid (fun w1 (h : Kp w w1) => long13_any os (show SlT v0 os w1 by
    obtain ⟨a, cap, e, hh⟩ := hs
    exact ⟨a, cap, e, fun j hj => by
      obtain ⟨b, off, h3, h4⟩ := hh j hj
      exact ⟨b, off, h3, h4.kp h⟩⟩))
  obtain ⟨a, cap, rfl, hat⟩ := hs
  obtain ⟨n, hn⟩ : ∃ n, os.length = n := ⟨_, rfl⟩
  obtain ⟨NN, hNN⟩ : ∃ N : Int, (n : Int) = N := ⟨_, rfl⟩
  have hNm : NN ≤ 9223372036854775807 := by rw [hn] at hl; unfold maxLen at hl; omega
  have V := Lib.hid V0
  have E := Lib.hid E0
  have HN := Lib.hid (fun w1 (h : Kp w w1) => atL_new h)
  have HAL := Lib.hid (alive13_any E0)
  have HFN := Lib.hid hn
  have HAT0 := Lib.hid hat
  have HNI := Lib.hid hNN
  have hsf := store_fl
  simp only [hn] at HLG ⊢
  clear V0 E0 hat hl hn
  go_enter Tryd.func3, Tryd.ntmps3
  go_wp2_with (first | (go_at_call 7; (with_reducible refine (HAL.out).mono ?_); rintro e' w1 ⟨rfl, h1⟩; have K1 := Lib.hid h1; clear h1) | (go_at_call 8; (with_reducible refine (HLG.out _ K1.out).mono ?_); rintro e' w2 ⟨h2, hk2⟩; have K2 := Lib.hid (Kp.trans K1.out hk2); clear hk2; rcases h2 with rfl | rfl))
  · go_ret
    exact ⟨rfl, K2.out⟩
  go_wp2_with (go_at_call 9; (with_reducible refine (HN.out _ K2.out).mono ?_); rintro e' w3 ⟨q, mb, rfl, h3, -⟩; have Q3 := Lib.hid h3; clear h3)
  have BO := Lib.hid (show Bo w q mb w3.heap.size ckNew ckNew (.slice none 0 0) (w3.alloc (.cells #[.float .f64 0, .slice none 0 0] 31)) from ⟨Q3.out.1.kp (kp_alloc w3 (.cells #[.float .f64 0, .slice none 0 0] 31)), rk_new w w3 (Below.size Q3.out.2), Kp.trans Q3.out.2 (kp_alloc w3 (.cells #[.float .f64 0, .slice none 0 0] 31))⟩)
  obtain ⟨g, hg⟩ : ∃ g, w3.heap.size = g := ⟨_, rfl⟩
  rw [hg] at BO
  try rw [hg]
  clear Q3 hg
  go_loopw [24] (fun i wr => ∃ (j : Nat) (c : CkM) (v : Value), j ≤ n ∧ i = .int .i64 j ∧ Bo w q mb g c c v wr) (fun i _ => n - (intOf i).toNat)
  case atStart => exact ⟨0, _, _, Nat.zero_le _, rfl, BO.out⟩
  case round =>
    obtain ⟨j, c, v, hj, rfl, hbo⟩ := hrel
    clear BO
    obtain ⟨jj, hjj⟩ : ∃ jj : Int, (j : Int) = jj := ⟨_, rfl⟩
    have HJ := Lib.hid hjj
    rw [hjj]
    by_cases hlt : j < n
    · have hjn : jj < NN := by omega
      have hj0 : 0 ≤ jj := by omega
      have HLT := Lib.hid hlt
      have hw1 : wrap64 (jj + 1) = jj + 1 := IntWalk.wrap64_in _ (by omega)
      have htn : jj.toNat = j := by omega
      obtain ⟨b, off, rfl, hc0⟩ := HAT0.out j (by rw [HFN.out]; exact hlt)
      have hjo : j < os.length := by rw [HFN.out]; exact hlt
      obtain ⟨⟨k1, s1, x1, y1⟩, ho⟩ : ∃ o, os[j] = o := ⟨_, rfl⟩
      rw [ho] at hc0
      obtain ⟨u0, u1, u2, u3, wk, ws, wx, wy⟩ := hc0.kp hbo.2.2
      dsimp only at u0 u1 u2 u3 wk ws wx wy
      clear wk
      obtain ⟨st, hst⟩ : ∃ s, (⟨s1.toArray⟩ : ByteArray) = s := ⟨_, rfl⟩
      have hsv : encStr s1 = .string st := by rw [← hst]
      rw [hsv] at u1
      rw [← htn] at u0 u1 u2 u3
      have HSV := Lib.hid hsv
      have HKS := Lib.hid ws
      have k1' := kp_alloc wr (.cells #[.int .i64 k1, .string st, .float .f64 x1, .float .f64 y1] 33)
      have r1 := (MapKept.heap_alloc wr (.cells #[.int .i64 k1, .string st, .float .f64 x1, .float .f64 y1] 33)).1
      obtain ⟨nbo, nbr⟩ := hbo.new
      obtain ⟨bx, hbx⟩ : ∃ b, wr.heap.size = b := ⟨_, rfl⟩
      rw [hbx] at r1 nbo nbr
      obtain ⟨Y, hY⟩ : ∃ Y, wr.alloc (.cells #[.int .i64 k1, .string st, .float .f64 x1, .float .f64 y1] 33) = Y := ⟨_, rfl⟩
      rw [hY] at k1' r1
      obtain ⟨X, hX⟩ : ∃ X, Y.drew = X := ⟨_, rfl⟩
      have bX := hbo.kp (show Kp wr X from Kp.trans k1' (by rw [← hX]; exact kp_drewR (Kp.refl _)))
      have tx : X.heap[bx]? = some (.cells #[.int .i64 k1, .string st, .float .f64 x1, .float .f64 y1] 33) := by rw [← hX]; exact r1
      have hst2 := step13_any V.out E.out bX ⟨k1, s1, x1, y1⟩ ws wx wy
      dsimp only at hst2
      rw [hsv] at hst2
      obtain ⟨d, hd⟩ : ∃ d, stM c ⟨k1, s1, x1, y1⟩ = d := ⟨_, rfl⟩
      rw [hd] at hst2
      obtain ⟨L, hL⟩ : ∃ L, d.ts.length = L := ⟨_, rfl⟩
      obtain ⟨LI, hLI⟩ : ∃ LI : Int, (L : Int) = LI := ⟨_, rfl⟩
      have HL := Lib.hid hL
      have HLI := Lib.hid hLI
      have HST := Lib.hid hst2
      have TX := Lib.hid tx
      have HBL := Lib.hid (old_of_row tx)
      have HT1 := Lib.hid r1
      have HXW := Lib.hid hX
      have NBO := Lib.hid nbo
      have NBR := Lib.hid nbr
      have cel0 := cell_row (i := 0) r1 rfl; have cel1 := cell_row (i := 1) r1 rfl; have cel2 := cell_row (i := 2) r1 rfl; have cel3 := cell_row (i := 3) r1 rfl
      clear hbo hjj hlt htn hc0 ho ws wx wy hst hsv k1' r1 nbo nbr hX bX tx hst2 hd hL hj hjo
      go_wp2_with fail
      refine wp_region_held_drew (S := fun w' => w'.heap[bx]? = some (.cells #[.int .i64 k1, .string st, .float .f64 x1, .float .f64 y1] 33)) (by kernel_rfl) ?_ (fun hHeld => ?_)
      · exact kp_row (kp_drewR (Kp.refl _)) HT1.out
      rw [HXW.out] at hHeld ⊢
      refine wpAnyH_take (i := 0) (v := ?_) rfl (by kernel_rfl) (by kernel_rfl) (by kernel_rfl) (fun _ _ _ h => h) (Or.inl ⟨by rfl, ?_⟩) (by assumption) ?_
      rotate_left
      · intro w hSw; go_simp; try with_reducible rfl
      go_simp
      refine wpAnyH_take (i := 1) (v := ?_) rfl (by kernel_rfl) (by kernel_rfl) (by kernel_rfl) (fun _ _ _ h => h) (Or.inl ⟨by rfl, ?_⟩) (by assumption) ?_
      rotate_left
      · intro w hSw; go_simp; try with_reducible rfl
      go_simp
      refine wpAnyH_take (i := 2) (v := ?_) rfl (by kernel_rfl) (by kernel_rfl) (by kernel_rfl) (fun _ _ _ h => h) (Or.inl ⟨by rfl, ?_⟩) (by assumption) ?_
      rotate_left
      · intro w hSw; have q0 := cell_row (i := 0) hSw rfl; have q1 := cell_row (i := 1) hSw rfl; have q2 := cell_row (i := 2) hSw rfl; have q3 := cell_row (i := 3) hSw rfl; go_simp; try with_reducible rfl
      go_simp
      refine wpAnyH_ready (rs := [3]) (by kernel_rfl) (by simp) ?_
      refine AllReadyH.cons rfl (fun K hK => ?_) AllReadyH.nil
      go_simp
      go_wp2_with (go_at_call 10; (with_reducible refine (HST.out).mono ?_); rintro e' w6 ⟨rfl, hf6, v6, hb6⟩; obtain ⟨a6, c6, hv6⟩ := hb6.2.1.form; rw [HL.out] at hv6; subst hv6; have B6 := Lib.hid hb6; have XB := Lib.hid ((hf6 bx HBL.out NBO.out NBR.out).trans TX.out); clear hb6 hf6)
      refine hK.out _ _ ?_ (fun hHeld => ?_)
      · exact XB.out
      clear hK K
      refine wpAnyH_monoP (S' := fun w' => Kp w6 w') (fun _ h => kp_row h XB.out) _ _ _ _ ?_
      clear hHeld
      have hHeld : Kp w6 w6 := Kp.refl _
      have OKD := Lib.hid B6.out.1.ok
      have HC0 := Lib.hid (show w6.cell? ⟨g, 0, none⟩ = some (.float .f64 d.now) from cell_row (i := 0) B6.out.2.1.row rfl)
      have HC1 := Lib.hid (show w6.cell? ⟨g, 1, none⟩ = some (.slice a6 L c6) from cell_row (i := 1) B6.out.2.1.row rfl)
      have HNW := Lib.hid (fun w2 (h : Kp w6 w2) => lkNow (B6.out.1.kp h))
      have HLE := Lib.hid (fun w2 (h : Kp w6 w2) => (show Calls Tryd.prog 13 #[.pointer (some ⟨q, 0, none⟩)] w2 fun r w' => r = .returned (.int .i64 LI) ∧ w2 = w' from by rw [← HLI.out, ← HL.out]; exact lkLen (B6.out.1.kp h)))
      have HDU := Lib.hid (fun w2 (h : Kp w6 w2) => lkDue_any (B6.out.1.kp h))
      have HRD := Lib.hid (fun w2 (h : Kp w6 w2) => rkDue_any (B6.out.2.1.kp h) OKD.out)
      refine wpAnyH_take (i := 4) (v := ?_) rfl (by kernel_rfl) (by kernel_rfl) (by kernel_rfl) (fun _ _ _ h => h) (Or.inl ⟨by rfl, ?_⟩) (by assumption) ?_
      rotate_left
      · intro w hSw; go_simp; try with_reducible rfl
      go_simp
      refine wpAnyH_take (i := 5) (v := ?_) rfl (by kernel_rfl) (by kernel_rfl) (by kernel_rfl) (fun _ _ _ h => h) (Or.inl ⟨by rfl, ?_⟩) (by assumption) ?_
      rotate_left
      · intro w hSw; go_simp; try with_reducible rfl
      go_simp
      refine wpAnyH_take (i := 6) (v := ?_) rfl (by kernel_rfl) (by kernel_rfl) (by kernel_rfl) (fun _ _ _ h => h) (Or.inl ⟨by rfl, ?_⟩) (by assumption) ?_
      rotate_left
      · intro w hSw; go_simp; try with_reducible rfl
      go_simp
      refine wpAnyH_take (i := 8) (v := ?_) rfl (by kernel_rfl) (by kernel_rfl) (by kernel_rfl) (fun _ _ _ h => h) (Or.inl ⟨by rfl, ?_⟩) (by assumption) ?_
      rotate_left
      · intro w hSw; go_simp; try with_reducible rfl
      go_simp
      refine wpAnyH_take (i := 9) (v := ?_) rfl (by kernel_rfl) (by kernel_rfl) (by kernel_rfl) (fun _ _ _ h => h) (Or.inl ⟨by rfl, ?_⟩) (by assumption) ?_
      rotate_left
      · intro w hSw; go_simp; try with_reducible rfl
      go_simp
      refine wpAnyH_take (i := 10) (v := ?_) rfl (by kernel_rfl) (by kernel_rfl) (by kernel_rfl) (fun _ _ _ h => h) (Or.inl ⟨by rfl, ?_⟩) (by assumption) ?_
      rotate_left
      · intro w hSw; go_simp; try with_reducible rfl
      go_simp
      refine wpAnyH_take (i := 11) (v := ?_) rfl (by kernel_rfl) (by kernel_rfl) (by kernel_rfl) (fun _ _ _ h => h) (Or.inl ⟨by rfl, ?_⟩) (by assumption) ?_
      rotate_left
      · intro w hSw; have q0 := kp_cell hSw HC0.out; go_simp; try with_reducible rfl
      go_simp
      refine wpAnyH_ready (rs := [7]) (by kernel_rfl) (by simp) ?_
      refine AllReadyH.cons rfl (fun K hK => ?_) AllReadyH.nil
      go_simp
      go_wp2_with (go_at_call 12; (with_reducible refine (HNW.out _ hHeld).mono ?_); rintro e' w7 ⟨rfl, rfl⟩)
      refine hK.out _ _ ?_ (fun hHeld => ?_)
      · exact hHeld
      clear hK K
      refine wpAnyH_ready (rs := [12]) (by kernel_rfl) (by simp) ?_
      refine AllReadyH.cons rfl (fun K hK => ?_) AllReadyH.nil
      go_simp
      go_wp2_with (go_at_call 11; (with_reducible refine (raw13_any _ _).mono ?_); rintro e' w7 ⟨rfl, rfl⟩)
      refine hK.out _ _ ?_ (fun hHeld => ?_)
      · exact hHeld
      clear hK K
      refine wpAnyH_take (i := 13) (v := ?_) rfl (by kernel_rfl) (by kernel_rfl) (by kernel_rfl) (fun _ _ _ h => h) (Or.inl ⟨by rfl, ?_⟩) (by assumption) ?_
      rotate_left
      · intro w hSw; go_simp; try with_reducible rfl
      go_simp
      refine wpAnyH_take (i := 14) (v := ?_) rfl (by kernel_rfl) (by kernel_rfl) (by kernel_rfl) (fun _ _ _ h => h) (Or.inl ⟨by rfl, ?_⟩) (by assumption) ?_
      rotate_left
      · intro w hSw; go_simp; try with_reducible rfl
      go_simp
      refine wpAnyH_take (i := 15) (v := ?_) rfl (by kernel_rfl) (by kernel_rfl) (by kernel_rfl) (fun _ _ _ h => h) (Or.inl ⟨by rfl, ?_⟩) (by assumption) ?_
      rotate_left
      · intro w hSw; go_simp; try with_reducible rfl
      go_simp
      refine wpAnyH_take (i := 16) (v := ?_) rfl (by kernel_rfl) (by kernel_rfl) (by kernel_rfl) (fun _ _ _ h => h) (Or.inl ⟨by rfl, ?_⟩) (by assumption) ?_
      rotate_left
      · intro w hSw; go_simp; try with_reducible rfl
      go_simp
      refine wpAnyH_take (i := 18) (v := ?_) rfl (by kernel_rfl) (by kernel_rfl) (by kernel_rfl) (fun _ _ _ h => h) (Or.inl ⟨by rfl, ?_⟩) (by assumption) ?_
      rotate_left
      · intro w hSw; go_simp; try with_reducible rfl
      go_simp
      refine wpAnyH_take (i := 19) (v := ?_) rfl (by kernel_rfl) (by kernel_rfl) (by kernel_rfl) (fun _ _ _ h => h) (Or.inl ⟨by rfl, ?_⟩) (by assumption) ?_
      rotate_left
      · intro w hSw; go_simp; try with_reducible rfl
      go_simp
      refine wpAnyH_take (i := 20) (v := ?_) rfl (by kernel_rfl) (by kernel_rfl) (by kernel_rfl) (fun _ _ _ h => h) (Or.inl ⟨by rfl, ?_⟩) (by assumption) ?_
      rotate_left
      · intro w hSw; go_simp; try with_reducible rfl
      go_simp
      refine wpAnyH_take (i := 21) (v := ?_) rfl (by kernel_rfl) (by kernel_rfl) (by kernel_rfl) (fun _ _ _ h => h) (Or.inl ⟨by rfl, ?_⟩) (by assumption) ?_
      rotate_left
      · intro w hSw; have q0 := kp_cell hSw HC1.out; go_simp; try with_reducible rfl
      go_simp
      refine wpAnyH_take (i := 22) (v := ?_) rfl (by kernel_rfl) (by kernel_rfl) (by kernel_rfl) (fun _ _ _ h => h) (Or.inl ⟨by rfl, ?_⟩) (by assumption) ?_
      rotate_left
      · intro w hSw; go_simp; try with_reducible rfl
      go_simp
      refine wpAnyH_ready (rs := [17]) (by kernel_rfl) (by simp) ?_
      refine AllReadyH.cons rfl (fun K hK => ?_) AllReadyH.nil
      go_simp
      go_wp2_with (go_at_call 13; (with_reducible refine (HLE.out _ hHeld).mono ?_); rintro e' w7 ⟨rfl, rfl⟩)
      refine hK.out _ _ ?_ (fun hHeld => ?_)
      · exact hHeld
      clear hK K
      refine wpAnyH_take (i := 23) (v := ?_) rfl (by kernel_rfl) (by kernel_rfl) (by kernel_rfl) (fun _ _ _ h => h) (Or.inl ⟨by rfl, ?_⟩) (by assumption) ?_
      rotate_left
      · intro w hSw; go_simp; try with_reducible rfl
      go_simp
      refine wpAnyH_take (i := 24) (v := ?_) rfl (by kernel_rfl) (by kernel_rfl) (by kernel_rfl) (fun _ _ _ h => h) (Or.inl ⟨by rfl, ?_⟩) (by assumption) ?_
      rotate_left
      · intro w hSw; go_simp; try with_reducible rfl
      go_simp
      refine wpAnyH_take (i := 25) (v := ?_) rfl (by kernel_rfl) (by kernel_rfl) (by kernel_rfl) (fun _ _ _ h => h) (Or.inl ⟨by rfl, ?_⟩) (by assumption) ?_
      rotate_left
      · intro w hSw; go_simp; try with_reducible rfl
      go_simp
      refine wpAnyH_take (i := 26) (v := ?_) rfl (by kernel_rfl) (by kernel_rfl) (by kernel_rfl) (fun _ _ _ h => h) (Or.inl ⟨by rfl, ?_⟩) (by assumption) ?_
      rotate_left
      · intro w hSw; go_simp; try with_reducible rfl
      go_simp
      refine wpAnyH_take (i := 28) (v := ?_) rfl (by kernel_rfl) (by kernel_rfl) (by kernel_rfl) (fun _ _ _ h => h) (Or.inl ⟨by rfl, ?_⟩) (by assumption) ?_
      rotate_left
      · intro w hSw; go_simp; try with_reducible rfl
      go_simp
      refine wpAnyH_ready (rs := [27]) (by kernel_rfl) (by simp) ?_
      refine AllReadyH.cons rfl (fun K hK => ?_) AllReadyH.nil
      go_simp
      go_wp2_with (go_at_call 15; (with_reducible refine (HDU.out _ hHeld).mono ?_); rintro e' w7 ⟨v7, l7, rfl, hl7, ho7, hk7⟩; obtain ⟨o7, c7, rfl⟩ := own_formG ho7; have D7 := Lib.hid hl7; have O7 := Lib.hid ho7; have K7 := Lib.hid (Kp.trans hHeld hk7); clear hl7 ho7 hk7)
      refine hK.out _ _ ?_ (fun hHeld => ?_)
      · exact K7.out
      clear hK K
      refine wpAnyH_ready (rs := [29]) (by kernel_rfl) (by simp) ?_
      refine AllReadyH.cons rfl (fun K hK => ?_) AllReadyH.nil
      go_simp
      go_wp2_with (go_at_call 16; (with_reducible refine (HRD.out _ K7.out).mono ?_); rintro e' w8 ⟨v8, l8, rfl, hl8, ho8, hk8⟩; obtain rfl := due_one hl8 D7.out; obtain ⟨o8, c8, rfl⟩ := own_formG ho8; have K8 := Lib.hid (Kp.trans K7.out hk8); have HSM := Lib.hid (same13_any (own_stayG O7.out (fun b hb => Below.block hk8 b (O7.out.lt b hb).2)) ho8 rfl (due_len OKD.out D7.out)); clear hl8 ho8 hk8)
      refine hK.out _ _ ?_ (fun hHeld => ?_)
      · exact K8.out
      clear hK K
      refine wpAnyH_ready (rs := [30]) (by kernel_rfl) (by simp) ?_
      refine AllReadyH.cons rfl (fun K hK => ?_) AllReadyH.nil
      go_simp
      go_wp2_with (go_at_call 14; (with_reducible refine (HSM.out).mono ?_); rintro e' w9 ⟨rfl, hk9⟩; have K9 := Lib.hid (Kp.trans K8.out hk9); clear hk9)
      refine hK.out _ _ ?_ (fun hHeld => ?_)
      · exact K9.out
      clear hK K
      refine wpAnyH_take (i := 31) (v := ?_) rfl (by kernel_rfl) (by kernel_rfl) (by kernel_rfl) (fun _ _ _ h => h) (Or.inl ⟨by rfl, ?_⟩) (by assumption) ?_
      rotate_left
      · intro w hSw; go_simp; try with_reducible rfl
      go_simp
      refine wpAnyH_take (i := 32) (v := ?_) rfl (by kernel_rfl) (by kernel_rfl) (by kernel_rfl) (fun _ _ _ h => h) (Or.inl ⟨by rfl, ?_⟩) (by assumption) ?_
      rotate_left
      · intro w hSw; go_simp; try with_reducible rfl
      go_simp
      refine wpAnyH_done (by kernel_rfl) ?_ _
      obtain ⟨nx, nb, hnl, hnr⟩ := next_both B6.out.1 B6.out.2.1
      have HNL := Lib.hid hnl
      have HNR := Lib.hid hnr
      clear hnl hnr
      cases nb with
      | false =>
        cases hh : d.has s1 with
        | false =>
          have hfi : d.findI s1 = -1 := by unfold CkM.findI; rw [if_neg (fun e => by rw [idx_lt.1 e] at hh; cases hh)]
          have hgt : d.getT s1 = tm0 := getT_none (by cases hl : d.look s1 with | none => rfl | some t => (unfold CkM.has at hh; rw [hl] at hh; cases hh))
          have e00 : (FloatKind.f64.format.order 0 0 != some .eq) = false := fl_ne (Nat.zero_le _)
          have HAT := Lib.hid (fun w2 (h : Kp w6 w2) => (show Calls Tryd.prog 19 #[.pointer (some ⟨q, 0, none⟩), .string st] w2 fun r w' => r = .returned (.tuple #[.float .f64 0, .int .i64 0, .bool false]) ∧ Kp w2 w' from by rw [← HSV.out]; exact (lkAt (B6.out.1.kp h) HKS.out).mono fun _ _ ⟨q1, q2⟩ => ⟨by rw [q1, hgt, hh]; rfl, q2⟩))
          have HFI := Lib.hid (fun w2 (h : Kp w6 w2) => (show Calls Tryd.prog 20 #[.pointer (some ⟨g, 0, none⟩), .string st] w2 fun r w' => r = .returned (.int .i64 (-1)) ∧ Kp w2 w' from by rw [← HSV.out]; exact (rkFind (B6.out.2.1.kp h) OKD.out.len s1).mono fun _ _ ⟨q1, q2⟩ => ⟨by rw [q1, hfi], q2⟩))
          clear hh hfi hgt
          go_wp2_with (first
          | (go_at_call 20; (with_reducible refine (HFI.out _ K12.out).mono ?_); rintro e' w13 ⟨rfl, hk⟩; have K13 := Lib.hid (Kp.trans K12.out hk); clear hk)
          | (go_at_call 19; (with_reducible refine (HAT.out _ K11.out).mono ?_); rintro e' w12 ⟨rfl, hk⟩; have K12 := Lib.hid (Kp.trans K11.out hk); have xc := cell_row (i := 1) (kp_row K12.out XB.out) rfl; clear hk)
          | (go_at_call 18; (with_reducible refine (HNR.out _ K10.out).mono ?_); rintro e' w11 ⟨rfl, hk⟩; have K11 := Lib.hid (Kp.trans K10.out hk); have xb := cell_row (i := 1) (kp_row K11.out XB.out) rfl; clear hk)
          | (go_at_call 17; (with_reducible refine (HNL.out _ K9.out).mono ?_); rintro e' w10 ⟨rfl, hk⟩; have K10 := Lib.hid (Kp.trans K9.out hk); clear hk)
          | (go_at_call 11; (with_reducible refine (raw13_any _ _).mono ?_); rintro e' w20 ⟨rfl, rfl⟩))
          go_roundw
          case rel => exact ⟨j + 1, d, _, by have := HLT.out; omega, by have := HJ.out; rw [show ((j + 1 : Nat) : Int) = jj + 1 by omega], B6.out.kp K13.out⟩
          case measure => have := HJ.out; have := HLT.out; simp [intOf]; omega
        | true =>
          have hil := idx_lt.2 hh
          have hlk := idx_look OKD.out.nd hil
          obtain ⟨ii, hii⟩ : ∃ i, d.idx s1 = i := ⟨_, rfl⟩
          have hfi : d.findI s1 = (ii : Int) := by unfold CkM.findI; rw [if_pos hil, hii]
          obtain ⟨t, ht⟩ : ∃ t, d.ts[d.idx s1] = t := ⟨_, rfl⟩
          rw [ht] at hlk
          have hgt := getT_some hlk
          have hilL : ii < L := by rw [← HL.out, ← hii]; exact hil
          obtain ⟨⟨tk, ta, tn, tb, tm⟩, rfl⟩ : ∃ u : Tm, t = u := ⟨t, rfl⟩
          obtain ⟨gb, cpb, ev, -⟩ := B6.out.2.1.cell hil
          rw [HL.out] at ev
          injection ev with ev _ ev2
          subst ev
          subst ev2
          obtain ⟨ij, hij⟩ : ∃ ij : Int, (ii : Int) = ij := ⟨_, rfl⟩
          obtain ⟨-, z1, z2, -, -⟩ := B6.out.2.1.at5 (m := L) (j := d.idx s1) (jj := ij) rfl (by omega) hil ht rfl
          have HT1c := Lib.hid z1
          have HT2c := Lib.hid z2
          clear z1 z2
          have ij0 : 0 ≤ ij := by omega
          have ijL : ij < LI := by have := HLI.out; omega
          have ijg : (ij ≥ 0) := ij0
          have HAT := Lib.hid (fun w2 (h : Kp w6 w2) => (show Calls Tryd.prog 19 #[.pointer (some ⟨q, 0, none⟩), .string st] w2 fun r w' => r = .returned (.tuple #[.float .f64 ta, .int .i64 tn, .bool true]) ∧ Kp w2 w' from by rw [← HSV.out]; exact (lkAt (B6.out.1.kp h) HKS.out).mono fun _ _ ⟨q1, q2⟩ => ⟨by rw [q1, hgt, hh], q2⟩))
          have HFI := Lib.hid (fun w2 (h : Kp w6 w2) => (show Calls Tryd.prog 20 #[.pointer (some ⟨g, 0, none⟩), .string st] w2 fun r w' => r = .returned (.int .i64 ij) ∧ Kp w2 w' from by rw [← HSV.out]; exact (rkFind (B6.out.2.1.kp h) OKD.out.len s1).mono fun _ _ ⟨q1, q2⟩ => ⟨by rw [q1, hfi, hij], q2⟩))
          clear hh hfi hgt hil hlk hii hilL hij ht
          go_wp2_with (first
          | (go_at_call 20; (with_reducible refine (HFI.out _ K12.out).mono ?_); rintro e' w13 ⟨rfl, hk⟩; have K13 := Lib.hid (Kp.trans K12.out hk); have y1 := kp_cell K13.out HC1.out; have z1 := kp_cell K13.out HT1c.out; have z2 := kp_cell K13.out HT2c.out; clear hk)
          | (go_at_call 19; (with_reducible refine (HAT.out _ K11.out).mono ?_); rintro e' w12 ⟨rfl, hk⟩; have K12 := Lib.hid (Kp.trans K11.out hk); have xc := cell_row (i := 1) (kp_row K12.out XB.out) rfl; clear hk)
          | (go_at_call 18; (with_reducible refine (HNR.out _ K10.out).mono ?_); rintro e' w11 ⟨rfl, hk⟩; have K11 := Lib.hid (Kp.trans K10.out hk); have xb := cell_row (i := 1) (kp_row K11.out XB.out) rfl; clear hk)
          | (go_at_call 17; (with_reducible refine (HNL.out _ K9.out).mono ?_); rintro e' w10 ⟨rfl, hk⟩; have K10 := Lib.hid (Kp.trans K9.out hk); clear hk)
          | (go_at_call 11; (with_reducible refine (raw13_any _ _).mono ?_); rintro e' w20 ⟨rfl, rfl⟩))
          go_roundw
          case rel => exact ⟨j + 1, d, _, by have := HLT.out; omega, by have := HJ.out; rw [show ((j + 1 : Nat) : Int) = jj + 1 by omega], B6.out.kp K13.out⟩
          case measure => have := HJ.out; have := HLT.out; simp [intOf]; omega
      | true =>
        cases hh : d.has s1 with
        | false =>
          have hfi : d.findI s1 = -1 := by unfold CkM.findI; rw [if_neg (fun e => by rw [idx_lt.1 e] at hh; cases hh)]
          have hgt : d.getT s1 = tm0 := getT_none (by cases hl : d.look s1 with | none => rfl | some t => (unfold CkM.has at hh; rw [hl] at hh; cases hh))
          have e00 : (FloatKind.f64.format.order 0 0 != some .eq) = false := fl_ne (Nat.zero_le _)
          have HAT := Lib.hid (fun w2 (h : Kp w6 w2) => (show Calls Tryd.prog 19 #[.pointer (some ⟨q, 0, none⟩), .string st] w2 fun r w' => r = .returned (.tuple #[.float .f64 0, .int .i64 0, .bool false]) ∧ Kp w2 w' from by rw [← HSV.out]; exact (lkAt (B6.out.1.kp h) HKS.out).mono fun _ _ ⟨q1, q2⟩ => ⟨by rw [q1, hgt, hh]; rfl, q2⟩))
          have HFI := Lib.hid (fun w2 (h : Kp w6 w2) => (show Calls Tryd.prog 20 #[.pointer (some ⟨g, 0, none⟩), .string st] w2 fun r w' => r = .returned (.int .i64 (-1)) ∧ Kp w2 w' from by rw [← HSV.out]; exact (rkFind (B6.out.2.1.kp h) OKD.out.len s1).mono fun _ _ ⟨q1, q2⟩ => ⟨by rw [q1, hfi], q2⟩))
          clear hh hfi hgt
          go_wp2_with (first
          | (go_at_call 20; (with_reducible refine (HFI.out _ K12.out).mono ?_); rintro e' w13 ⟨rfl, hk⟩; have K13 := Lib.hid (Kp.trans K12.out hk); clear hk)
          | (go_at_call 19; (with_reducible refine (HAT.out _ K11.out).mono ?_); rintro e' w12 ⟨rfl, hk⟩; have K12 := Lib.hid (Kp.trans K11.out hk); have xc := cell_row (i := 1) (kp_row K12.out XB.out) rfl; clear hk)
          | (go_at_call 18; (with_reducible refine (HNR.out _ K10.out).mono ?_); rintro e' w11 ⟨rfl, hk⟩; have K11 := Lib.hid (Kp.trans K10.out hk); have xb := cell_row (i := 1) (kp_row K11.out XB.out) rfl; clear hk)
          | (go_at_call 17; (with_reducible refine (HNL.out _ K9.out).mono ?_); rintro e' w10 ⟨rfl, hk⟩; have K10 := Lib.hid (Kp.trans K9.out hk); clear hk)
          | (go_at_call 11; (with_reducible refine (raw13_any _ _).mono ?_); rintro e' w20 ⟨rfl, rfl⟩))
          go_roundw
          case rel => exact ⟨j + 1, d, _, by have := HLT.out; omega, by have := HJ.out; rw [show ((j + 1 : Nat) : Int) = jj + 1 by omega], B6.out.kp K13.out⟩
          case measure => have := HJ.out; have := HLT.out; simp [intOf]; omega
        | true =>
          have hil := idx_lt.2 hh
          have hlk := idx_look OKD.out.nd hil
          obtain ⟨ii, hii⟩ : ∃ i, d.idx s1 = i := ⟨_, rfl⟩
          have hfi : d.findI s1 = (ii : Int) := by unfold CkM.findI; rw [if_pos hil, hii]
          obtain ⟨t, ht⟩ : ∃ t, d.ts[d.idx s1] = t := ⟨_, rfl⟩
          rw [ht] at hlk
          have hgt := getT_some hlk
          have hilL : ii < L := by rw [← HL.out, ← hii]; exact hil
          obtain ⟨⟨tk, ta, tn, tb, tm⟩, rfl⟩ : ∃ u : Tm, t = u := ⟨t, rfl⟩
          obtain ⟨gb, cpb, ev, -⟩ := B6.out.2.1.cell hil
          rw [HL.out] at ev
          injection ev with ev _ ev2
          subst ev
          subst ev2
          obtain ⟨ij, hij⟩ : ∃ ij : Int, (ii : Int) = ij := ⟨_, rfl⟩
          obtain ⟨-, z1, z2, -, -⟩ := B6.out.2.1.at5 (m := L) (j := d.idx s1) (jj := ij) rfl (by omega) hil ht rfl
          have HT1c := Lib.hid z1
          have HT2c := Lib.hid z2
          clear z1 z2
          have ij0 : 0 ≤ ij := by omega
          have ijL : ij < LI := by have := HLI.out; omega
          have ijg : (ij ≥ 0) := ij0
          have HAT := Lib.hid (fun w2 (h : Kp w6 w2) => (show Calls Tryd.prog 19 #[.pointer (some ⟨q, 0, none⟩), .string st] w2 fun r w' => r = .returned (.tuple #[.float .f64 ta, .int .i64 tn, .bool true]) ∧ Kp w2 w' from by rw [← HSV.out]; exact (lkAt (B6.out.1.kp h) HKS.out).mono fun _ _ ⟨q1, q2⟩ => ⟨by rw [q1, hgt, hh], q2⟩))
          have HFI := Lib.hid (fun w2 (h : Kp w6 w2) => (show Calls Tryd.prog 20 #[.pointer (some ⟨g, 0, none⟩), .string st] w2 fun r w' => r = .returned (.int .i64 ij) ∧ Kp w2 w' from by rw [← HSV.out]; exact (rkFind (B6.out.2.1.kp h) OKD.out.len s1).mono fun _ _ ⟨q1, q2⟩ => ⟨by rw [q1, hfi, hij], q2⟩))
          clear hh hfi hgt hil hlk hii hilL hij ht
          go_wp2_with (first
          | (go_at_call 20; (with_reducible refine (HFI.out _ K12.out).mono ?_); rintro e' w13 ⟨rfl, hk⟩; have K13 := Lib.hid (Kp.trans K12.out hk); have y1 := kp_cell K13.out HC1.out; have z1 := kp_cell K13.out HT1c.out; have z2 := kp_cell K13.out HT2c.out; clear hk)
          | (go_at_call 19; (with_reducible refine (HAT.out _ K11.out).mono ?_); rintro e' w12 ⟨rfl, hk⟩; have K12 := Lib.hid (Kp.trans K11.out hk); have xc := cell_row (i := 1) (kp_row K12.out XB.out) rfl; clear hk)
          | (go_at_call 18; (with_reducible refine (HNR.out _ K10.out).mono ?_); rintro e' w11 ⟨rfl, hk⟩; have K11 := Lib.hid (Kp.trans K10.out hk); have xb := cell_row (i := 1) (kp_row K11.out XB.out) rfl; clear hk)
          | (go_at_call 17; (with_reducible refine (HNL.out _ K9.out).mono ?_); rintro e' w10 ⟨rfl, hk⟩; have K10 := Lib.hid (Kp.trans K9.out hk); clear hk)
          | (go_at_call 11; (with_reducible refine (raw13_any _ _).mono ?_); rintro e' w20 ⟨rfl, rfl⟩))
          go_roundw
          case rel => exact ⟨j + 1, d, _, by have := HLT.out; omega, by have := HJ.out; rw [show ((j + 1 : Nat) : Int) = jj + 1 by omega], B6.out.kp K13.out⟩
          case measure => have := HJ.out; have := HLT.out; simp [intOf]; omega
    · have hjn : ¬ jj < NN := by omega
      have B9 := Lib.hid hbo.2.2
      clear hbo hjj hlt hj
      go_wp2
      go_ret
      exact ⟨rfl, B9.out⟩
end Go.Proofs.YtanbeaebdingeaaDoor
