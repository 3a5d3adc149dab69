/-
  THE LANDED CLOCK (own work): Due.
-/
import Derived.Test.YtanbeaebdingeaaDoorTmE
namespace Go.Proofs.YtanbeaebdingeaaDoor
open Go.RowKit Go.ChangeShapes Go.WideShapes Go.Sort
variable {w0 w w' W w3 : World} {q mb : Nat} {c : CkM}

theorem dl_snoc (ks : List (List UInt8)) (x : List UInt8) : c.dl (ks ++ [x]) = if c.atK x ≤ c.now then c.dl ks ++ [x] else c.dl ks := by
  unfold CkM.dl
  rw [List.filter_append]
  by_cases h : c.atK x ≤ c.now
  · rw [if_pos h, List.filter_cons_of_pos (by simpa using h)]; rfl
  · rw [if_neg h, List.filter_cons_of_neg (by simpa using h)]; simp
set_option maxRecDepth 100000 in
set_option maxHeartbeats 4000000 in
theorem lkDue_any (H : Lk w0 q mb c w) : Calls Tryd.prog 15 #[.pointer (some ⟨q, 0, none⟩)] w fun r w' => ∃ v l, r = .returned v ∧ DueIs c l ∧ w'.ownsRow w.heap.size 9 1 v l.length (kyE.row l) ∧ Kp w w' := by
  have kb := kp_alloc w (.cells #[.pointer (some ⟨q, 0, none⟩)] 25)
  have e0 : (w.alloc (.cells #[.pointer (some ⟨q, 0, none⟩)] 25)).cell? ⟨w.heap.size, 0, none⟩ = some (.pointer (some ⟨q, 0, none⟩)) := cell_row (i := 0) (MapKept.heap_alloc w (.cells #[.pointer (some ⟨q, 0, none⟩)] 25)).1 rfl
  have H0 := H.kp kb
  obtain ⟨bx, hbx⟩ : ∃ x, w.heap.size = x := ⟨_, rfl⟩
  have hbs : (w.alloc (.cells #[.pointer (some ⟨q, 0, none⟩)] 25)).heap.size = bx + 1 := by simp [hbx]
  obtain ⟨W, hW⟩ : ∃ W, w.alloc (.cells #[.pointer (some ⟨q, 0, none⟩)] 25) = W := ⟨_, rfl⟩
  rw [hW] at kb e0 H0 hbs
  obtain ⟨D, hD, hm⟩ := H0.map
  have e1 : W.cell? ⟨q, 1, none⟩ = some (.map (some mb)) := cell_row (i := 1) H0.row rfl
  have e2 : W.cell? ⟨q, 0, none⟩ = some (.float .f64 c.now) := cell_row (i := 0) H0.row rfl
  rw [hbx] at e0
  have MO := Lib.hid hD
  have HM := Lib.hid hm
  have OK := Lib.hid H.ok
  have HW0 := Lib.hid H0
  have HKW := Lib.hid kb
  have HLT := Lib.hid hD.lt
  have HSZ := Lib.hid (hD.size_le)
  have HBX := Lib.hid hbx
  have HBS := Lib.hid hbs
  have HE0 := Lib.hid e0
  have HE2 := Lib.hid e2
  clear H H0 hD hm kb hbs
  go_enter Tryd.func15, Tryd.ntmps15
  go_wp2_with (first | (at_range; refine wpList_range_own _ rfl _ 63 rfl 9 71 kS Tryd.underlying63 tmR mb 64 D rfl MO.out ?_; intro w1 hrg0 hg0 hs0))
  try go_frame
  obtain ⟨rI, hrI⟩ : ∃ q, W.heap.size = q := ⟨_, rfl⟩
  rw [hrI] at hrg0
  try rw [hrI]
  have HKR := Lib.hid (Nat.le_of_eq hrI)
  have HRI := Lib.hid hrI
  have hk0 : Kp W w1 := Below.grown (Kp.refl W) hg0 (Nat.le_refl _) (fun k hk => by cases hk)
  clear hrI hg0 hs0 hW
  go_loopw [3] (fun v wr => ∃ (left : Lit → Bool) (cnt : Nat) (ks : List (List UInt8)), wr.ranges Tryd.prog 9 tmR mb rI 64 D left cnt ∧ Collected D left ks ∧ (∀ k ∈ ks, k.length ≤ maxLen) ∧ ks.length + cnt ≤ 64 ∧ wr.ownsRow rI 9 1 v (c.dl ks).length (kyE.row (c.dl ks)) ∧ Kp W wr) (fun _ wr => wr.rangeLeft mb rI)
  case atStart => exact ⟨_, _, [], hrg0, Collected.start D, fun k h => (by cases h), (by have := HSZ.out; simpa using this), World.ownsRow_nil _ _ _ _, hk0⟩
  case round =>
    obtain ⟨left, cnt, ks, hrg, hC, hkl, hcnt, hrow, hgw⟩ := hrel
    go_wp2_with (first | (at_next; refine wpList_next_ranges _ rfl _ rfl 9 kS tmR encStr mkT inv_key inv_tm mb rI 64 _ _ _ rfl hrg ?_ ?_))
    · intro hc0 hl0
      have hp := dl_perm OK.out (coll_perm HM.out OK.out hC hl0 hkl)
      have hdl : (c.dl ks).length ≤ 64 := Nat.le_trans (List.length_filter_le _ _) (by omega)
      have hdk : ∀ k ∈ c.dl ks, k.length ≤ maxLen := fun k hk => hkl k ((List.mem_filter.1 hk).1)
      have HKE := Lib.hid (Kp.trans HKW.out hgw)
      have hbw : w.heap.size ≤ rI := by have := HBX.out; have := HBS.out; have := HRI.out; omega
      by_cases h0 : c.dl ks = []
      · rw [h0] at hp hrow
        obtain ⟨ad, cp, rfl⟩ := own_formG hrow
        have HR := Lib.hid (own_baseG hrow hbw)
        have HP := Lib.hid (show DueIs c [] from ⟨hp, List.Pairwise.nil⟩)
        have HS := Lib.hid (fun fv => AnyF.slices_SortFunc_none (P := Tryd.prog) (ρ := Tryd.sortL_ren) { Tryd.sortL with } ad cp fv wr)
        clear hrg hC hkl hcnt hrow hgw hp hc0 hl0 h0 hdl hdk hbw hrg0 hk0
        go_wp2_with (go_at_call 33; (refine (HS.out _).mono ?_); rintro e' w3 ⟨rfl, rfl⟩)
        go_ret
        exact ⟨_, [], rfl, HP.out, HR.out, HKE.out⟩
      · rcases hrow.2 with ⟨rfl, hz⟩ | ⟨g, cp, cur, rfl, hg, hh, hrest⟩
        · exact absurd (List.length_eq_zero_iff.1 hz) h0
        have hwr := HW0.out.kp hgw
        have hm2 := hwr.mem
        have hq := (HW0.out.mem q (.inl rfl)).2
        have hmq := (HW0.out.mem mb (.inr rfl)).2
        have hri := HRI.out
        have hbx2 := HBS.out
        have hS := sortK (base := rI) hwr (kp_cell hgw HE0.out) hdk hp hdl (by rw [← row_ky]; exact hrow) (by omega) (by omega) (by omega)
        have HS := Lib.hid hS
        have HB := Lib.hid hbw
        have HG := Lib.hid (show W.heap.size ≤ g by omega)
        have HGW := Lib.hid hgw
        obtain ⟨ln, hln⟩ : ∃ m, (c.dl ks).length = m := ⟨_, rfl⟩
        rw [hln] at HS
        simp only [hln]
        clear hrg hC hkl hcnt hrow hgw hp hc0 hl0 h0 hdl hdk hbw hrg0 hk0 hh hrest hg hwr hm2 hq hmq hri hbx2 hS hln
        go_wp2_with (go_at_call 33; (refine HS.out.mono ?_); rintro e' w3 ⟨rfl, l, hd, hll, hro, hgr⟩)
        go_ret
        subst hll
        exact ⟨_, l, rfl, hd, own_baseG (by rw [row_ky]; exact hro) HB.out, Kp.trans HKW.out (Below.grown HGW.out hgr (Below.size HGW.out) (fun k hk => by injection hk with hk; have := HG.out; omega))⟩
    · intro x a n b m kl yd yp w2 cnt2 hkey hlk hv hat hrg2 hlt hg2 hs2 hen
      obtain ⟨x', ex, rfl, hxl⟩ := Maps.keyOf_str Tryd.underlying9 hkey
      obtain rfl := encStr_inj ex
      obtain ⟨hh, hgt⟩ := ent_is HM.out hxl hv hat
      have ha : c.atK x = a := by unfold CkM.atK; rw [hgt]
      have hal : a ≤ 9218868437227405312 := by rw [← ha]; exact atK_le OK.out x
      have hgw2 : Kp W w2 := Below.grown hgw hg2 (Below.size hgw) (fun k hk => by injection hk with hk; have := HKR.out; omega)
      have n1 := row_ne_iter hrow hrg
      have n2 : some mb ≠ Value.ownBlock _ := row_ne_low hrow (by have := HRI.out; have := HLT.out; omega)
      have hrow2 := own_stayG hrow (w' := w2) (fun b hb => hg2.block b (hrow.lt b hb).2 (fun e => n1 (by rw [hb]; exact e.symm)))
      have k3 := kp_alloc w2 (.cells #[.float .f64 a, .int .i64 n, .float .f64 b, .float .f64 m] 71)
      have y0 : (w2.alloc (.cells #[.float .f64 a, .int .i64 n, .float .f64 b, .float .f64 m] 71)).cell? ⟨w2.heap.size, 0, none⟩ = some (.float .f64 a) := cell_row (i := 0) (MapKept.heap_alloc w2 (.cells #[.float .f64 a, .int .i64 n, .float .f64 b, .float .f64 m] 71)).1 rfl
      obtain ⟨Y, hY⟩ : ∃ Y, w2.alloc (.cells #[.float .f64 a, .int .i64 n, .float .f64 b, .float .f64 m] 71) = Y := ⟨_, rfl⟩
      have hY2 := hrg2.alloc (.cells #[.float .f64 a, .int .i64 n, .float .f64 b, .float .f64 m] 71)
      rw [hY] at k3 y0 hY2
      have hYd : Y.drew.ranges Tryd.prog 9 tmR mb rI 64 D (fun z => left z && !z.sameKey (.string x)) cnt2 := hY2
      have HC := Lib.hid (hC.step hlk hat)
      have HX := Lib.hid (show ∀ k ∈ ks ++ [x], k.length ≤ maxLen from fun k hk => by
        rcases List.mem_append.1 hk with hk | hk
        · exact hkl k hk
        · rw [List.mem_singleton.1 hk]; exact hxl)
      have HCN := Lib.hid (show ks.length + 1 + cnt2 ≤ 64 by omega)
      have HDL := Lib.hid (show (c.dl ks).length ≤ 64 from Nat.le_trans (List.length_filter_le _ _) (by omega))
      have HLQ := Lib.hid hrg.left_eq
      have HLT2 := Lib.hid hlt
      have e0 : Y.cell? ⟨bx, 0, none⟩ = some (.pointer (some ⟨q, 0, none⟩)) := kp_cell (Kp.trans hgw2 k3) HE0.out
      have e1 : Y.cell? ⟨q, 0, none⟩ = some (.float .f64 c.now) := kp_cell (Kp.trans hgw2 k3) HE2.out
      have hdu := fun w1 : World => due_ok c.now a w1 (Fl.dl_of_le OK.out.now).1 (Fl.dl_of_le hal).1
      rw [(Fl.dl_of_le OK.out.now).2.2, (Fl.dl_of_le hal).2.2] at hdu
      unfold mkT at hen
      dsimp only at hen
      have hsf := store_fl
      have N1 := Lib.hid n1
      have N2 := Lib.hid n2
      have KD := Lib.hid (show Kp Y Y.drew from kp_drewR (Kp.refl _))
      by_cases hde : a ≤ c.now
      · rw [decide_eq_true hde] at hdu
        have HDU := Lib.hid hdu
        have HDE := Lib.hid (show c.atK x ≤ c.now by rw [ha]; exact hde)
        have k4 : Kp w2 (Y.drew.alloc (.cells #[encStr x] 9)) := Kp.trans k3 (Kp.trans KD.out (kp_alloc Y.drew (.cells #[encStr x] 9)))
        have K4 := Lib.hid (Kp.trans hgw2 k4)
        have R4 := Lib.hid (own_stayG hrow2 (fun b hb => Below.block k4 b (hrow2.lt b hb).2))
        have P4 := Lib.hid (part_one1 (E := kyE) (x := x) rfl (MapKept.heap_alloc Y.drew (.cells #[encStr x] 9)).1)
        have RG := Lib.hid (hYd.alloc (.cells #[encStr x] 9))
        have RLT := Lib.hid RG.out.lt
        clear hkey ex hlk hv hat hh hgt hxl ha hgw2 hrow2 hrow hrg hrg2 hlt hg2 hs2 hC hkl hcnt hgw k3 n1 n2 hrg0 hk0 k4 hY2 hYd hdu hde hal
        go_wp2_with fail
        refine wp_region_held_drew (S := fun w' => Kp Y w') (by kernel_rfl) ?_ (fun hHeld => ?_)
        · exact KD.out
        refine wpAnyH_take (i := 0) (v := ?_) rfl (by kernel_rfl) (by kernel_rfl) (by kernel_rfl) (fun _ _ _ h => h) (Or.inl ⟨by rfl, ?_⟩) (by assumption) ?_
        rotate_left
        · intro w hSw; have q0 := kp_cell hSw e0; go_simp; try with_reducible rfl
        go_simp
        refine wpAnyH_take (i := 1) (v := ?_) rfl (by kernel_rfl) (by kernel_rfl) (by kernel_rfl) (fun _ _ _ h => h) (Or.inl ⟨by rfl, ?_⟩) (by assumption) ?_
        rotate_left
        · intro w hSw; go_simp; try with_reducible rfl
        go_simp
        refine wpAnyH_take (i := 2) (v := ?_) rfl (by kernel_rfl) (by kernel_rfl) (by kernel_rfl) (fun _ _ _ h => h) (Or.inl ⟨by rfl, ?_⟩) (by assumption) ?_
        rotate_left
        · intro w hSw; go_simp; try with_reducible rfl
        go_simp
        refine wpAnyH_take (i := 3) (v := ?_) rfl (by kernel_rfl) (by kernel_rfl) (by kernel_rfl) (fun _ _ _ h => h) (Or.inl ⟨by rfl, ?_⟩) (by assumption) ?_
        rotate_left
        · intro w hSw; have q1 := kp_cell hSw e1; go_simp; try with_reducible rfl
        go_simp
        refine wpAnyH_take (i := 4) (v := ?_) rfl (by kernel_rfl) (by kernel_rfl) (by kernel_rfl) (fun _ _ _ h => h) (Or.inl ⟨by rfl, ?_⟩) (by assumption) ?_
        rotate_left
        · intro w hSw; go_simp; try with_reducible rfl
        go_simp
        refine wpAnyH_take (i := 5) (v := ?_) rfl (by kernel_rfl) (by kernel_rfl) (by kernel_rfl) (fun _ _ _ h => h) (Or.inl ⟨by rfl, ?_⟩) (by assumption) ?_
        rotate_left
        · intro w hSw; have q2 := kp_cell hSw y0; go_simp; try with_reducible rfl
        go_simp
        refine wpAnyH_ready (rs := [6]) (by kernel_rfl) (by simp) ?_
        refine AllReadyH.cons rfl (fun K hK => ?_) AllReadyH.nil
        go_simp
        go_wp2_with (go_at_call 32; (with_reducible refine (HDU.out _).mono ?_); rintro e' w3 ⟨rfl, rfl⟩)
        refine hK.out _ _ hHeld (fun hHeld => ?_)
        clear hK K
        refine wpAnyH_done (by kernel_rfl) ?_ _
        go_wp2_with (at_builtin; refine wpList_append_rwG (E := kyE) ty_ky (by decide) _ rfl _ _ rfl rI _ (c.dl ks).length (c.dl ks) rfl R4.out _ [x] rfl P4.out ?f1 ?f2 ?_)
        case f1 => have := HDL.out; simp; omega
        case f2 => exact Nat.le_of_lt RLT.out
        intro v3 w3 ho hg3 hb3
        have hrg3 := RG.out.kept hg3 N2.out N1.out
        have hk3 : Kp W w3 := Below.grown K4.out hg3 (Below.size K4.out) (fun k hk => Nat.le_trans HKR.out (R4.out.lt k hk).1)
        clear hb3
        go_wp2
        go_roundw
        case rel => exact ⟨_, cnt2, ks ++ [x], hrg3, HC.out, HX.out, by have := HCN.out; simp; omega, by rw [dl_snoc, if_pos HDE.out, List.length_append]; exact ho, hk3⟩
        case measure => rw [hrg3.left_eq, HLQ.out]; exact HLT2.out
      · rw [decide_eq_false hde] at hdu
        have HDU := Lib.hid hdu
        have HDE := Lib.hid (show ¬ c.atK x ≤ c.now by rw [ha]; exact hde)
        have k4 : Kp w2 Y.drew := Kp.trans k3 KD.out
        have K4 := Lib.hid (Kp.trans hgw2 k4)
        have R4 := Lib.hid (own_stayG hrow2 (fun b hb => Below.block k4 b (hrow2.lt b hb).2))
        have RG := Lib.hid hYd
        clear hkey ex hlk hv hat hh hgt hxl ha hgw2 hrow2 hrow hrg hrg2 hlt hg2 hs2 hC hkl hcnt hgw k3 n1 n2 hrg0 hk0 k4 hY2 hYd hdu hde hal
        go_wp2_with fail
        refine wp_region_held_drew (S := fun w' => Kp Y w') (by kernel_rfl) ?_ (fun hHeld => ?_)
        · exact KD.out
        refine wpAnyH_take (i := 0) (v := ?_) rfl (by kernel_rfl) (by kernel_rfl) (by kernel_rfl) (fun _ _ _ h => h) (Or.inl ⟨by rfl, ?_⟩) (by assumption) ?_
        rotate_left
        · intro w hSw; have q0 := kp_cell hSw e0; go_simp; try with_reducible rfl
        go_simp
        refine wpAnyH_take (i := 1) (v := ?_) rfl (by kernel_rfl) (by kernel_rfl) (by kernel_rfl) (fun _ _ _ h => h) (Or.inl ⟨by rfl, ?_⟩) (by assumption) ?_
        rotate_left
        · intro w hSw; go_simp; try with_reducible rfl
        go_simp
        refine wpAnyH_take (i := 2) (v := ?_) rfl (by kernel_rfl) (by kernel_rfl) (by kernel_rfl) (fun _ _ _ h => h) (Or.inl ⟨by rfl, ?_⟩) (by assumption) ?_
        rotate_left
        · intro w hSw; go_simp; try with_reducible rfl
        go_simp
        refine wpAnyH_take (i := 3) (v := ?_) rfl (by kernel_rfl) (by kernel_rfl) (by kernel_rfl) (fun _ _ _ h => h) (Or.inl ⟨by rfl, ?_⟩) (by assumption) ?_
        rotate_left
        · intro w hSw; have q1 := kp_cell hSw e1; go_simp; try with_reducible rfl
        go_simp
        refine wpAnyH_take (i := 4) (v := ?_) rfl (by kernel_rfl) (by kernel_rfl) (by kernel_rfl) (fun _ _ _ h => h) (Or.inl ⟨by rfl, ?_⟩) (by assumption) ?_
        rotate_left
        · intro w hSw; go_simp; try with_reducible rfl
        go_simp
        refine wpAnyH_take (i := 5) (v := ?_) rfl (by kernel_rfl) (by kernel_rfl) (by kernel_rfl) (fun _ _ _ h => h) (Or.inl ⟨by rfl, ?_⟩) (by assumption) ?_
        rotate_left
        · intro w hSw; have q2 := kp_cell hSw y0; go_simp; try with_reducible rfl
        go_simp
        refine wpAnyH_ready (rs := [6]) (by kernel_rfl) (by simp) ?_
        refine AllReadyH.cons rfl (fun K hK => ?_) AllReadyH.nil
        go_simp
        go_wp2_with (go_at_call 32; (with_reducible refine (HDU.out _).mono ?_); rintro e' w3 ⟨rfl, rfl⟩)
        refine hK.out _ _ hHeld (fun hHeld => ?_)
        clear hK K
        refine wpAnyH_done (by kernel_rfl) ?_ _
        go_wp2
        go_roundw
        case rel => exact ⟨_, cnt2, ks ++ [x], RG.out, HC.out, HX.out, by have := HCN.out; simp; omega, by rw [dl_snoc, if_neg HDE.out]; exact R4.out, K4.out⟩
        case measure => rw [RG.out.left_eq, HLQ.out]; exact HLT2.out
end Go.Proofs.YtanbeaebdingeaaDoor
