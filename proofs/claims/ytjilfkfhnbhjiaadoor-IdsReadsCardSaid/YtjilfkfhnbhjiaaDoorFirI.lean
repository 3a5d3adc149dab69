/-
  ids.demand, ids.first (own work).
-/
import Derived.Test.YtjilfkfhnbhjiaaDoorLibI
import Derived.Test.YtjilfkfhnbhjiaaDoorPvE
import Derived.BigQuiet
import Derived.WalkSmall
import Derived.StillTailTactics
import Derived.Laws.Cover1
namespace Go.Proofs.YtjilfkfhnbhjiaaDoor
open Go.RowKit Go.ChangeShapes Go.WideShapes

theorem panic_some {P : Program} (t : TypeId) (v : Value) (w : World) : (Instr.panic (.iface t v)).run P w = .halt (.panic (.iface t v)) w := rfl
theorem idemand_t (v : Value) (w : World) : Calls Tryd.prog 35 #[.bool true, v] w fun e w' => e = .returned (.tuple #[]) ∧ w = w' := by
  go_enter Tryd.func35, Tryd.ntmps35
  go_wp2
  go_end0
  exact ⟨rfl, rfl⟩
theorem idemand_f (a : Addr) (w : World) : Calls Tryd.prog 35 #[.bool false, snt a] w fun e w' => e = .panicked [{ v := snt a, recovered := false }] ∧ w = w' := by
  have hpn := panic_some (P := Tryd.prog) 132 (.pointer (some a)) w
  go_enter Tryd.func35, Tryd.ntmps35
  go_wp2
  exact ⟨rfl, rfl, rfl⟩

theorem idxD {D : List Int} (h : InB D) (j : Nat) (hj : j < D.length) (jj : Int) (hjj : (j : Int) = jj) (w : World) :
    (Instr.index 9 (.string (strOfNums D)) (.int .i64 jj)).run Tryd.prog w = .ok (.int .u8 (D.getD j 0)) w := by
  have := idx_str (strOfNums D) j (by rw [strOfNums_size]; exact hj) jj hjj w
  rwa [strB_str h] at this
theorem str_take (S : List Int) (k : Nat) : (strOfNums S).extract 0 k = strOfNums (S.take k) := by
  rw [Lib.extract_upto, str_toB, str_mk, List.map_take]
theorem cutD (S : List Int) (nn mm : Int) (hn : (S.length : Int) = nn) (hm : ((S.drop (S.takeWhile isD).length).length : Int) = mm) (w : World) :
    (Instr.slice 9 (.string (strOfNums S)) none (some (.int .i64 (nn - mm))) none).run Tryd.prog w = .ok (.string (strOfNums (S.takeWhile isD))) w := by
  have hle := takeWhile_le isD S
  rw [List.length_drop] at hm
  have hdk : nn - mm = ((S.takeWhile isD).length : Int) := by omega
  have hx : (strOfNums S).extract 0 (S.takeWhile isD).length = strOfNums (S.takeWhile isD) := by rw [str_take, ← takeWhile_take]
  have hz : (S.takeWhile isD).length ≤ (strOfNums S).size := by rw [strOfNums_size]; exact hle
  rw [hdk]
  obtain ⟨k, hk⟩ : ∃ k, (S.takeWhile isD).length = k := ⟨_, rfl⟩
  rw [hk] at hx hz ⊢
  simp [go_sem, Tryd.underlying9]
  rw [if_pos hz, hx]
theorem firstM_none {S : List Int} (h : firstM S = none) : S.takeWhile isD = [] ∨ ((S.takeWhile isD) ≠ [] ∧ S.takeWhile isD ≠ [48] ∧ (S.takeWhile isD).getD 0 0 = 48) := by
  unfold firstM at h
  split at h
  · cases h
  · rename_i g
    by_cases e : S.takeWhile isD = []
    · exact .inl e
    · refine .inr ⟨e, fun q => g (.inl q), ?_⟩
      exact Classical.byContradiction fun q => g (.inr ⟨e, q⟩)
theorem takeWhile_in {S : List Int} (h : InB S) : InB (S.takeWhile isD) := fun x hx => h x (List.takeWhile_subset _ hx)
theorem str_ne {A B : List Int} (hA : InB A) (hB : InB B) (h : A ≠ B) : ((strOfNums A).toList == (strOfNums B).toList) = false := by
  rw [beq_eq_false_iff_ne, Lib.toList_data, Lib.toList_data]
  intro e
  apply h
  rw [← strB_str hA, ← strB_str hB, strB, strB, e]
theorem l48 : (strOfNums [48]).toList = [48] := by rw [Lib.toList_data]; rfl
theorem l0 : (strOfNums []).toList = [] := by rw [Lib.toList_data]; rfl
theorem len_pos {D : List Int} (h : D ≠ []) : 0 < D.length := List.length_pos_iff.2 h

set_option maxRecDepth 20000 in
theorem first_none (ads : List Addr) (h3 : 3 < ads.length) (S : List Int) (hS : InB S) (hl : S.length ≤ 1000000) (w : World) (V : St ads w) (hf : firstM S = none) :
    Calls Tryd.prog 40 #[.string (strOfNums S)] w fun e w' => e = .panicked [{ v := snt (ads[3]'h3), recovered := false }] ∧ Kp w w' := by
  have HT := trim_any S hS w
  obtain ⟨nn, hn⟩ : ∃ n : Int, (S.length : Int) = n := ⟨_, rfl⟩
  obtain ⟨mm, hm⟩ : ∃ n : Int, ((S.drop (S.takeWhile isD).length).length : Int) = n := ⟨_, rfl⟩
  have hc := fun w => cutD S nn mm hn hm w
  have b1 : 0 ≤ mm ∧ mm ≤ nn ∧ nn ≤ 1000000 := by rw [List.length_drop] at hm; omega
  have b2 : 0 ≤ nn - mm ∧ nn - mm ≤ 1000000 := by omega
  obtain ⟨sv, hsv⟩ : ∃ s, strOfNums S = s := ⟨_, rfl⟩
  obtain ⟨rv, hrv⟩ : ∃ s, strOfNums (S.drop (S.takeWhile isD).length) = s := ⟨_, rfl⟩
  obtain ⟨D, hD⟩ : ∃ D, S.takeWhile isD = D := ⟨_, rfl⟩
  have hsz : (sv.size : Int) = nn := by rw [← hsv, strOfNums_size, hn]
  have hrz : (rv.size : Int) = mm := by rw [← hrv, strOfNums_size, hm]
  have hc0 := firstM_none hf
  have hDin := takeWhile_in hS
  rw [hD] at hc0 hDin
  rw [hrv, hsv] at HT
  rw [hsv, hD] at hc
  rw [hsv]
  have HT := Lib.hid HT
  have CE := fun w1 (hk : Kp w w1) => kp_cell hk (V.cell 3 (by decide))
  obtain ⟨a3, ha3⟩ : ∃ a, ads[3]'h3 = a := ⟨_, rfl⟩
  rw [ha3] at CE ⊢
  replace CE : ∀ w1, Kp w w1 → w1.cell? ⟨3, 0, none⟩ = some (snt a3) := CE
  have CE := Lib.hid CE
  clear hn hm hS hl hsv hrv hf V ha3 hD
  rcases hc0 with rfl | ⟨hne, h48, hh⟩
  · clear hDin
    have q1 := str_ne (A := []) (B := [48]) (by unfold InB; decide) (by unfold InB; decide) (by decide)
    have q2 : ((strOfNums []).toList == (strOfNums []).toList) = true := beq_self_eq_true _
    rw [l48] at q1
    replace q2 : (strOfNums []).toList.isEmpty = true := by rw [l0]; rfl
    obtain ⟨dv, hdv⟩ : ∃ s, strOfNums [] = s := ⟨_, rfl⟩
    rw [hdv] at hc q1 q2
    clear hdv
    go_enter Tryd.func40, Tryd.ntmps40
    go_wp2_with (go_at_call 48; (with_reducible refine HT.out.mono ?_); rintro e w1 ⟨rfl, hk1⟩; have ce := CE.out _ hk1; have ce' : w1.drew.cell? ⟨3, 0, none⟩ = some (snt a3) := ce; have K1 := Lib.hid hk1; clear hk1)
    go_still_tail 12, (by kernel_rfl)
    change wpList _ _ _ _ _ w1.drew
    go_wp2_with (go_at_call 35; (with_reducible refine (idemand_f _ _).mono ?_); rintro e w' ⟨rfl, rfl⟩)
    exact ⟨rfl, rfl, K1.out.drew⟩
  · have q1 := str_ne hDin (show InB [48] by unfold InB; decide) h48
    have q2 := str_ne hDin (show InB [] by unfold InB; decide) hne
    have hi := fun w => idxD hDin 0 (len_pos hne) 0 rfl w
    rw [hh] at hi
    rw [l48] at q1
    rw [l0] at q2
    have hz : (0 : Int) < ((strOfNums D).size : Int) := by rw [strOfNums_size]; have := len_pos hne; omega
    obtain ⟨dv, hdv⟩ : ∃ s, strOfNums D = s := ⟨_, rfl⟩
    rw [hdv] at hc q1 q2 hi hz
    replace q2 : dv.toList.isEmpty = false := by simpa using q2
    clear hDin hne h48 hh hdv
    go_enter Tryd.func40, Tryd.ntmps40
    go_wp2_with (go_at_call 48; (with_reducible refine HT.out.mono ?_); rintro e w1 ⟨rfl, hk1⟩; have ce := CE.out _ hk1; have ce' : w1.drew.cell? ⟨3, 0, none⟩ = some (snt a3) := ce; have K1 := Lib.hid hk1; clear hk1)
    go_still_tail 12, (by kernel_rfl)
    change wpList _ _ _ _ _ w1.drew
    go_wp2_with (go_at_call 35; (with_reducible refine (idemand_f _ _).mono ?_); rintro e w' ⟨rfl, rfl⟩)
    exact ⟨rfl, rfl, K1.out.drew⟩

theorem firstM_some {S : List Int} {n : Int} {r : List Int} (h : firstM S = some (n, r)) : n = numC (S.takeWhile isD) ∧ r = S.drop (S.takeWhile isD).length ∧ (S.takeWhile isD = [48] ∨ (S.takeWhile isD ≠ [] ∧ (S.takeWhile isD).getD 0 0 ≠ 48)) := by
  unfold firstM at h
  split at h
  · rename_i g
    injection h with h
    injection h with h1 h2
    exact ⟨h1.symm, h2.symm, g⟩
  · cases h
theorem takeWhile_all {S : List Int} (j : Nat) (hj : j < (S.takeWhile isD).length) : 48 ≤ (S.takeWhile isD).getD j 0 ∧ (S.takeWhile isD).getD j 0 ≤ 57 := by
  have h : (S.takeWhile isD).getD j 0 ∈ S.takeWhile isD := by
    rw [List.getD_eq_getElem?_getD, List.getElem?_eq_getElem hj]
    exact List.getElem_mem hj
  have := List.all_eq_true.1 (List.all_takeWhile (p := isD) (l := S)) _ h
  simpa [isD] using this
theorem numC_take {D : List Int} {j : Nat} (h : j < D.length) : numC (D.take (j + 1)) = stepC (numC (D.take j)) (D.getD j 0) := by
  have := numC_next (S := D) (f := 0) (j := j) (by omega)
  simpa using this
theorem numC_in {S : List Int} (j : Nat) (hj : j ≤ (S.takeWhile isD).length) : 0 ≤ numC ((S.takeWhile isD).take j) ∧ numC ((S.takeWhile isD).take j) ≤ 1000000 := by
  have := numC_range (S := S.takeWhile isD) 0 j (fun i hi => by
    have := takeWhile_all (S := S) i (by omega)
    rw [Nat.zero_add]
    simp only [isD, decide_eq_true_eq]; exact this) (by omega)
  simpa using this

set_option maxRecDepth 20000 in
set_option maxHeartbeats 4000000 in
theorem first_some (ads : List Addr) (S : List Int) (hS : InB S) (hl : S.length ≤ 1000000) (w : World) (V : St ads w) (n : Int) (r : List Int) (hf : firstM S = some (n, r)) :
    Calls Tryd.prog 40 #[.string (strOfNums S)] w fun e w' => e = .returned (.tuple #[.int .i64 n, .string (strOfNums r)]) ∧ Kp w w' := by
  obtain ⟨rfl, rfl, hc0⟩ := firstM_some hf
  have HT := trim_any S hS w
  have hA := fun j hj => takeWhile_all (S := S) j hj
  have hN := fun j hj => numC_in (S := S) j hj
  obtain ⟨nn, hn⟩ : ∃ n : Int, (S.length : Int) = n := ⟨_, rfl⟩
  obtain ⟨mm, hm⟩ : ∃ n : Int, ((S.drop (S.takeWhile isD).length).length : Int) = n := ⟨_, rfl⟩
  have hc := fun w => cutD S nn mm hn hm w
  have b1 : 0 ≤ mm ∧ mm ≤ nn ∧ nn ≤ 1000000 := by rw [List.length_drop] at hm; omega
  have b2 : 0 ≤ nn - mm ∧ nn - mm ≤ 1000000 := by omega
  obtain ⟨sv, hsv⟩ : ∃ s, strOfNums S = s := ⟨_, rfl⟩
  obtain ⟨rv, hrv⟩ : ∃ s, strOfNums (S.drop (S.takeWhile isD).length) = s := ⟨_, rfl⟩
  obtain ⟨D, hD⟩ : ∃ D, S.takeWhile isD = D := ⟨_, rfl⟩
  have hsz : (sv.size : Int) = nn := by rw [← hsv, strOfNums_size, hn]
  have hrz : (rv.size : Int) = mm := by rw [← hrv, strOfNums_size, hm]
  have hDin := takeWhile_in hS
  have hdl := takeWhile_le isD S
  rw [hrv, hsv] at HT
  rw [hrv, hsv]
  rw [hsv, hD] at hc
  rw [hD] at hc0 hDin hA hN hdl ⊢
  have HT := Lib.hid HT
  have hpos : 0 < D.length := by
    rcases hc0 with rfl | ⟨h, _⟩
    · decide
    · exact len_pos h
  have HI := fun j hj jj hjj w => idxD hDin j hj jj hjj w
  have hi0 := fun w => HI 0 hpos 0 rfl w
  have hz : (0 : Int) < ((strOfNums D).size : Int) := by rw [strOfNums_size]; omega
  have hDz : (strOfNums D).size = D.length := strOfNums_size D
  obtain ⟨L, hL⟩ : ∃ L : Int, (D.length : Int) = L := ⟨_, rfl⟩
  have hT : ((D = [48]) ∨ (D ≠ [48] ∧ D.getD 0 0 ≠ 48)) := by
    by_cases e : D = [48]
    · exact .inl e
    · exact .inr ⟨e, (hc0.resolve_left e).2⟩
  obtain ⟨dv, hdv⟩ : ∃ s, strOfNums D = s := ⟨_, rfl⟩
  have hdz : (dv.size : Int) = L := by rw [← hdv, hDz, hL]
  have q48 : D = [48] → (dv.toList == [48]) = true := fun e => by rw [← hdv, e, l48]; rfl
  have q49 : D ≠ [48] → (dv.toList == [48]) = false := fun e => by
    have := str_ne hDin (show InB [48] by unfold InB; decide) e
    rwa [l48, hdv] at this
  have q0 : dv.toList.isEmpty = false := by
    have := str_ne hDin (show InB [] by unfold InB; decide) (List.length_pos_iff.1 hpos)
    rw [l0, hdv] at this
    simpa using this
  rw [hdv] at hc hi0 HI hz
  have HI := Lib.hid HI
  have HA := Lib.hid hA
  have HN := Lib.hid hN
  have HL := Lib.hid hL
  have lb : L ≤ 1000000 := by omega
  have CE := fun w1 (hk : Kp w w1) => kp_cell hk (V.cell 3 (by decide))
  obtain ⟨a3, ha3⟩ : ∃ a, ads[3]'(show 3 < ads.length by rw [V.len]; decide) = a := ⟨_, rfl⟩
  rw [ha3] at CE
  replace CE : ∀ w1, Kp w w1 → w1.cell? ⟨3, 0, none⟩ = some (snt a3) := CE
  have CE := Lib.hid CE
  clear hn hm hS hl hsv hrv hf V ha3 hD hc0 hDin hA hN hL hdv hDz hdl
  rcases hT with h48 | ⟨h48, hh⟩
  · have q1 : dv.toList = [48] := by simpa using q48 h48
    clear q48 q49 q0
    have HX := Lib.hid h48
    clear h48
    go_enter Tryd.func40, Tryd.ntmps40
    go_wp2_with (go_at_call 48; (with_reducible refine HT.out.mono ?_); rintro e w1 ⟨rfl, hk1⟩; have ce := CE.out _ hk1; have ce' : w1.drew.cell? ⟨3, 0, none⟩ = some (snt a3) := ce; have K1 := Lib.hid hk1; clear hk1)
    refine wp_region_held_drew (S := fun w' => Kp w1 w') (by kernel_rfl) ?_ (fun hHeld => ?_)
    · exact (Kp.refl w1).drew
    refine wpAnyH_take (i := 0) (v := ?_) rfl (by kernel_rfl) (by kernel_rfl) (by kernel_rfl) (fun _ _ _ h => h) (Or.inl ⟨by rfl, ?_⟩) (by assumption) ?_
    rotate_left
    · intro w hSw; go_simp; try with_reducible rfl
    go_simp
    refine wpAnyH_take (i := 1) (v := ?_) rfl (by kernel_rfl) (by kernel_rfl) (by kernel_rfl) (fun _ _ _ h => h) (Or.inl ⟨by rfl, ?_⟩) (by assumption) ?_
    rotate_left
    · intro w hSw; go_simp; try with_reducible rfl
    go_simp
    refine wpAnyH_take (i := 2) (v := ?_) rfl (by kernel_rfl) (by kernel_rfl) (by kernel_rfl) (fun _ _ _ h => h) (Or.inl ⟨by rfl, ?_⟩) (by assumption) ?_
    rotate_left
    · intro w hSw; go_simp; try with_reducible rfl
    go_simp
    refine wpAnyH_take (i := 3) (v := undef) rfl (by kernel_rfl) (by kernel_rfl) (by kernel_rfl) (fun _ _ _ h => h) (Or.inr ⟨by rfl, rfl⟩) (by assumption) ?_
    go_simp
    refine wpAnyH_take (i := 4) (v := undef) rfl (by kernel_rfl) (by kernel_rfl) (by kernel_rfl) (fun _ _ _ h => h) (Or.inr ⟨by rfl, rfl⟩) (by assumption) ?_
    go_simp
    refine wpAnyH_take (i := 5) (v := undef) rfl (by kernel_rfl) (by kernel_rfl) (by kernel_rfl) (fun _ _ _ h => h) (Or.inr ⟨by rfl, rfl⟩) (by assumption) ?_
    go_simp
    refine wpAnyH_take (i := 6) (v := undef) rfl (by kernel_rfl) (by kernel_rfl) (by kernel_rfl) (fun _ _ _ h => h) (Or.inr ⟨by rfl, rfl⟩) (by assumption) ?_
    go_simp
    refine wpAnyH_take (i := 7) (v := undef) rfl (by kernel_rfl) (by kernel_rfl) (by kernel_rfl) (fun _ _ _ h => h) (Or.inr ⟨by rfl, rfl⟩) (by assumption) ?_
    go_simp
    refine wpAnyH_take (i := 8) (v := undef) rfl (by kernel_rfl) (by kernel_rfl) (by kernel_rfl) (fun _ _ _ h => h) (Or.inr ⟨by rfl, rfl⟩) (by assumption) ?_
    go_simp
    refine wpAnyH_take (i := 9) (v := undef) rfl (by kernel_rfl) (by kernel_rfl) (by kernel_rfl) (fun _ _ _ h => h) (Or.inr ⟨by rfl, rfl⟩) (by assumption) ?_
    go_simp
    refine wpAnyH_take (i := 10) (v := ?_) rfl (by kernel_rfl) (by kernel_rfl) (by kernel_rfl) (fun _ _ _ h => h) (Or.inl ⟨by rfl, ?_⟩) (by assumption) ?_
    rotate_left
    · intro w hSw; go_simp; try with_reducible rfl
    go_simp
    refine wpAnyH_take (i := 11) (v := ?_) rfl (by kernel_rfl) (by kernel_rfl) (by kernel_rfl) (fun _ _ _ h => h) (Or.inl ⟨by rfl, ?_⟩) (by assumption) ?_
    rotate_left
    · intro w hSw; have ce := CE.out _ (Kp.trans K1.out hSw); go_simp; try with_reducible rfl
    go_simp
    refine wpAnyH_ready (rs := [12]) (by kernel_rfl) (by simp) ?_
    refine AllReadyH.cons rfl (fun K hK => ?_) AllReadyH.nil
    go_simp
    go_wp2_with (go_at_call 35; (with_reducible refine (idemand_t _ _).mono ?_); rintro e w' ⟨rfl, rfl⟩)
    refine hK.out _ _ ?_ (fun hHeld => ?_)
    · exact hHeld
    clear hK K
    refine wpAnyH_done (by kernel_rfl) ?_ _
    go_wp2
    go_loop [6, 32] (fun u i => ∃ j : Nat, j ≤ D.length ∧ i = .int .i64 j ∧ u = .int .i64 (numC (D.take j))) (fun _ i => D.length - (intOf i).toNat)
    case atStart => exact ⟨0, Nat.zero_le _, rfl, rfl⟩
    case round =>
      obtain ⟨j, hj, rfl, rfl⟩ := hrel
      have bu := HN.out j hj
      obtain ⟨jj, hjj⟩ : ∃ jj : Int, (j : Int) = jj := ⟨_, rfl⟩
      obtain ⟨uu, huu⟩ : ∃ uu, numC (D.take j) = uu := ⟨_, rfl⟩
      rw [huu] at bu
      rw [hjj, huu]
      have hLL := HL.out
      by_cases hlt : j < D.length
      · have hi := fun w => HI.out j hlt jj hjj w
        have ba := HA.out j hlt
        have hnx := numC_take hlt
        rw [huu] at hnx
        obtain ⟨c, hcc⟩ : ∃ c, D.getD j 0 = c := ⟨_, rfl⟩
        rw [hcc] at hi ba hnx
        have hjl : jj < L := by omega
        have hj0 : 0 ≤ jj := by omega
        have HJ := Lib.hid hjj
        have HNX := Lib.hid hnx
        have HLT := Lib.hid hlt
        clear hjj hnx hcc huu hlt hj hLL hi0 hz
        go_wp2
        have hj1 : (j : Int) = jj := HJ.out
        have hlt1 : j < D.length := HLT.out
        refine ⟨⟨j + 1, hlt1, ?_, ?_⟩, ?_⟩
        · rw [← hj1]; rfl
        · rw [HNX.out]
          unfold stepC
          congr 1
          split <;> omega
        · simp [intOf]; omega
      · have hjl : ¬ jj < L := by omega
        have he : j = D.length := by omega
        have hu : uu = numC D := by rw [← huu, he, List.take_length]
        clear hjj huu hlt hj hLL hi0 hz
        go_wp2
        go_ret2
        exact ⟨rfl, K1.out.drew⟩
  · have q1 := q49 h48
    have hx : (D.getD 0 0 != 48) = true := by simpa using hh
    obtain ⟨c0, hc0⟩ : ∃ c, D.getD 0 0 = c := ⟨_, rfl⟩
    rw [hc0] at hi0 hx
    clear q48 q49 h48 hh hc0
    go_enter Tryd.func40, Tryd.ntmps40
    go_wp2_with (go_at_call 48; (with_reducible refine HT.out.mono ?_); rintro e w1 ⟨rfl, hk1⟩; have ce := CE.out _ hk1; have ce' : w1.drew.cell? ⟨3, 0, none⟩ = some (snt a3) := ce; have K1 := Lib.hid hk1; clear hk1)
    go_still_tail 12, (by kernel_rfl)
    change wpList _ _ _ _ _ w1.drew
    go_wp2_with (go_at_call 35; (with_reducible refine (idemand_t _ _).mono ?_); rintro e w' ⟨rfl, rfl⟩)
    go_loop [6, 32] (fun u i => ∃ j : Nat, j ≤ D.length ∧ i = .int .i64 j ∧ u = .int .i64 (numC (D.take j))) (fun _ i => D.length - (intOf i).toNat)
    case atStart => exact ⟨0, Nat.zero_le _, rfl, rfl⟩
    case round =>
      obtain ⟨j, hj, rfl, rfl⟩ := hrel
      have bu := HN.out j hj
      obtain ⟨jj, hjj⟩ : ∃ jj : Int, (j : Int) = jj := ⟨_, rfl⟩
      obtain ⟨uu, huu⟩ : ∃ uu, numC (D.take j) = uu := ⟨_, rfl⟩
      rw [huu] at bu
      rw [hjj, huu]
      have hLL := HL.out
      by_cases hlt : j < D.length
      · have hi := fun w => HI.out j hlt jj hjj w
        have ba := HA.out j hlt
        have hnx := numC_take hlt
        rw [huu] at hnx
        obtain ⟨c, hcc⟩ : ∃ c, D.getD j 0 = c := ⟨_, rfl⟩
        rw [hcc] at hi ba hnx
        have hjl : jj < L := by omega
        have hj0 : 0 ≤ jj := by omega
        have HJ := Lib.hid hjj
        have HNX := Lib.hid hnx
        have HLT := Lib.hid hlt
        clear hjj hnx hcc huu hlt hj hLL hi0 hz
        go_wp2
        have hj1 : (j : Int) = jj := HJ.out
        have hlt1 : j < D.length := HLT.out
        refine ⟨⟨j + 1, hlt1, ?_, ?_⟩, ?_⟩
        · rw [← hj1]; rfl
        · rw [HNX.out]
          unfold stepC
          congr 1
          split <;> omega
        · simp [intOf]; omega
      · have hjl : ¬ jj < L := by omega
        have he : j = D.length := by omega
        have hu : uu = numC D := by rw [← huu, he, List.take_length]
        clear hjj huu hlt hj hLL hi0 hz
        go_wp2
        go_ret2
        exact ⟨rfl, K1.out.drew⟩
end Go.Proofs.YtjilfkfhnbhjiaaDoor
