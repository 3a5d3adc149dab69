/-
  A TEXT WRITTEN PLACE BY PLACE (own work): ids.write, its closure.
-/
import Derived.Test.YtldamfpoemgkpaaDoorFirI
import Derived.Test.YtldamfpoemgkpaaDoorPlaI
import Derived.Deep.RegionHeld3
namespace Go.Proofs.YtldamfpoemgkpaaDoor
open Go.RowKit Go.ChangeShapes Go.WideShapes

/-- the text of the first k places; have they one? -/
def wrU (ps : List (Int × Int)) (ns : List Int) : Nat → List Int
  | 0 => []
  | k + 1 => wrU ps ns k ++ ([(ps.getD k (0, 0)).1] ++ dec (ns.getD k 0).toNat)
def okU (ps : List (Int × Int)) (ns : List Int) : Nat → Bool
  | 0 => true
  | k + 1 => okU ps ns k && decide (0 ≤ ns.getD k 0 ∧ ns.getD k 0 < (ps.getD k (0, 0)).2)
theorem wrU_len (ps : List (Int × Int)) (ns : List Int) : ∀ k, (wrU ps ns k).length ≤ 9 * k
  | 0 => Nat.le_refl _
  | k + 1 => by
    have := wrU_len ps ns k
    have h := dec_len (ns.getD k 0).toNat
    simp only [wrU, List.length_append, List.length_cons, List.length_nil]
    omega
theorem okU_no {ps : List (Int × Int)} {ns : List Int} : ∀ (k d : Nat), okU ps ns k = false → okU ps ns (k + d) = false
  | _, 0, h => h
  | k, d + 1, h => by
    rw [← Nat.add_assoc, okU, okU_no k d h]
    rfl

set_option maxRecDepth 20000 in
set_option maxHeartbeats 4000000 in
theorem write1_any (ads : List Addr) (h0 : 0 < ads.length) (ps : List (Int × Int)) (ns : List Int) (m : Nat) (hm : ps.length = m) (hm2 : ns.length = m) (hm3 : m ≤ 3) (hb : ∀ j, j < m → (ps.getD j (0, 0)).2 ≤ 1000000)
    (B0 B1 : Nat) (gp cp gn cn : Nat) (w : World) (V : St ads w) (T : Tab w) (c0 : w.cell? ⟨B0, 0, none⟩ = some (.slice (some ⟨gp, 0, none⟩) m cp)) (c1 : w.cell? ⟨B1, 0, none⟩ = some (.slice (some ⟨gn, 0, none⟩) m cn))
    (hp : ∀ j, j < m → w.cell? ⟨gp, 2 * j, none⟩ = some (.string (strOfNums [(ps.getD j (0, 0)).1])) ∧ w.cell? ⟨gp, 2 * j + 1, none⟩ = some (.int .i64 (ps.getD j (0, 0)).2))
    (hn : ∀ j, j < m → w.cell? ⟨gn, j, none⟩ = some (.int .i64 (ns.getD j 0))) :
    Calls Tryd.prog 61 #[.pointer (some ⟨B0, 0, none⟩), .pointer (some ⟨B1, 0, none⟩)] w fun e w' =>
      ((okU ps ns m = true ∧ e = .returned (.string (strOfNums (wrU ps ns m)))) ∨ (okU ps ns m = false ∧ e = .panicked [{ v := snt (ads[0]'h0), recovered := false }])) ∧ Kp w w' := by
  have CE := fun w1 (hk : Kp w w1) => kp_cell hk (V.cell 0 (by decide))
  obtain ⟨a0, ha0⟩ : ∃ a, ads[0]'h0 = a := ⟨_, rfl⟩
  rw [ha0] at CE ⊢
  replace CE : ∀ w1, Kp w w1 → w1.cell? ⟨0, 0, none⟩ = some (snt a0) := CE
  have CE := Lib.hid CE
  have HT := Lib.hid T
  have HP := Lib.hid hp
  have HN := Lib.hid hn
  have HB := Lib.hid hb
  have C0 := Lib.hid c0
  have C1 := Lib.hid c1
  obtain ⟨L, hL⟩ : ∃ L : Int, (m : Int) = L := ⟨_, rfl⟩
  have HL := Lib.hid hL
  have HM := Lib.hid hm3
  have l3 : L ≤ 3 := by omega
  clear V T hp hn hb ha0 hm hm2 c1 hm3
  go_enter Tryd.func61, Tryd.ntmps61
  go_wp2
  go_loopw [3, 8] (fun u i wr => ∃ j : Nat, j ≤ m ∧ i = .int .i64 j ∧ u = .string (strOfNums (wrU ps ns j)) ∧ okU ps ns j = true ∧ Kp w wr) (fun _ i _ => m - (intOf i).toNat)
  case atStart => exact ⟨0, Nat.zero_le _, rfl, rfl, rfl, Kp.refl _⟩
  case round =>
    obtain ⟨j, hj, rfl, rfl, hok, hk⟩ := hrel
    have KR := Lib.hid hk
    have c0 := kp_cell hk C0.out
    have c1 := kp_cell hk C1.out
    obtain ⟨jj, hjj⟩ : ∃ jj : Int, (j : Int) = jj := ⟨_, rfl⟩
    rw [hjj]
    have hLL := HL.out
    by_cases hlt : j < m
    · have hjl : jj < L := by omega
      have hj0 : 0 ≤ jj := by omega
      obtain ⟨hp1, hp2⟩ := HP.out j hlt
      have hp1 := kp_cell hk hp1
      have hp2 := kp_cell hk hp2
      have hn1 := kp_cell hk (HN.out j hlt)
      have hb1 := HB.out j hlt
      have htn : jj.toNat = j := by omega
      obtain ⟨mk, hmk⟩ : ∃ s, strOfNums [(ps.getD j (0, 0)).1] = s := ⟨_, rfl⟩
      obtain ⟨bb, hbb⟩ : ∃ s, (ps.getD j (0, 0)).2 = s := ⟨_, rfl⟩
      obtain ⟨nv, hnv⟩ : ∃ s, ns.getD j 0 = s := ⟨_, rfl⟩
      obtain ⟨uu, huu⟩ : ∃ s, strOfNums (wrU ps ns j) = s := ⟨_, rfl⟩
      rw [hmk] at hp1
      rw [hbb] at hp2 hb1
      rw [hnv] at hn1
      rw [huu]
      replace hp1 : wr.cell? ⟨gp, jj.toNat * 2, none⟩ = some (.string mk) := by rw [htn, Nat.mul_comm]; exact hp1
      replace hp2 : wr.cell? ⟨gp, jj.toNat * 2 + 1, none⟩ = some (.int .i64 bb) := by rw [htn, Nat.mul_comm]; exact hp2
      replace hn1 : wr.cell? ⟨gn, jj.toNat, none⟩ = some (.int .i64 nv) := by rw [htn]; exact hn1
      have HJ := Lib.hid hjj
      have HK := Lib.hid hmk
      have HBB := Lib.hid hbb
      have HNV := Lib.hid hnv
      have HUU := Lib.hid huu
      have HOK := Lib.hid hok
      have HLT := Lib.hid hlt
      have HTN := Lib.hid htn
      clear hjj hmk hbb hnv huu hok hlt hk hj hLL htn
      go_wp2
      have k2 := kp_alloc wr (.cells #[.string mk, .int .i64 bb] 95)
      have hr2 := (MapKept.heap_alloc wr (.cells #[.string mk, .int .i64 bb] 95)).1
      obtain ⟨w2, hw2⟩ : ∃ w2, wr.alloc (.cells #[.string mk, .int .i64 bb] 95) = w2 := ⟨_, rfl⟩
      obtain ⟨p5, hp5⟩ : ∃ p, wr.heap.size = p := ⟨_, rfl⟩
      rw [hw2] at k2 hr2 ⊢
      rw [hp5] at hr2 ⊢
      have c12 := kp_cell k2 c1
      have n12 := kp_cell k2 hn1
      have f0 : w2.cell? ⟨p5, 0, none⟩ = some (.string mk) := by unfold World.cell?; dsimp only; rw [hr2]; rfl
      have f1 : w2.cell? ⟨p5, 1, none⟩ = some (.int .i64 bb) := by unfold World.cell?; dsimp only; rw [hr2]; rfl
      have ce := CE.out _ (Kp.trans KR.out k2)
      have c12' : w2.drew.cell? ⟨B1, 0, none⟩ = some (.slice (some ⟨gn, 0, none⟩) m cn) := c12
      have n12' : w2.drew.cell? ⟨gn, jj.toNat, none⟩ = some (.int .i64 nv) := n12
      have f0' : w2.drew.cell? ⟨p5, 0, none⟩ = some (.string mk) := f0
      have f1' : w2.drew.cell? ⟨p5, 1, none⟩ = some (.int .i64 bb) := f1
      have ce' : w2.drew.cell? ⟨0, 0, none⟩ = some (snt a0) := ce
      have K2 := Lib.hid (Kp.trans KR.out k2)
      clear hr2 hw2 hp5 k2 hp1 hp2 c0 c1 hn1
      by_cases hg : 0 ≤ nv ∧ nv < bb
      · have d1 : decide (0 ≤ nv) = true := decide_eq_true hg.1
        have d2 : decide (nv < bb) = true := decide_eq_true hg.2
        have HG := Lib.hid hg
        have g1 := hg.1
        have g2 := hg.2
        clear hg
        go_still_tail 15, (by kernel_rfl)
        change wpList _ _ _ _ _ w2.drew
        go_wp2_with (go_at_call 62; (with_reducible refine (idemand_t _ _).mono ?_); rintro e w' ⟨rfl, rfl⟩)
        obtain ⟨w3, hw3⟩ : ∃ w3, w2.drew = w3 := ⟨_, rfl⟩
        have K3 := Lib.hid (K2.out.drew)
        rw [hw3] at K3 c12' n12' f0' f1' ⊢
        clear c12 n12 f0 f1 ce ce' hw3 f1'
        have hd8 := dec_len nv.toNat
        have hmk1 : mk.size = 1 := by rw [← HK.out, strOfNums_size]; rfl
        have hu9 : uu.size ≤ 27 := by
          have h1 := wrU_len ps ns j
          have h2 := HM.out
          have h3 := HLT.out
          rw [← HUU.out, strOfNums_size]; omega
        have HI := fun w1 (hk : Kp w3 w1) => itoa_any nv.toNat (by omega) nv (by omega) w1 (HT.out.kp (Kp.trans K3.out hk))
        obtain ⟨dd, hdd⟩ : ∃ s, strOfNums (dec nv.toNat) = s := ⟨_, rfl⟩
        rw [hdd] at HI
        have HI := Lib.hid HI
        have hds : dd.size ≤ 8 := by rw [← hdd, strOfNums_size]; exact hd8
        obtain ⟨t1, ht1⟩ : ∃ s, mk ++ dd = s := ⟨_, rfl⟩
        obtain ⟨t2, ht2⟩ : ∃ s, uu ++ t1 = s := ⟨_, rfl⟩
        have HT2 := Lib.hid (show strOfNums (wrU ps ns (j + 1)) = t2 by
          rw [← ht2, ← ht1, ← HUU.out, ← HK.out, ← hdd, str_append, str_append, wrU, HNV.out])
        have ht1s : t1.size = mk.size + dd.size := by rw [← ht1, ByteArray.size_append]
        have HS1 := Lib.hid (show ¬ 9223372036854775807 < mk.size + dd.size by omega)
        have HS2 := Lib.hid (show ¬ 9223372036854775807 < uu.size + t1.size by omega)
        have HC1 := Lib.hid ht1
        have HC2 := Lib.hid ht2
        have HG9 := Lib.hid (show okU ps ns (j + 1) = true by rw [okU, HOK.out, HNV.out, HBB.out, decide_eq_true HG.out]; rfl)
        clear hd8 hmk1 hu9 hdd hds ht1 ht2 ht1s
        refine wp_region_held_drew (S := fun w' => Kp w3 w') (by kernel_rfl) ?_ (fun hHeld => ?_)
        · exact (Kp.refl w3).drew
        refine wpAnyH_take (i := 0) (v := ?_) rfl (by kernel_rfl) (by kernel_rfl) (by kernel_rfl) (fun _ _ _ h => h) (Or.inl ⟨by rfl, ?_⟩) (by assumption) ?_
        rotate_left
        · intro w hSw; go_simp; try with_reducible rfl
        go_simp
        refine wpAnyH_take (i := 1) (v := ?_) rfl (by kernel_rfl) (by kernel_rfl) (by kernel_rfl) (fun _ _ _ h => h) (Or.inl ⟨by rfl, ?_⟩) (by assumption) ?_
        rotate_left
        · intro w hSw; go_simp; try with_reducible rfl
        go_simp
        refine wpAnyH_take (i := 2) (v := ?_) rfl (by kernel_rfl) (by kernel_rfl) (by kernel_rfl) (fun _ _ _ h => h) (Or.inl ⟨by rfl, ?_⟩) (by assumption) ?_
        rotate_left
        · intro w hSw; have q := kp_cell hSw f0'; go_simp; try with_reducible rfl
        go_simp
        refine wpAnyH_take (i := 3) (v := ?_) rfl (by kernel_rfl) (by kernel_rfl) (by kernel_rfl) (fun _ _ _ h => h) (Or.inl ⟨by rfl, ?_⟩) (by assumption) ?_
        rotate_left
        · intro w hSw; have q := kp_cell hSw c12'; go_simp; try with_reducible rfl
        go_simp
        refine wpAnyH_take (i := 4) (v := ?_) rfl (by kernel_rfl) (by kernel_rfl) (by kernel_rfl) (fun _ _ _ h => h) (Or.inl ⟨by rfl, ?_⟩) (by assumption) ?_
        rotate_left
        · intro w hSw; go_simp; try with_reducible rfl
        go_simp
        refine wpAnyH_take (i := 5) (v := ?_) rfl (by kernel_rfl) (by kernel_rfl) (by kernel_rfl) (fun _ _ _ h => h) (Or.inl ⟨by rfl, ?_⟩) (by assumption) ?_
        rotate_left
        · intro w hSw; go_simp; try with_reducible rfl
        go_simp
        refine wpAnyH_take (i := 6) (v := ?_) rfl (by kernel_rfl) (by kernel_rfl) (by kernel_rfl) (fun _ _ _ h => h) (Or.inl ⟨by rfl, ?_⟩) (by assumption) ?_
        rotate_left
        · intro w hSw; have q := kp_cell hSw n12'; go_simp; try with_reducible rfl
        go_simp
        refine wpAnyH_ready (rs := [7]) (by kernel_rfl) (by simp) ?_
        refine AllReadyH.cons rfl (fun K hK => ?_) AllReadyH.nil
        go_simp
        go_wp2_with (go_at_call 63; (with_reducible refine (HI.out _ hHeld).mono ?_); rintro e w4 ⟨rfl, hk4⟩; have K4 := Lib.hid (Kp.trans hHeld hk4); clear hk4)
        refine hK.out _ _ ?_ (fun hHeld => ?_)
        · exact K4.out
        clear hK K
        refine wpAnyH_take (i := 8) (v := ?_) rfl (by kernel_rfl) (by kernel_rfl) (by kernel_rfl) (fun _ _ _ h => h) (Or.inl ⟨by rfl, ?_⟩) (by assumption) ?_
        rotate_left
        · intro w hSw; go_simp; rw [if_neg HS1.out, HC1.out]
        go_simp
        refine wpAnyH_take (i := 9) (v := ?_) rfl (by kernel_rfl) (by kernel_rfl) (by kernel_rfl) (fun _ _ _ h => h) (Or.inl ⟨by rfl, ?_⟩) (by assumption) ?_
        rotate_left
        · intro w hSw; go_simp; rw [if_neg HS2.out, HC2.out]
        go_simp
        refine wpAnyH_take (i := 10) (v := ?_) rfl (by kernel_rfl) (by kernel_rfl) (by kernel_rfl) (fun _ _ _ h => h) (Or.inl ⟨by rfl, ?_⟩) (by assumption) ?_
        rotate_left
        · intro w hSw; go_simp; try with_reducible rfl
        go_simp
        refine wpAnyH_done (by kernel_rfl) ?_ _
        go_wp2
        have hj1 : (j : Int) = jj := HJ.out
        have hlt1 : j < m := HLT.out
        refine ⟨⟨j + 1, hlt1, ?_, ?_, HG9.out, Kp.trans K3.out hHeld⟩, ?_⟩
        · rw [← hj1]; rfl
        · rw [HT2.out]
        · simp [intOf]; omega
      · have hno : okU ps ns m = false := by
          have e1 : okU ps ns (j + 1) = false := by
            rw [okU, HNV.out, HBB.out, decide_eq_false hg, Bool.and_false]
          have hlt1 : j < m := HLT.out
          have := okU_no (j + 1) (m - (j + 1)) e1
          rwa [show j + 1 + (m - (j + 1)) = m by omega] at this
        have HNO := Lib.hid hno
        clear hno
        by_cases g1 : 0 ≤ nv
        · have g2 : ¬ nv < bb := fun q => hg ⟨g1, q⟩
          have d1 : decide (0 ≤ nv) = true := decide_eq_true g1
          have d2 : decide (nv < bb) = false := decide_eq_false g2
          clear hg
          go_still_tail 15, (by kernel_rfl)
          change wpList _ _ _ _ _ w2.drew
          go_wp2_with (go_at_call 62; (with_reducible refine (idemand_f _ _).mono ?_); rintro e w' ⟨rfl, rfl⟩)
          exact ⟨rfl, .inr ⟨HNO.out, rfl⟩, K2.out.drew⟩
        · have d1 : decide (0 ≤ nv) = false := decide_eq_false g1
          clear hg
          refine wp_region_held_drew (S := fun w' => Kp w2 w') (by kernel_rfl) ?_ (fun hHeld => ?_)
          · exact (Kp.refl w2).drew
          refine wpAnyH_take (i := 0) (v := ?_) rfl (by kernel_rfl) (by kernel_rfl) (by kernel_rfl) (fun _ _ _ h => h) (Or.inl ⟨by rfl, ?_⟩) (by assumption) ?_
          rotate_left
          · intro w hSw; have q := kp_cell hSw c12; go_simp; try with_reducible rfl
          go_simp
          refine wpAnyH_take (i := 1) (v := ?_) rfl (by kernel_rfl) (by kernel_rfl) (by kernel_rfl) (fun _ _ _ h => h) (Or.inl ⟨by rfl, ?_⟩) (by assumption) ?_
          rotate_left
          · intro w hSw; go_simp; try with_reducible rfl
          go_simp
          refine wpAnyH_take (i := 2) (v := ?_) rfl (by kernel_rfl) (by kernel_rfl) (by kernel_rfl) (fun _ _ _ h => h) (Or.inl ⟨by rfl, ?_⟩) (by assumption) ?_
          rotate_left
          · intro w hSw; go_simp; try with_reducible rfl
          go_simp
          refine wpAnyH_take (i := 3) (v := ?_) rfl (by kernel_rfl) (by kernel_rfl) (by kernel_rfl) (fun _ _ _ h => h) (Or.inl ⟨by rfl, ?_⟩) (by assumption) ?_
          rotate_left
          · intro w hSw; have q := kp_cell hSw n12; go_simp; try with_reducible rfl
          go_simp
          refine wpAnyH_take (i := 4) (v := ?_) rfl (by kernel_rfl) (by kernel_rfl) (by kernel_rfl) (fun _ _ _ h => h) (Or.inl ⟨by rfl, ?_⟩) (by assumption) ?_
          rotate_left
          · intro w hSw; go_simp; try with_reducible rfl
          go_simp
          refine wpAnyH_take (i := 5) (v := ?_) rfl (by kernel_rfl) (by kernel_rfl) (by kernel_rfl) (fun _ _ _ h => h) (Or.inl ⟨by rfl, ?_⟩) (by assumption) ?_
          rotate_left
          · intro w hSw; go_simp; try with_reducible rfl
          go_simp
          refine wpAnyH_take (i := 6) (v := undef) rfl (by kernel_rfl) (by kernel_rfl) (by kernel_rfl) (fun _ _ _ h => h) (Or.inr ⟨by rfl, rfl⟩) (by assumption) ?_
          go_simp
          refine wpAnyH_take (i := 7) (v := undef) rfl (by kernel_rfl) (by kernel_rfl) (by kernel_rfl) (fun _ _ _ h => h) (Or.inr ⟨by rfl, rfl⟩) (by assumption) ?_
          go_simp
          refine wpAnyH_take (i := 8) (v := undef) rfl (by kernel_rfl) (by kernel_rfl) (by kernel_rfl) (fun _ _ _ h => h) (Or.inr ⟨by rfl, rfl⟩) (by assumption) ?_
          go_simp
          refine wpAnyH_take (i := 9) (v := undef) rfl (by kernel_rfl) (by kernel_rfl) (by kernel_rfl) (fun _ _ _ h => h) (Or.inr ⟨by rfl, rfl⟩) (by assumption) ?_
          go_simp
          refine wpAnyH_take (i := 10) (v := undef) rfl (by kernel_rfl) (by kernel_rfl) (by kernel_rfl) (fun _ _ _ h => h) (Or.inr ⟨by rfl, rfl⟩) (by assumption) ?_
          go_simp
          refine wpAnyH_take (i := 11) (v := undef) rfl (by kernel_rfl) (by kernel_rfl) (by kernel_rfl) (fun _ _ _ h => h) (Or.inr ⟨by rfl, rfl⟩) (by assumption) ?_
          go_simp
          refine wpAnyH_take (i := 12) (v := undef) rfl (by kernel_rfl) (by kernel_rfl) (by kernel_rfl) (fun _ _ _ h => h) (Or.inr ⟨by rfl, rfl⟩) (by assumption) ?_
          go_simp
          refine wpAnyH_take (i := 13) (v := ?_) rfl (by kernel_rfl) (by kernel_rfl) (by kernel_rfl) (fun _ _ _ h => h) (Or.inl ⟨by rfl, ?_⟩) (by assumption) ?_
          rotate_left
          · intro w hSw; go_simp; try with_reducible rfl
          go_simp
          refine wpAnyH_take (i := 14) (v := ?_) rfl (by kernel_rfl) (by kernel_rfl) (by kernel_rfl) (fun _ _ _ h => h) (Or.inl ⟨by rfl, ?_⟩) (by assumption) ?_
          rotate_left
          · intro w hSw; have q := CE.out _ (Kp.trans K2.out hSw); go_simp; try with_reducible rfl
          go_simp
          refine wpAnyH_ready (rs := [15]) (by kernel_rfl) (by simp) ?_
          refine AllReadyH.cons rfl (fun K hK => ?_) AllReadyH.nil
          go_simp
          go_wp2_with (go_at_call 62; (with_reducible refine (idemand_f _ _).mono ?_); rintro e w' ⟨rfl, rfl⟩)
          exact ⟨rfl, .inr ⟨HNO.out, rfl⟩, Kp.trans K2.out hHeld⟩
    · have hjm : j = m := by omega
      have hjl : ¬ jj < L := by omega
      subst hjm
      have HOK := Lib.hid hok
      clear hjj hlt hk hj hok c0 c1 hLL
      go_wp2
      go_ret
      exact ⟨.inl ⟨HOK.out, rfl⟩, KR.out⟩
end Go.Proofs.YtldamfpoemgkpaaDoor
