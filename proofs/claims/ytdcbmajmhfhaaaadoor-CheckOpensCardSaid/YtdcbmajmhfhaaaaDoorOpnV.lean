/-
  CheckOpens' WALKS (own work).
-/
import Derived.Test.YtdcbmajmhfhaaaaDoorSpoV
import Derived.Test.YtdcbmajmhfhaaaaDoorNumB
import Derived.Deep.RegionHeld3
namespace Go.Proofs.YtdcbmajmhfhaaaaDoor
open Go.RowKit Go.ChangeShapes Go.WideShapes

theorem str_append (xs ys : List Int) : strOfNums xs ++ strOfNums ys = strOfNums (xs ++ ys) := by
  apply ByteArray.ext
  apply Array.ext'
  rw [ByteArray.data_append, Array.toList_append, strOfNums_data, strOfNums_data, strOfNums_data, List.map_append]
theorem str_size (xs : List Int) : (strOfNums xs).size = xs.length := by
  have h := congrArg List.length (strOfNums_data xs)
  simpa using h

theorem opn_long (a a2 : Option Addr) (n cap m cap2 : Nat) (hn : 500 < n ∨ 500 < m) (w : World) (ht : Tb w) :
    Calls Tryd.prog 4 #[.slice a n cap, .slice a2 m cap2] w fun e w' => e = .returned (.bool true) ∧ Kp w w' := by
  have HA := Lib.hid (alive_any w ht)
  obtain ⟨ll, hll⟩ : ∃ ll : Int, (n : Int) = ll := ⟨_, rfl⟩
  obtain ⟨mm, hmm⟩ : ∃ ll : Int, (m : Int) = ll := ⟨_, rfl⟩
  clear ht
  by_cases h : ll > 500
  · go_enter Tryd.func4, Tryd.ntmps4
    go_wp2_with (go_at_call 8; (with_reducible refine HA.out.mono ?_); rintro e w1 ⟨rfl, hw1⟩; have K1 := Lib.hid hw1; clear hw1)
    go_ret
    exact ⟨rfl, K1.out⟩
  · have h2 : mm > 500 := by omega
    go_enter Tryd.func4, Tryd.ntmps4
    go_wp2_with (go_at_call 8; (with_reducible refine HA.out.mono ?_); rintro e w1 ⟨rfl, hw1⟩; have K1 := Lib.hid hw1; clear hw1)
    go_ret
    exact ⟨rfl, K1.out⟩

set_option maxRecDepth 100000 in
set_option maxHeartbeats 2000000 in
theorem opn_short (ads : List Addr) (a : Option Addr) (n c : Nat) (bs : List Int) (hn : bs.length = n) (hl : n ≤ 500) (hb : InB bs) (a2 : Option Addr) (m c2 : Nat) (rs : List Int) (hm : rs.length = m) (hml : m ≤ 500) (_hmc : m ≤ c2) (_hrb : InB rs) (w : World) (V : St ads w) (ht : Tb w) (hs : SlB (.slice a n c) bs w) (_hr : SlB (.slice a2 m c2) rs w) (hc : m < 4) :
    Calls Tryd.prog 4 #[.slice a n c, .slice a2 m c2] w fun e w' => e = .returned (.bool true) ∧ Kp w w' := by
  have HA := Lib.hid (alive_any w ht)
  have h4 : 4 < ads.length := by rw [V.len]; decide
  have h1 : 1 < ads.length := by omega
  obtain ⟨nn, hnn⟩ : ∃ nn : Int, (n : Int) = nn := ⟨_, rfl⟩
  obtain ⟨mm, hmm⟩ : ∃ nn : Int, (m : Int) = nn := ⟨_, rfl⟩
  have hg : ¬ nn > 500 := by omega
  have hg2 : ¬ mm > 500 := by omega
  have m0 : 0 ≤ mm := by omega
  have HI := Lib.hid (fun w1 (hk : Kp w w1) => numBytes_any a c bs n hn (by omega) w1 (hs.kp hk))
  have HS := Lib.hid (fun w1 (hk : Kp w w1) g (hm : Marked g (n + 6) bs w1) => seal_any (some ⟨g, 0, none⟩) n (n + 6) bs hn (by omega) hb w1 (ht.kp hk) (by have h := hm.sl; rw [hn] at h; exact h))
  have hL : (bs ++ four (crc bs)).length = n + 4 := by rw [List.length_append, hn]; rfl
  have HO := fun w1 (hk : Kp w w1) g cap (hcap : n + 4 ≤ cap) (q : SlB (.slice (some ⟨g, 0, none⟩) (n + 4) cap) (bs ++ four (crc bs)) w1) => open_ok ads h4 (some ⟨g, 0, none⟩) (n + 4) cap n (bs ++ four (crc bs)) hL rfl (by omega) hcap (seal_in hb) w1 (V.below hk) (ht.kp hk) q (by rw [List.take_left' hn, List.drop_left' hn])
  rw [List.take_left' hn] at HO
  have HO := Lib.hid HO
  have HRS := fun w1 (hk : Kp w w1) => rsum_any a c bs n hn (by omega) hb w1 (hs.kp hk)
  have HRF := fun w1 => four_any (crc bs) (crc_lt hb) w1
  obtain ⟨x, hx⟩ : ∃ x : Int, ((crc bs : Nat) : Int) = x := ⟨_, rfl⟩
  simp only [hx] at HRS HRF
  have HRS := Lib.hid HRS
  have HRF := Lib.hid HRF
  have HKE := fun w1 g (hk : Kp w w1) (hm : Marked g (n + 6) bs w1) => numKept_any g (.slice a n c) bs n hn (by omega) w1 hm (hs.kp hk)
  obtain ⟨ss, hss⟩ : ∃ ss, strOfNums bs = ss := ⟨_, rfl⟩
  obtain ⟨tt, htt⟩ : ∃ ss, strOfNums (four (crc bs)) = ss := ⟨_, rfl⟩
  obtain ⟨uu, huu⟩ : ∃ ss, strOfNums (bs ++ four (crc bs)) = ss := ⟨_, rfl⟩
  have HCAT := Lib.hid (show ss ++ tt = uu by rw [← hss, ← htt, ← huu]; exact str_append _ _)
  have HSUM := Lib.hid (show ¬ 9223372036854775807 < ss.size + tt.size by rw [← hss, ← htt, str_size, str_size, hn, four_len]; omega)
  have HSS := Lib.hid hss
  have HTT := Lib.hid htt
  have HUU := Lib.hid huu
  have HB := Lib.hid hs
  have HKE0 := Lib.hid HKE
  have qs : (ss.toList != ss.toList) = false := by simp
  have qu : (uu.toList != uu.toList) = false := by simp
  have HO2 := Lib.hid (fun w1 (hk : Kp w w1) => open_short ads h1 a2 m c2 hc w1 (V.below hk))
  have HNUM := Lib.hid (fun w1 (hk : Kp w w1) => num_err ads w1 (V.below hk) 1 (by decide) h1)
  have e5 : (((1 : Nat) : Int) + 1) = 2 := rfl
  rw [e5] at HNUM
  obtain ⟨e4, he4⟩ : ∃ e, ads[1] = e := ⟨_, rfl⟩
  simp only [he4] at HO2 HNUM
  have hm4 : mm - 4 < 0 := by omega
  clear ht V hs _hr hb hn hL hx HKE hss htt huu
  go_enter Tryd.func4, Tryd.ntmps4
  go_wp2_with (first | (go_at_call 8; (with_reducible refine HA.out.mono ?_); rintro e w1 ⟨rfl, hw1⟩; have K1 := Lib.hid hw1; clear hw1) | (go_at_call 12; (with_reducible refine (HI.out _ K1.out).mono ?_); rintro e w2 ⟨rfl, hM, hk2⟩; have K2 := Lib.hid (Kp.trans K1.out hk2); have M2 := Lib.hid hM; clear hM hk2) | (go_at_call 13; (with_reducible refine (HS.out _ K2.out _ M2.out).mono ?_); rintro e w3 ⟨v3, rfl, ho3, hk3⟩; have K3 := Lib.hid (Kp.trans K2.out hk3); have M3 := Lib.hid (M2.out.kp hk3); obtain ⟨g, cap, rfl, hcap, hgb⟩ := own_g ho3 (by omega); have O3 := Lib.hid (own_slb ho3); have CP := Lib.hid hcap; clear ho3 hk3 hgb hcap) | (go_at_call 14; (with_reducible refine (HO.out _ K3.out _ _ CP.out O3.out).mono ?_); rintro e w4 ⟨v4, rfl, ho4, hk4⟩; have K4 := Lib.hid (Kp.trans K3.out hk4); have S4s := Lib.hid (O3.out.kp hk4); have S4v := Lib.hid (own_slb ho4); have HKE := Lib.hid (fun w5 (hk : Kp w4 w5) => HKE0.out w5 _ (Kp.trans K4.out hk) (M3.out.kp (Kp.trans hk4 hk))); clear ho4 hk4))
  refine wp_region_held_drew (S := fun w' => Kp w4 w') (by kernel_rfl) ?_ (fun hHeld => ?_)
  · exact (Kp.refl w4).drew
  refine wpAnyH_take (i := 0) (v := ?_) rfl (by kernel_rfl) (by kernel_rfl) (by kernel_rfl) (fun _ _ _ h => h) (Or.inl ⟨by rfl, ?_⟩) (by assumption) ?_
  rotate_left
  · intro w hSw; go_simp; try with_reducible rfl
  go_simp
  refine wpAnyH_take (i := 2) (v := ?_) rfl (by kernel_rfl) (by kernel_rfl) (by kernel_rfl) (fun _ _ _ h => h) (Or.inl ⟨by rfl, ?_⟩) (by assumption) ?_
  rotate_left
  · intro w hSw; go_simp; try with_reducible rfl
  go_simp
  refine wpAnyH_take (i := 4) (v := ?_) rfl (by kernel_rfl) (by kernel_rfl) (by kernel_rfl) (fun _ _ _ h => h) (Or.inl ⟨by rfl, ?_⟩) (by assumption) ?_
  rotate_left
  · intro w hSw; go_simp; try with_reducible rfl
  go_simp
  refine wpAnyH_take (i := 1) (v := ?_) rfl (by kernel_rfl) (by kernel_rfl) (by kernel_rfl) (fun _ _ _ h => h) (Or.inl ⟨by rfl, ?_⟩) (by assumption) ?_
  rotate_left
  · intro w hSw; have cv := conv_slb (S4s.out.kp hSw); rw [HUU.out] at cv; go_simp; try with_reducible rfl
  go_simp
  refine wpAnyH_take (i := 3) (v := ?_) rfl (by kernel_rfl) (by kernel_rfl) (by kernel_rfl) (fun _ _ _ h => h) (Or.inl ⟨by rfl, ?_⟩) (by assumption) ?_
  rotate_left
  · intro w hSw; have cv := conv_slb (HB.out.kp (Kp.trans K4.out hSw)); rw [HSS.out] at cv; go_simp; try with_reducible rfl
  go_simp
  refine wpAnyH_ready (rs := [5]) (by kernel_rfl) (by simp) ?_
  refine AllReadyH.cons rfl (fun K hK => ?_) AllReadyH.nil
  go_simp
  go_wp2_with (go_at_call 10; (with_reducible refine (HRS.out _ (Kp.trans K4.out hHeld)).mono ?_); rintro e w5 ⟨rfl, rfl⟩)
  refine hK.out _ _ ?_ (fun hHeld => ?_)
  · exact hHeld
  clear hK K
  refine wpAnyH_ready (rs := [6]) (by kernel_rfl) (by simp) ?_
  refine AllReadyH.cons rfl (fun K hK => ?_) AllReadyH.nil
  go_simp
  go_wp2_with (go_at_call 15; (with_reducible refine (HRF.out _).mono ?_); rintro e w6 ⟨v6, rfl, ho6, hk6⟩; have cv6 := conv_slb (own_slb ho6); rw [HTT.out] at cv6; have K6 := Lib.hid (Kp.trans hHeld hk6); clear ho6 hk6)
  refine hK.out _ _ ?_ (fun hHeld => ?_)
  · exact K6.out
  clear hK K
  refine wpAnyH_ready (rs := [7]) (by kernel_rfl) (by simp) ?_
  refine AllReadyH.cons rfl (fun K hK => ?_) AllReadyH.nil
  go_simp
  refine hK.out _ _ ?_ (fun hHeld => ?_)
  · exact hHeld
  clear hK K
  refine wpAnyH_take (i := 8) (v := ?_) rfl (by kernel_rfl) (by kernel_rfl) (by kernel_rfl) (fun _ _ _ h => h) (Or.inl ⟨by rfl, ?_⟩) (by assumption) ?_
  rotate_left
  · intro w hSw; go_simp; rw [if_neg HSUM.out, HCAT.out]
  go_simp
  refine wpAnyH_take (i := 9) (v := ?_) rfl (by kernel_rfl) (by kernel_rfl) (by kernel_rfl) (fun _ _ _ h => h) (Or.inl ⟨by rfl, ?_⟩) (by assumption) ?_
  rotate_left
  · intro w hSw; go_simp; try with_reducible rfl
  go_simp
  refine wpAnyH_take (i := 10) (v := ?_) rfl (by kernel_rfl) (by kernel_rfl) (by kernel_rfl) (fun _ _ _ h => h) (Or.inl ⟨by rfl, ?_⟩) (by assumption) ?_
  rotate_left
  · intro w hSw; go_simp; try with_reducible rfl
  go_simp
  refine wpAnyH_take (i := 11) (v := ?_) rfl (by kernel_rfl) (by kernel_rfl) (by kernel_rfl) (fun _ _ _ h => h) (Or.inl ⟨by rfl, ?_⟩) (by assumption) ?_
  rotate_left
  · intro w hSw; go_simp; try with_reducible rfl
  go_simp
  refine wpAnyH_take (i := 12) (v := ?_) rfl (by kernel_rfl) (by kernel_rfl) (by kernel_rfl) (fun _ _ _ h => h) (Or.inl ⟨by rfl, ?_⟩) (by assumption) ?_
  rotate_left
  · intro w hSw; go_simp; try with_reducible rfl
  go_simp
  refine wpAnyH_take (i := 13) (v := ?_) rfl (by kernel_rfl) (by kernel_rfl) (by kernel_rfl) (fun _ _ _ h => h) (Or.inl ⟨by rfl, ?_⟩) (by assumption) ?_
  rotate_left
  · intro w hSw; go_simp; try with_reducible rfl
  go_simp
  refine wpAnyH_take (i := 14) (v := ?_) rfl (by kernel_rfl) (by kernel_rfl) (by kernel_rfl) (fun _ _ _ h => h) (Or.inl ⟨by rfl, ?_⟩) (by assumption) ?_
  rotate_left
  · intro w hSw; go_simp; try with_reducible rfl
  go_simp
  refine wpAnyH_take (i := 15) (v := ?_) rfl (by kernel_rfl) (by kernel_rfl) (by kernel_rfl) (fun _ _ _ h => h) (Or.inl ⟨by rfl, ?_⟩) (by assumption) ?_
  rotate_left
  · intro w hSw; go_simp; try with_reducible rfl
  go_simp
  refine wpAnyH_take (i := 17) (v := ?_) rfl (by kernel_rfl) (by kernel_rfl) (by kernel_rfl) (fun _ _ _ h => h) (Or.inl ⟨by rfl, ?_⟩) (by assumption) ?_
  rotate_left
  · intro w hSw; go_simp; try with_reducible rfl
  go_simp
  refine wpAnyH_take (i := 16) (v := ?_) rfl (by kernel_rfl) (by kernel_rfl) (by kernel_rfl) (fun _ _ _ h => h) (Or.inl ⟨by rfl, ?_⟩) (by assumption) ?_
  rotate_left
  · intro w hSw; have cv := conv_slb (S4v.out.kp hSw); rw [HSS.out] at cv; go_simp; try with_reducible rfl
  go_simp
  refine wpAnyH_take (i := 18) (v := ?_) rfl (by kernel_rfl) (by kernel_rfl) (by kernel_rfl) (fun _ _ _ h => h) (Or.inl ⟨by rfl, ?_⟩) (by assumption) ?_
  rotate_left
  · intro w hSw; have cv := conv_slb (HB.out.kp (Kp.trans K4.out hSw)); rw [HSS.out] at cv; go_simp; try with_reducible rfl
  go_simp
  refine wpAnyH_take (i := 19) (v := ?_) rfl (by kernel_rfl) (by kernel_rfl) (by kernel_rfl) (fun _ _ _ h => h) (Or.inl ⟨by rfl, ?_⟩) (by assumption) ?_
  rotate_left
  · intro w hSw; go_simp; try with_reducible rfl
  go_simp
  refine wpAnyH_take (i := 20) (v := ?_) rfl (by kernel_rfl) (by kernel_rfl) (by kernel_rfl) (fun _ _ _ h => h) (Or.inl ⟨by rfl, ?_⟩) (by assumption) ?_
  rotate_left
  · intro w hSw; go_simp; try with_reducible rfl
  go_simp
  refine wpAnyH_take (i := 21) (v := ?_) rfl (by kernel_rfl) (by kernel_rfl) (by kernel_rfl) (fun _ _ _ h => h) (Or.inl ⟨by rfl, ?_⟩) (by assumption) ?_
  rotate_left
  · intro w hSw; go_simp; try with_reducible rfl
  go_simp
  refine wpAnyH_take (i := 22) (v := ?_) rfl (by kernel_rfl) (by kernel_rfl) (by kernel_rfl) (fun _ _ _ h => h) (Or.inl ⟨by rfl, ?_⟩) (by assumption) ?_
  rotate_left
  · intro w hSw; go_simp; try with_reducible rfl
  go_simp
  refine wpAnyH_take (i := 23) (v := ?_) rfl (by kernel_rfl) (by kernel_rfl) (by kernel_rfl) (fun _ _ _ h => h) (Or.inl ⟨by rfl, ?_⟩) (by assumption) ?_
  rotate_left
  · intro w hSw; go_simp; try with_reducible rfl
  go_simp
  refine wpAnyH_ready (rs := [24]) (by kernel_rfl) (by simp) ?_
  refine AllReadyH.cons rfl (fun K hK => ?_) AllReadyH.nil
  go_simp
  go_wp2_with (go_at_call 16; go_loud (with_reducible refine (HKE.out _ hHeld).mono ?_); rintro e w7 ⟨rfl, hk7⟩; have K7 := Lib.hid (Kp.trans hHeld hk7); clear hk7)
  refine hK.out _ _ ?_ (fun hHeld => ?_)
  · exact K7.out
  clear hK K
  refine wpAnyH_take (i := 25) (v := ?_) rfl (by kernel_rfl) (by kernel_rfl) (by kernel_rfl) (fun _ _ _ h => h) (Or.inl ⟨by rfl, ?_⟩) (by assumption) ?_
  rotate_left
  · intro w hSw; go_simp; try with_reducible rfl
  go_simp
  refine wpAnyH_take (i := 26) (v := ?_) rfl (by kernel_rfl) (by kernel_rfl) (by kernel_rfl) (fun _ _ _ h => h) (Or.inl ⟨by rfl, ?_⟩) (by assumption) ?_
  rotate_left
  · intro w hSw; go_simp; try with_reducible rfl
  go_simp
  refine wpAnyH_done (by kernel_rfl) ?_ _
  go_wp2_with (first | (go_at_call 14; (with_reducible refine (HO2.out _ (Kp.trans K4.out hHeld)).mono ?_); rintro e w8 ⟨rfl, hk8⟩; have K8 := Lib.hid (Kp.trans (Kp.trans K4.out hHeld) hk8); clear hk8) | (go_at_call 17; (with_reducible refine (HNUM.out _ K8.out).mono ?_); rintro e w9 ⟨rfl, hk9⟩; have K9 := Lib.hid (Kp.trans K8.out hk9); clear hk9))
  go_ret
  exact ⟨rfl, K9.out⟩

set_option maxRecDepth 100000 in
set_option maxHeartbeats 2000000 in
theorem opn_bad (ads : List Addr) (a : Option Addr) (n c : Nat) (bs : List Int) (hn : bs.length = n) (hl : n ≤ 500) (hb : InB bs) (a2 : Option Addr) (m c2 : Nat) (rs : List Int) (hm : rs.length = m) (hml : m ≤ 500) (hmc : m ≤ c2) (hrb : InB rs) (w : World) (V : St ads w) (ht : Tb w) (hs : SlB (.slice a n c) bs w) (hr : SlB (.slice a2 m c2) rs w) (k : Nat) (hk : m = k + 4) (hc : rs.drop k ≠ four (crc (rs.take k))) :
    Calls Tryd.prog 4 #[.slice a n c, .slice a2 m c2] w fun e w' => e = .returned (.bool true) ∧ Kp w w' := by
  have HA := Lib.hid (alive_any w ht)
  have h4 : 4 < ads.length := by rw [V.len]; decide
  have h1 : 1 < ads.length := by omega
  obtain ⟨nn, hnn⟩ : ∃ nn : Int, (n : Int) = nn := ⟨_, rfl⟩
  obtain ⟨mm, hmm⟩ : ∃ nn : Int, (m : Int) = nn := ⟨_, rfl⟩
  have hg : ¬ nn > 500 := by omega
  have hg2 : ¬ mm > 500 := by omega
  have m0 : 0 ≤ mm := by omega
  have HI := Lib.hid (fun w1 (hk : Kp w w1) => numBytes_any a c bs n hn (by omega) w1 (hs.kp hk))
  have HS := Lib.hid (fun w1 (hk : Kp w w1) g (hm : Marked g (n + 6) bs w1) => seal_any (some ⟨g, 0, none⟩) n (n + 6) bs hn (by omega) hb w1 (ht.kp hk) (by have h := hm.sl; rw [hn] at h; exact h))
  have hL : (bs ++ four (crc bs)).length = n + 4 := by rw [List.length_append, hn]; rfl
  have HO := fun w1 (hk : Kp w w1) g cap (hcap : n + 4 ≤ cap) (q : SlB (.slice (some ⟨g, 0, none⟩) (n + 4) cap) (bs ++ four (crc bs)) w1) => open_ok ads h4 (some ⟨g, 0, none⟩) (n + 4) cap n (bs ++ four (crc bs)) hL rfl (by omega) hcap (seal_in hb) w1 (V.below hk) (ht.kp hk) q (by rw [List.take_left' hn, List.drop_left' hn])
  rw [List.take_left' hn] at HO
  have HO := Lib.hid HO
  have HRS := fun w1 (hk : Kp w w1) => rsum_any a c bs n hn (by omega) hb w1 (hs.kp hk)
  have HRF := fun w1 => four_any (crc bs) (crc_lt hb) w1
  obtain ⟨x, hx⟩ : ∃ x : Int, ((crc bs : Nat) : Int) = x := ⟨_, rfl⟩
  simp only [hx] at HRS HRF
  have HRS := Lib.hid HRS
  have HRF := Lib.hid HRF
  have HKE := fun w1 g (hk : Kp w w1) (hm : Marked g (n + 6) bs w1) => numKept_any g (.slice a n c) bs n hn (by omega) w1 hm (hs.kp hk)
  obtain ⟨ss, hss⟩ : ∃ ss, strOfNums bs = ss := ⟨_, rfl⟩
  obtain ⟨tt, htt⟩ : ∃ ss, strOfNums (four (crc bs)) = ss := ⟨_, rfl⟩
  obtain ⟨uu, huu⟩ : ∃ ss, strOfNums (bs ++ four (crc bs)) = ss := ⟨_, rfl⟩
  have HCAT := Lib.hid (show ss ++ tt = uu by rw [← hss, ← htt, ← huu]; exact str_append _ _)
  have HSUM := Lib.hid (show ¬ 9223372036854775807 < ss.size + tt.size by rw [← hss, ← htt, str_size, str_size, hn, four_len]; omega)
  have HSS := Lib.hid hss
  have HTT := Lib.hid htt
  have HUU := Lib.hid huu
  have HB := Lib.hid hs
  have HKE0 := Lib.hid HKE
  have qs : (ss.toList != ss.toList) = false := by simp
  have qu : (uu.toList != uu.toList) = false := by simp
  subst hk
  obtain ⟨b, off, rfl⟩ := hr.pos (by omega)
  obtain ⟨kk, hkk⟩ : ∃ kk : Int, (k : Int) = kk := ⟨_, rfl⟩
  have s1 := fun w1 => run_head (b := b) (off := off) (c := c2) (n := k + 4) (m := k) hkk (by omega) hmc w1
  have s2 := fun w1 => run_tail (b := b) (off := off) (c := c2) (n := k + 4) (m := k) hkk (by omega) w1
  have t1 := slb_take (m := k) hr (by omega)
  have t2 := slb_drop (m := k) hr (by omega) hmc
  have e0 : k + 4 - k = 4 := by omega
  rw [e0] at s2 t2
  have hlk : (rs.take k).length = k := by rw [List.length_take]; omega
  have HO2 := fun w1 (hk : Kp w w1) => open_bad ads h4 (some ⟨b, off, none⟩) (k + 4) c2 k rs hm rfl (by omega) hmc hrb w1 (V.below hk) (ht.kp hk) (hr.kp hk) hc
  have hb1 : InB (rs.take k) := in_take hrb k
  have hb2 : InB (rs.drop k) := in_drop hrb k
  obtain ⟨o2, ho2⟩ : ∃ o2, (if c2 = k then off else off + k) = o2 := ⟨_, rfl⟩
  obtain ⟨c3, hc3⟩ : ∃ c3, c2 - k = c3 := ⟨_, rfl⟩
  rw [ho2, hc3] at s2 t2
  have HR2 := fun w1 (hk : Kp w w1) => rsum_any (some ⟨b, off, none⟩) c2 (rs.take k) k hlk (by omega) hb1 w1 (t1.kp hk)
  have HF2 := fun w1 => four_any (crc (rs.take k)) (crc_lt hb1) w1
  obtain ⟨z, hz⟩ : ∃ z : Int, ((crc (rs.take k) : Nat) : Int) = z := ⟨_, rfl⟩
  simp only [hz] at HR2 HF2
  have HR2 := Lib.hid HR2
  have HF2 := Lib.hid HF2
  obtain ⟨fs, hfs⟩ : ∃ ss, strOfNums (four (crc (rs.take k))) = ss := ⟨_, rfl⟩
  obtain ⟨ds, hds⟩ : ∃ ss, strOfNums (rs.drop k) = ss := ⟨_, rfl⟩
  have HFS := Lib.hid hfs
  have HB2 := Lib.hid hds
  have T2 := Lib.hid t2
  have hd : mm - 4 = kk := by omega
  have k0 : 0 ≤ kk := by omega
  have k1 : ¬ kk < 0 := by omega
  have hup : kk ≤ 1000 := by omega
  have qd : (ds.toList == fs.toList) = false := by
    have h := strs_ne (fun h => hc (str_inj hb2 (four_in _) h))
    rw [hds, hfs] at h
    exact h
  have QD := Lib.hid qd
  have HO2 := Lib.hid HO2
  have HNUM := Lib.hid (fun w1 (hk : Kp w w1) => num_err ads w1 (V.below hk) 4 (by decide) h4)
  have e5 : (((4 : Nat) : Int) + 1) = 5 := rfl
  rw [e5] at HNUM
  obtain ⟨e4, he4⟩ : ∃ e, ads[4] = e := ⟨_, rfl⟩
  simp only [he4] at HO2 HNUM
  clear t1 t2 hrb hmc hb1 hb2 hlk hz hfs hds ho2 hc3 hc hkk he4 qd
  clear ht V hs hr hb hn hL hx HKE hss htt huu
  go_enter Tryd.func4, Tryd.ntmps4
  go_wp2_with (first | (go_at_call 8; (with_reducible refine HA.out.mono ?_); rintro e w1 ⟨rfl, hw1⟩; have K1 := Lib.hid hw1; clear hw1) | (go_at_call 12; (with_reducible refine (HI.out _ K1.out).mono ?_); rintro e w2 ⟨rfl, hM, hk2⟩; have K2 := Lib.hid (Kp.trans K1.out hk2); have M2 := Lib.hid hM; clear hM hk2) | (go_at_call 13; (with_reducible refine (HS.out _ K2.out _ M2.out).mono ?_); rintro e w3 ⟨v3, rfl, ho3, hk3⟩; have K3 := Lib.hid (Kp.trans K2.out hk3); have M3 := Lib.hid (M2.out.kp hk3); obtain ⟨g, cap, rfl, hcap, hgb⟩ := own_g ho3 (by omega); have O3 := Lib.hid (own_slb ho3); have CP := Lib.hid hcap; clear ho3 hk3 hgb hcap) | (go_at_call 14; (with_reducible refine (HO.out _ K3.out _ _ CP.out O3.out).mono ?_); rintro e w4 ⟨v4, rfl, ho4, hk4⟩; have K4 := Lib.hid (Kp.trans K3.out hk4); have S4s := Lib.hid (O3.out.kp hk4); have S4v := Lib.hid (own_slb ho4); have HKE := Lib.hid (fun w5 (hk : Kp w4 w5) => HKE0.out w5 _ (Kp.trans K4.out hk) (M3.out.kp (Kp.trans hk4 hk))); clear ho4 hk4))
  refine wp_region_held_drew (S := fun w' => Kp w4 w') (by kernel_rfl) ?_ (fun hHeld => ?_)
  · exact (Kp.refl w4).drew
  refine wpAnyH_take (i := 0) (v := ?_) rfl (by kernel_rfl) (by kernel_rfl) (by kernel_rfl) (fun _ _ _ h => h) (Or.inl ⟨by rfl, ?_⟩) (by assumption) ?_
  rotate_left
  · intro w hSw; go_simp; try with_reducible rfl
  go_simp
  refine wpAnyH_take (i := 2) (v := ?_) rfl (by kernel_rfl) (by kernel_rfl) (by kernel_rfl) (fun _ _ _ h => h) (Or.inl ⟨by rfl, ?_⟩) (by assumption) ?_
  rotate_left
  · intro w hSw; go_simp; try with_reducible rfl
  go_simp
  refine wpAnyH_take (i := 4) (v := ?_) rfl (by kernel_rfl) (by kernel_rfl) (by kernel_rfl) (fun _ _ _ h => h) (Or.inl ⟨by rfl, ?_⟩) (by assumption) ?_
  rotate_left
  · intro w hSw; go_simp; try with_reducible rfl
  go_simp
  refine wpAnyH_take (i := 1) (v := ?_) rfl (by kernel_rfl) (by kernel_rfl) (by kernel_rfl) (fun _ _ _ h => h) (Or.inl ⟨by rfl, ?_⟩) (by assumption) ?_
  rotate_left
  · intro w hSw; have cv := conv_slb (S4s.out.kp hSw); rw [HUU.out] at cv; go_simp; try with_reducible rfl
  go_simp
  refine wpAnyH_take (i := 3) (v := ?_) rfl (by kernel_rfl) (by kernel_rfl) (by kernel_rfl) (fun _ _ _ h => h) (Or.inl ⟨by rfl, ?_⟩) (by assumption) ?_
  rotate_left
  · intro w hSw; have cv := conv_slb (HB.out.kp (Kp.trans K4.out hSw)); rw [HSS.out] at cv; go_simp; try with_reducible rfl
  go_simp
  refine wpAnyH_ready (rs := [5]) (by kernel_rfl) (by simp) ?_
  refine AllReadyH.cons rfl (fun K hK => ?_) AllReadyH.nil
  go_simp
  go_wp2_with (go_at_call 10; (with_reducible refine (HRS.out _ (Kp.trans K4.out hHeld)).mono ?_); rintro e w5 ⟨rfl, rfl⟩)
  refine hK.out _ _ ?_ (fun hHeld => ?_)
  · exact hHeld
  clear hK K
  refine wpAnyH_ready (rs := [6]) (by kernel_rfl) (by simp) ?_
  refine AllReadyH.cons rfl (fun K hK => ?_) AllReadyH.nil
  go_simp
  go_wp2_with (go_at_call 15; (with_reducible refine (HRF.out _).mono ?_); rintro e w6 ⟨v6, rfl, ho6, hk6⟩; have cv6 := conv_slb (own_slb ho6); rw [HTT.out] at cv6; have K6 := Lib.hid (Kp.trans hHeld hk6); clear ho6 hk6)
  refine hK.out _ _ ?_ (fun hHeld => ?_)
  · exact K6.out
  clear hK K
  refine wpAnyH_ready (rs := [7]) (by kernel_rfl) (by simp) ?_
  refine AllReadyH.cons rfl (fun K hK => ?_) AllReadyH.nil
  go_simp
  refine hK.out _ _ ?_ (fun hHeld => ?_)
  · exact hHeld
  clear hK K
  refine wpAnyH_take (i := 8) (v := ?_) rfl (by kernel_rfl) (by kernel_rfl) (by kernel_rfl) (fun _ _ _ h => h) (Or.inl ⟨by rfl, ?_⟩) (by assumption) ?_
  rotate_left
  · intro w hSw; go_simp; rw [if_neg HSUM.out, HCAT.out]
  go_simp
  refine wpAnyH_take (i := 9) (v := ?_) rfl (by kernel_rfl) (by kernel_rfl) (by kernel_rfl) (fun _ _ _ h => h) (Or.inl ⟨by rfl, ?_⟩) (by assumption) ?_
  rotate_left
  · intro w hSw; go_simp; try with_reducible rfl
  go_simp
  refine wpAnyH_take (i := 10) (v := ?_) rfl (by kernel_rfl) (by kernel_rfl) (by kernel_rfl) (fun _ _ _ h => h) (Or.inl ⟨by rfl, ?_⟩) (by assumption) ?_
  rotate_left
  · intro w hSw; go_simp; try with_reducible rfl
  go_simp
  refine wpAnyH_take (i := 11) (v := ?_) rfl (by kernel_rfl) (by kernel_rfl) (by kernel_rfl) (fun _ _ _ h => h) (Or.inl ⟨by rfl, ?_⟩) (by assumption) ?_
  rotate_left
  · intro w hSw; go_simp; try with_reducible rfl
  go_simp
  refine wpAnyH_take (i := 12) (v := ?_) rfl (by kernel_rfl) (by kernel_rfl) (by kernel_rfl) (fun _ _ _ h => h) (Or.inl ⟨by rfl, ?_⟩) (by assumption) ?_
  rotate_left
  · intro w hSw; go_simp; try with_reducible rfl
  go_simp
  refine wpAnyH_take (i := 13) (v := ?_) rfl (by kernel_rfl) (by kernel_rfl) (by kernel_rfl) (fun _ _ _ h => h) (Or.inl ⟨by rfl, ?_⟩) (by assumption) ?_
  rotate_left
  · intro w hSw; go_simp; try with_reducible rfl
  go_simp
  refine wpAnyH_take (i := 14) (v := ?_) rfl (by kernel_rfl) (by kernel_rfl) (by kernel_rfl) (fun _ _ _ h => h) (Or.inl ⟨by rfl, ?_⟩) (by assumption) ?_
  rotate_left
  · intro w hSw; go_simp; try with_reducible rfl
  go_simp
  refine wpAnyH_take (i := 15) (v := ?_) rfl (by kernel_rfl) (by kernel_rfl) (by kernel_rfl) (fun _ _ _ h => h) (Or.inl ⟨by rfl, ?_⟩) (by assumption) ?_
  rotate_left
  · intro w hSw; go_simp; try with_reducible rfl
  go_simp
  refine wpAnyH_take (i := 17) (v := ?_) rfl (by kernel_rfl) (by kernel_rfl) (by kernel_rfl) (fun _ _ _ h => h) (Or.inl ⟨by rfl, ?_⟩) (by assumption) ?_
  rotate_left
  · intro w hSw; go_simp; try with_reducible rfl
  go_simp
  refine wpAnyH_take (i := 16) (v := ?_) rfl (by kernel_rfl) (by kernel_rfl) (by kernel_rfl) (fun _ _ _ h => h) (Or.inl ⟨by rfl, ?_⟩) (by assumption) ?_
  rotate_left
  · intro w hSw; have cv := conv_slb (S4v.out.kp hSw); rw [HSS.out] at cv; go_simp; try with_reducible rfl
  go_simp
  refine wpAnyH_take (i := 18) (v := ?_) rfl (by kernel_rfl) (by kernel_rfl) (by kernel_rfl) (fun _ _ _ h => h) (Or.inl ⟨by rfl, ?_⟩) (by assumption) ?_
  rotate_left
  · intro w hSw; have cv := conv_slb (HB.out.kp (Kp.trans K4.out hSw)); rw [HSS.out] at cv; go_simp; try with_reducible rfl
  go_simp
  refine wpAnyH_take (i := 19) (v := ?_) rfl (by kernel_rfl) (by kernel_rfl) (by kernel_rfl) (fun _ _ _ h => h) (Or.inl ⟨by rfl, ?_⟩) (by assumption) ?_
  rotate_left
  · intro w hSw; go_simp; try with_reducible rfl
  go_simp
  refine wpAnyH_take (i := 20) (v := ?_) rfl (by kernel_rfl) (by kernel_rfl) (by kernel_rfl) (fun _ _ _ h => h) (Or.inl ⟨by rfl, ?_⟩) (by assumption) ?_
  rotate_left
  · intro w hSw; go_simp; try with_reducible rfl
  go_simp
  refine wpAnyH_take (i := 21) (v := ?_) rfl (by kernel_rfl) (by kernel_rfl) (by kernel_rfl) (fun _ _ _ h => h) (Or.inl ⟨by rfl, ?_⟩) (by assumption) ?_
  rotate_left
  · intro w hSw; go_simp; try with_reducible rfl
  go_simp
  refine wpAnyH_take (i := 22) (v := ?_) rfl (by kernel_rfl) (by kernel_rfl) (by kernel_rfl) (fun _ _ _ h => h) (Or.inl ⟨by rfl, ?_⟩) (by assumption) ?_
  rotate_left
  · intro w hSw; go_simp; try with_reducible rfl
  go_simp
  refine wpAnyH_take (i := 23) (v := ?_) rfl (by kernel_rfl) (by kernel_rfl) (by kernel_rfl) (fun _ _ _ h => h) (Or.inl ⟨by rfl, ?_⟩) (by assumption) ?_
  rotate_left
  · intro w hSw; go_simp; try with_reducible rfl
  go_simp
  refine wpAnyH_ready (rs := [24]) (by kernel_rfl) (by simp) ?_
  refine AllReadyH.cons rfl (fun K hK => ?_) AllReadyH.nil
  go_simp
  go_wp2_with (go_at_call 16; go_loud (with_reducible refine (HKE.out _ hHeld).mono ?_); rintro e w7 ⟨rfl, hk7⟩; have K7 := Lib.hid (Kp.trans hHeld hk7); clear hk7)
  refine hK.out _ _ ?_ (fun hHeld => ?_)
  · exact K7.out
  clear hK K
  refine wpAnyH_take (i := 25) (v := ?_) rfl (by kernel_rfl) (by kernel_rfl) (by kernel_rfl) (fun _ _ _ h => h) (Or.inl ⟨by rfl, ?_⟩) (by assumption) ?_
  rotate_left
  · intro w hSw; go_simp; try with_reducible rfl
  go_simp
  refine wpAnyH_take (i := 26) (v := ?_) rfl (by kernel_rfl) (by kernel_rfl) (by kernel_rfl) (fun _ _ _ h => h) (Or.inl ⟨by rfl, ?_⟩) (by assumption) ?_
  rotate_left
  · intro w hSw; go_simp; try with_reducible rfl
  go_simp
  refine wpAnyH_done (by kernel_rfl) ?_ _
  go_wp2_with ((go_at_call 14; (with_reducible refine (HO2.out _ (Kp.trans K4.out hHeld)).mono ?_); rintro e w8 ⟨rfl, hk8⟩; have K8 := Lib.hid (Kp.trans (Kp.trans K4.out hHeld) hk8); clear hk8))
  refine wp_region_held_drew (S := fun w' => Kp w8 w') (by kernel_rfl) ?_ (fun hHeld => ?_)
  · exact (Kp.refl w8).drew
  refine wpAnyH_take (i := 0) (v := ?_) rfl (by kernel_rfl) (by kernel_rfl) (by kernel_rfl) (fun _ _ _ h => h) (Or.inl ⟨by rfl, ?_⟩) (by assumption) ?_
  rotate_left
  · intro w hSw; go_simp; try with_reducible rfl
  go_simp
  refine wpAnyH_take (i := 1) (v := ?_) rfl (by kernel_rfl) (by kernel_rfl) (by kernel_rfl) (fun _ _ _ h => h) (Or.inl ⟨by rfl, ?_⟩) (by assumption) ?_
  rotate_left
  · intro w hSw; go_simp; try with_reducible rfl
  go_simp
  refine wpAnyH_take (i := 4) (v := ?_) rfl (by kernel_rfl) (by kernel_rfl) (by kernel_rfl) (fun _ _ _ h => h) (Or.inl ⟨by rfl, ?_⟩) (by assumption) ?_
  rotate_left
  · intro w hSw; go_simp; try with_reducible rfl
  go_simp
  refine wpAnyH_take (i := 5) (v := ?_) rfl (by kernel_rfl) (by kernel_rfl) (by kernel_rfl) (fun _ _ _ h => h) (Or.inl ⟨by rfl, ?_⟩) (by assumption) ?_
  rotate_left
  · intro w hSw; go_simp; try with_reducible rfl
  go_simp
  refine wpAnyH_take (i := 2) (v := ?_) rfl (by kernel_rfl) (by kernel_rfl) (by kernel_rfl) (fun _ _ _ h => h) (Or.inl ⟨by rfl, ?_⟩) (by assumption) ?_
  rotate_left
  · intro w hSw; go_simp; try with_reducible rfl
  go_simp
  refine wpAnyH_take (i := 6) (v := ?_) rfl (by kernel_rfl) (by kernel_rfl) (by kernel_rfl) (fun _ _ _ h => h) (Or.inl ⟨by rfl, ?_⟩) (by assumption) ?_
  rotate_left
  · intro w hSw; go_simp; try with_reducible rfl
  go_simp
  refine wpAnyH_take (i := 3) (v := ?_) rfl (by kernel_rfl) (by kernel_rfl) (by kernel_rfl) (fun _ _ _ h => h) (Or.inl ⟨by rfl, ?_⟩) (by assumption) ?_
  rotate_left
  · intro w hSw; have cv := conv_slb (T2.out.kp (Kp.trans K8.out hSw)); rw [HB2.out] at cv; go_simp; try with_reducible rfl
  go_simp
  refine wpAnyH_ready (rs := [7]) (by kernel_rfl) (by simp) ?_
  refine AllReadyH.cons rfl (fun K hK => ?_) AllReadyH.nil
  go_simp
  go_wp2_with (go_at_call 10; go_loud (with_reducible refine (HR2.out _ (Kp.trans K8.out hHeld)).mono ?_); rintro e w9 ⟨rfl, rfl⟩)
  refine hK.out _ _ ?_ (fun hHeld => ?_)
  · exact hHeld
  clear hK K
  refine wpAnyH_ready (rs := [8]) (by kernel_rfl) (by simp) ?_
  refine AllReadyH.cons rfl (fun K hK => ?_) AllReadyH.nil
  go_simp
  go_wp2_with (go_at_call 15; go_loud (with_reducible refine (HF2.out _).mono ?_); rintro e w10 ⟨v10, rfl, ho10, hk10⟩; have cv10 := conv_slb (own_slb ho10); rw [HFS.out] at cv10; have K10 := Lib.hid (Kp.trans hHeld hk10); clear ho10 hk10)
  refine hK.out _ _ ?_ (fun hHeld => ?_)
  · exact K10.out
  clear hK K
  refine wpAnyH_ready (rs := [9]) (by kernel_rfl) (by simp) ?_
  refine AllReadyH.cons rfl (fun K hK => ?_) AllReadyH.nil
  go_simp
  refine hK.out _ _ ?_ (fun hHeld => ?_)
  · exact hHeld
  clear hK K
  refine wpAnyH_take (i := 10) (v := ?_) rfl (by kernel_rfl) (by kernel_rfl) (by kernel_rfl) (fun _ _ _ h => h) (Or.inl ⟨by rfl, ?_⟩) (by assumption) ?_
  rotate_left
  · intro w hSw; go_simp; rw [QD.out, Bool.not_false]
  go_simp
  refine wpAnyH_take (i := 11) (v := ?_) rfl (by kernel_rfl) (by kernel_rfl) (by kernel_rfl) (fun _ _ _ h => h) (Or.inl ⟨by rfl, ?_⟩) (by assumption) ?_
  rotate_left
  · intro w hSw; go_simp; try with_reducible rfl
  go_simp
  refine wpAnyH_done (by kernel_rfl) ?_ _
  have K8 := Lib.hid (Kp.trans K8.out hHeld)
  go_wp2_with ((go_at_call 17; (with_reducible refine (HNUM.out _ K8.out).mono ?_); rintro e w9 ⟨rfl, hk9⟩; have K9 := Lib.hid (Kp.trans K8.out hk9); clear hk9))
  go_ret
  exact ⟨rfl, K9.out⟩

set_option maxRecDepth 100000 in
set_option maxHeartbeats 2000000 in
theorem opn_ok (ads : List Addr) (a : Option Addr) (n c : Nat) (bs : List Int) (hn : bs.length = n) (hl : n ≤ 500) (hb : InB bs) (a2 : Option Addr) (m c2 : Nat) (rs : List Int) (hm : rs.length = m) (hml : m ≤ 500) (hmc : m ≤ c2) (hrb : InB rs) (w : World) (V : St ads w) (ht : Tb w) (hs : SlB (.slice a n c) bs w) (hr : SlB (.slice a2 m c2) rs w) (k : Nat) (hk : m = k + 4) (hc : rs.drop k = four (crc (rs.take k))) :
    Calls Tryd.prog 4 #[.slice a n c, .slice a2 m c2] w fun e w' => e = .returned (.bool true) ∧ Kp w w' := by
  have HA := Lib.hid (alive_any w ht)
  have h4 : 4 < ads.length := by rw [V.len]; decide
  have h1 : 1 < ads.length := by omega
  obtain ⟨nn, hnn⟩ : ∃ nn : Int, (n : Int) = nn := ⟨_, rfl⟩
  obtain ⟨mm, hmm⟩ : ∃ nn : Int, (m : Int) = nn := ⟨_, rfl⟩
  have hg : ¬ nn > 500 := by omega
  have hg2 : ¬ mm > 500 := by omega
  have m0 : 0 ≤ mm := by omega
  have HI := Lib.hid (fun w1 (hk : Kp w w1) => numBytes_any a c bs n hn (by omega) w1 (hs.kp hk))
  have HS := Lib.hid (fun w1 (hk : Kp w w1) g (hm : Marked g (n + 6) bs w1) => seal_any (some ⟨g, 0, none⟩) n (n + 6) bs hn (by omega) hb w1 (ht.kp hk) (by have h := hm.sl; rw [hn] at h; exact h))
  have hL : (bs ++ four (crc bs)).length = n + 4 := by rw [List.length_append, hn]; rfl
  have HO := fun w1 (hk : Kp w w1) g cap (hcap : n + 4 ≤ cap) (q : SlB (.slice (some ⟨g, 0, none⟩) (n + 4) cap) (bs ++ four (crc bs)) w1) => open_ok ads h4 (some ⟨g, 0, none⟩) (n + 4) cap n (bs ++ four (crc bs)) hL rfl (by omega) hcap (seal_in hb) w1 (V.below hk) (ht.kp hk) q (by rw [List.take_left' hn, List.drop_left' hn])
  rw [List.take_left' hn] at HO
  have HO := Lib.hid HO
  have HRS := fun w1 (hk : Kp w w1) => rsum_any a c bs n hn (by omega) hb w1 (hs.kp hk)
  have HRF := fun w1 => four_any (crc bs) (crc_lt hb) w1
  obtain ⟨x, hx⟩ : ∃ x : Int, ((crc bs : Nat) : Int) = x := ⟨_, rfl⟩
  simp only [hx] at HRS HRF
  have HRS := Lib.hid HRS
  have HRF := Lib.hid HRF
  have HKE := fun w1 g (hk : Kp w w1) (hm : Marked g (n + 6) bs w1) => numKept_any g (.slice a n c) bs n hn (by omega) w1 hm (hs.kp hk)
  obtain ⟨ss, hss⟩ : ∃ ss, strOfNums bs = ss := ⟨_, rfl⟩
  obtain ⟨tt, htt⟩ : ∃ ss, strOfNums (four (crc bs)) = ss := ⟨_, rfl⟩
  obtain ⟨uu, huu⟩ : ∃ ss, strOfNums (bs ++ four (crc bs)) = ss := ⟨_, rfl⟩
  have HCAT := Lib.hid (show ss ++ tt = uu by rw [← hss, ← htt, ← huu]; exact str_append _ _)
  have HSUM := Lib.hid (show ¬ 9223372036854775807 < ss.size + tt.size by rw [← hss, ← htt, str_size, str_size, hn, four_len]; omega)
  have HSS := Lib.hid hss
  have HTT := Lib.hid htt
  have HUU := Lib.hid huu
  have HB := Lib.hid hs
  have HKE0 := Lib.hid HKE
  have qs : (ss.toList != ss.toList) = false := by simp
  have qu : (uu.toList != uu.toList) = false := by simp
  subst hk
  obtain ⟨b, off, rfl⟩ := hr.pos (by omega)
  obtain ⟨kk, hkk⟩ : ∃ kk : Int, (k : Int) = kk := ⟨_, rfl⟩
  have s1 := fun w1 => run_head (b := b) (off := off) (c := c2) (n := k + 4) (m := k) hkk (by omega) hmc w1
  have s2 := fun w1 => run_tail (b := b) (off := off) (c := c2) (n := k + 4) (m := k) hkk (by omega) w1
  have t1 := slb_take (m := k) hr (by omega)
  have t2 := slb_drop (m := k) hr (by omega) hmc
  have e0 : k + 4 - k = 4 := by omega
  rw [e0] at s2 t2
  have hlk : (rs.take k).length = k := by rw [List.length_take]; omega
  have HO2 := fun w1 (hk : Kp w w1) => open_ok ads h4 (some ⟨b, off, none⟩) (k + 4) c2 k rs hm rfl (by omega) hmc hrb w1 (V.below hk) (ht.kp hk) (hr.kp hk) hc
  have hb1 : InB (rs.take k) := in_take hrb k
  have hb2 : InB (rs.drop k) := in_drop hrb k
  obtain ⟨o2, ho2⟩ : ∃ o2, (if c2 = k then off else off + k) = o2 := ⟨_, rfl⟩
  obtain ⟨c3, hc3⟩ : ∃ c3, c2 - k = c3 := ⟨_, rfl⟩
  rw [ho2, hc3] at s2 t2
  have HR2 := fun w1 (hk : Kp w w1) => rsum_any (some ⟨b, off, none⟩) c2 (rs.take k) k hlk (by omega) hb1 w1 (t1.kp hk)
  have HF2 := fun w1 => four_any (crc (rs.take k)) (crc_lt hb1) w1
  obtain ⟨z, hz⟩ : ∃ z : Int, ((crc (rs.take k) : Nat) : Int) = z := ⟨_, rfl⟩
  simp only [hz] at HR2 HF2
  have HR2 := Lib.hid HR2
  have HF2 := Lib.hid HF2
  obtain ⟨fs, hfs⟩ : ∃ ss, strOfNums (four (crc (rs.take k))) = ss := ⟨_, rfl⟩
  obtain ⟨ds, hds⟩ : ∃ ss, strOfNums (rs.drop k) = ss := ⟨_, rfl⟩
  have HFS := Lib.hid hfs
  have HB2 := Lib.hid hds
  have T2 := Lib.hid t2
  have hd : mm - 4 = kk := by omega
  have k0 : 0 ≤ kk := by omega
  have k1 : ¬ kk < 0 := by omega
  have hup : kk ≤ 1000 := by omega
  have QD := Lib.hid (show (ds.toList == fs.toList) = true by rw [← hds, ← hfs, hc]; simp)
  obtain ⟨B1, hB1⟩ : ∃ B, rs.take k = B := ⟨_, rfl⟩
  rw [hB1] at HO2 t1
  have HO2 := Lib.hid HO2
  obtain ⟨bb, hbb⟩ : ∃ ss, strOfNums B1 = ss := ⟨_, rfl⟩
  have HB1 := Lib.hid hbb
  have T1 := Lib.hid t1
  have qb : (bb.toList == bb.toList) = true := by simp
  clear t1 t2 hrb hmc hb1 hb2 hlk hz hfs hds ho2 hc3 hc hkk hB1 hbb
  clear ht V hs hr hb hn hL hx HKE hss htt huu
  go_enter Tryd.func4, Tryd.ntmps4
  go_wp2_with (first | (go_at_call 8; (with_reducible refine HA.out.mono ?_); rintro e w1 ⟨rfl, hw1⟩; have K1 := Lib.hid hw1; clear hw1) | (go_at_call 12; (with_reducible refine (HI.out _ K1.out).mono ?_); rintro e w2 ⟨rfl, hM, hk2⟩; have K2 := Lib.hid (Kp.trans K1.out hk2); have M2 := Lib.hid hM; clear hM hk2) | (go_at_call 13; (with_reducible refine (HS.out _ K2.out _ M2.out).mono ?_); rintro e w3 ⟨v3, rfl, ho3, hk3⟩; have K3 := Lib.hid (Kp.trans K2.out hk3); have M3 := Lib.hid (M2.out.kp hk3); obtain ⟨g, cap, rfl, hcap, hgb⟩ := own_g ho3 (by omega); have O3 := Lib.hid (own_slb ho3); have CP := Lib.hid hcap; clear ho3 hk3 hgb hcap) | (go_at_call 14; (with_reducible refine (HO.out _ K3.out _ _ CP.out O3.out).mono ?_); rintro e w4 ⟨v4, rfl, ho4, hk4⟩; have K4 := Lib.hid (Kp.trans K3.out hk4); have S4s := Lib.hid (O3.out.kp hk4); have S4v := Lib.hid (own_slb ho4); have HKE := Lib.hid (fun w5 (hk : Kp w4 w5) => HKE0.out w5 _ (Kp.trans K4.out hk) (M3.out.kp (Kp.trans hk4 hk))); clear ho4 hk4))
  refine wp_region_held_drew (S := fun w' => Kp w4 w') (by kernel_rfl) ?_ (fun hHeld => ?_)
  · exact (Kp.refl w4).drew
  refine wpAnyH_take (i := 0) (v := ?_) rfl (by kernel_rfl) (by kernel_rfl) (by kernel_rfl) (fun _ _ _ h => h) (Or.inl ⟨by rfl, ?_⟩) (by assumption) ?_
  rotate_left
  · intro w hSw; go_simp; try with_reducible rfl
  go_simp
  refine wpAnyH_take (i := 2) (v := ?_) rfl (by kernel_rfl) (by kernel_rfl) (by kernel_rfl) (fun _ _ _ h => h) (Or.inl ⟨by rfl, ?_⟩) (by assumption) ?_
  rotate_left
  · intro w hSw; go_simp; try with_reducible rfl
  go_simp
  refine wpAnyH_take (i := 4) (v := ?_) rfl (by kernel_rfl) (by kernel_rfl) (by kernel_rfl) (fun _ _ _ h => h) (Or.inl ⟨by rfl, ?_⟩) (by assumption) ?_
  rotate_left
  · intro w hSw; go_simp; try with_reducible rfl
  go_simp
  refine wpAnyH_take (i := 1) (v := ?_) rfl (by kernel_rfl) (by kernel_rfl) (by kernel_rfl) (fun _ _ _ h => h) (Or.inl ⟨by rfl, ?_⟩) (by assumption) ?_
  rotate_left
  · intro w hSw; have cv := conv_slb (S4s.out.kp hSw); rw [HUU.out] at cv; go_simp; try with_reducible rfl
  go_simp
  refine wpAnyH_take (i := 3) (v := ?_) rfl (by kernel_rfl) (by kernel_rfl) (by kernel_rfl) (fun _ _ _ h => h) (Or.inl ⟨by rfl, ?_⟩) (by assumption) ?_
  rotate_left
  · intro w hSw; have cv := conv_slb (HB.out.kp (Kp.trans K4.out hSw)); rw [HSS.out] at cv; go_simp; try with_reducible rfl
  go_simp
  refine wpAnyH_ready (rs := [5]) (by kernel_rfl) (by simp) ?_
  refine AllReadyH.cons rfl (fun K hK => ?_) AllReadyH.nil
  go_simp
  go_wp2_with (go_at_call 10; (with_reducible refine (HRS.out _ (Kp.trans K4.out hHeld)).mono ?_); rintro e w5 ⟨rfl, rfl⟩)
  refine hK.out _ _ ?_ (fun hHeld => ?_)
  · exact hHeld
  clear hK K
  refine wpAnyH_ready (rs := [6]) (by kernel_rfl) (by simp) ?_
  refine AllReadyH.cons rfl (fun K hK => ?_) AllReadyH.nil
  go_simp
  go_wp2_with (go_at_call 15; (with_reducible refine (HRF.out _).mono ?_); rintro e w6 ⟨v6, rfl, ho6, hk6⟩; have cv6 := conv_slb (own_slb ho6); rw [HTT.out] at cv6; have K6 := Lib.hid (Kp.trans hHeld hk6); clear ho6 hk6)
  refine hK.out _ _ ?_ (fun hHeld => ?_)
  · exact K6.out
  clear hK K
  refine wpAnyH_ready (rs := [7]) (by kernel_rfl) (by simp) ?_
  refine AllReadyH.cons rfl (fun K hK => ?_) AllReadyH.nil
  go_simp
  refine hK.out _ _ ?_ (fun hHeld => ?_)
  · exact hHeld
  clear hK K
  refine wpAnyH_take (i := 8) (v := ?_) rfl (by kernel_rfl) (by kernel_rfl) (by kernel_rfl) (fun _ _ _ h => h) (Or.inl ⟨by rfl, ?_⟩) (by assumption) ?_
  rotate_left
  · intro w hSw; go_simp; rw [if_neg HSUM.out, HCAT.out]
  go_simp
  refine wpAnyH_take (i := 9) (v := ?_) rfl (by kernel_rfl) (by kernel_rfl) (by kernel_rfl) (fun _ _ _ h => h) (Or.inl ⟨by rfl, ?_⟩) (by assumption) ?_
  rotate_left
  · intro w hSw; go_simp; try with_reducible rfl
  go_simp
  refine wpAnyH_take (i := 10) (v := ?_) rfl (by kernel_rfl) (by kernel_rfl) (by kernel_rfl) (fun _ _ _ h => h) (Or.inl ⟨by rfl, ?_⟩) (by assumption) ?_
  rotate_left
  · intro w hSw; go_simp; try with_reducible rfl
  go_simp
  refine wpAnyH_take (i := 11) (v := ?_) rfl (by kernel_rfl) (by kernel_rfl) (by kernel_rfl) (fun _ _ _ h => h) (Or.inl ⟨by rfl, ?_⟩) (by assumption) ?_
  rotate_left
  · intro w hSw; go_simp; try with_reducible rfl
  go_simp
  refine wpAnyH_take (i := 12) (v := ?_) rfl (by kernel_rfl) (by kernel_rfl) (by kernel_rfl) (fun _ _ _ h => h) (Or.inl ⟨by rfl, ?_⟩) (by assumption) ?_
  rotate_left
  · intro w hSw; go_simp; try with_reducible rfl
  go_simp
  refine wpAnyH_take (i := 13) (v := ?_) rfl (by kernel_rfl) (by kernel_rfl) (by kernel_rfl) (fun _ _ _ h => h) (Or.inl ⟨by rfl, ?_⟩) (by assumption) ?_
  rotate_left
  · intro w hSw; go_simp; try with_reducible rfl
  go_simp
  refine wpAnyH_take (i := 14) (v := ?_) rfl (by kernel_rfl) (by kernel_rfl) (by kernel_rfl) (fun _ _ _ h => h) (Or.inl ⟨by rfl, ?_⟩) (by assumption) ?_
  rotate_left
  · intro w hSw; go_simp; try with_reducible rfl
  go_simp
  refine wpAnyH_take (i := 15) (v := ?_) rfl (by kernel_rfl) (by kernel_rfl) (by kernel_rfl) (fun _ _ _ h => h) (Or.inl ⟨by rfl, ?_⟩) (by assumption) ?_
  rotate_left
  · intro w hSw; go_simp; try with_reducible rfl
  go_simp
  refine wpAnyH_take (i := 17) (v := ?_) rfl (by kernel_rfl) (by kernel_rfl) (by kernel_rfl) (fun _ _ _ h => h) (Or.inl ⟨by rfl, ?_⟩) (by assumption) ?_
  rotate_left
  · intro w hSw; go_simp; try with_reducible rfl
  go_simp
  refine wpAnyH_take (i := 16) (v := ?_) rfl (by kernel_rfl) (by kernel_rfl) (by kernel_rfl) (fun _ _ _ h => h) (Or.inl ⟨by rfl, ?_⟩) (by assumption) ?_
  rotate_left
  · intro w hSw; have cv := conv_slb (S4v.out.kp hSw); rw [HSS.out] at cv; go_simp; try with_reducible rfl
  go_simp
  refine wpAnyH_take (i := 18) (v := ?_) rfl (by kernel_rfl) (by kernel_rfl) (by kernel_rfl) (fun _ _ _ h => h) (Or.inl ⟨by rfl, ?_⟩) (by assumption) ?_
  rotate_left
  · intro w hSw; have cv := conv_slb (HB.out.kp (Kp.trans K4.out hSw)); rw [HSS.out] at cv; go_simp; try with_reducible rfl
  go_simp
  refine wpAnyH_take (i := 19) (v := ?_) rfl (by kernel_rfl) (by kernel_rfl) (by kernel_rfl) (fun _ _ _ h => h) (Or.inl ⟨by rfl, ?_⟩) (by assumption) ?_
  rotate_left
  · intro w hSw; go_simp; try with_reducible rfl
  go_simp
  refine wpAnyH_take (i := 20) (v := ?_) rfl (by kernel_rfl) (by kernel_rfl) (by kernel_rfl) (fun _ _ _ h => h) (Or.inl ⟨by rfl, ?_⟩) (by assumption) ?_
  rotate_left
  · intro w hSw; go_simp; try with_reducible rfl
  go_simp
  refine wpAnyH_take (i := 21) (v := ?_) rfl (by kernel_rfl) (by kernel_rfl) (by kernel_rfl) (fun _ _ _ h => h) (Or.inl ⟨by rfl, ?_⟩) (by assumption) ?_
  rotate_left
  · intro w hSw; go_simp; try with_reducible rfl
  go_simp
  refine wpAnyH_take (i := 22) (v := ?_) rfl (by kernel_rfl) (by kernel_rfl) (by kernel_rfl) (fun _ _ _ h => h) (Or.inl ⟨by rfl, ?_⟩) (by assumption) ?_
  rotate_left
  · intro w hSw; go_simp; try with_reducible rfl
  go_simp
  refine wpAnyH_take (i := 23) (v := ?_) rfl (by kernel_rfl) (by kernel_rfl) (by kernel_rfl) (fun _ _ _ h => h) (Or.inl ⟨by rfl, ?_⟩) (by assumption) ?_
  rotate_left
  · intro w hSw; go_simp; try with_reducible rfl
  go_simp
  refine wpAnyH_ready (rs := [24]) (by kernel_rfl) (by simp) ?_
  refine AllReadyH.cons rfl (fun K hK => ?_) AllReadyH.nil
  go_simp
  go_wp2_with (go_at_call 16; go_loud (with_reducible refine (HKE.out _ hHeld).mono ?_); rintro e w7 ⟨rfl, hk7⟩; have K7 := Lib.hid (Kp.trans hHeld hk7); clear hk7)
  refine hK.out _ _ ?_ (fun hHeld => ?_)
  · exact K7.out
  clear hK K
  refine wpAnyH_take (i := 25) (v := ?_) rfl (by kernel_rfl) (by kernel_rfl) (by kernel_rfl) (fun _ _ _ h => h) (Or.inl ⟨by rfl, ?_⟩) (by assumption) ?_
  rotate_left
  · intro w hSw; go_simp; try with_reducible rfl
  go_simp
  refine wpAnyH_take (i := 26) (v := ?_) rfl (by kernel_rfl) (by kernel_rfl) (by kernel_rfl) (fun _ _ _ h => h) (Or.inl ⟨by rfl, ?_⟩) (by assumption) ?_
  rotate_left
  · intro w hSw; go_simp; try with_reducible rfl
  go_simp
  refine wpAnyH_done (by kernel_rfl) ?_ _
  go_wp2_with ((go_at_call 14; go_loud (with_reducible refine (HO2.out _ (Kp.trans K4.out hHeld)).mono ?_); rintro e w8 ⟨v8, rfl, ho8, hk8⟩; have K8 := Lib.hid (Kp.trans (Kp.trans K4.out hHeld) hk8); have S8v := Lib.hid (own_slb ho8); clear ho8 hk8))
  refine wp_region_held_drew (S := fun w' => Kp w8 w') (by kernel_rfl) ?_ (fun hHeld => ?_)
  · exact (Kp.refl w8).drew
  refine wpAnyH_take (i := 0) (v := ?_) rfl (by kernel_rfl) (by kernel_rfl) (by kernel_rfl) (fun _ _ _ h => h) (Or.inl ⟨by rfl, ?_⟩) (by assumption) ?_
  rotate_left
  · intro w hSw; go_simp; try with_reducible rfl
  go_simp
  refine wpAnyH_take (i := 1) (v := ?_) rfl (by kernel_rfl) (by kernel_rfl) (by kernel_rfl) (fun _ _ _ h => h) (Or.inl ⟨by rfl, ?_⟩) (by assumption) ?_
  rotate_left
  · intro w hSw; go_simp; try with_reducible rfl
  go_simp
  refine wpAnyH_take (i := 4) (v := ?_) rfl (by kernel_rfl) (by kernel_rfl) (by kernel_rfl) (fun _ _ _ h => h) (Or.inl ⟨by rfl, ?_⟩) (by assumption) ?_
  rotate_left
  · intro w hSw; go_simp; try with_reducible rfl
  go_simp
  refine wpAnyH_take (i := 5) (v := ?_) rfl (by kernel_rfl) (by kernel_rfl) (by kernel_rfl) (fun _ _ _ h => h) (Or.inl ⟨by rfl, ?_⟩) (by assumption) ?_
  rotate_left
  · intro w hSw; go_simp; try with_reducible rfl
  go_simp
  refine wpAnyH_take (i := 2) (v := ?_) rfl (by kernel_rfl) (by kernel_rfl) (by kernel_rfl) (fun _ _ _ h => h) (Or.inl ⟨by rfl, ?_⟩) (by assumption) ?_
  rotate_left
  · intro w hSw; go_simp; try with_reducible rfl
  go_simp
  refine wpAnyH_take (i := 6) (v := ?_) rfl (by kernel_rfl) (by kernel_rfl) (by kernel_rfl) (fun _ _ _ h => h) (Or.inl ⟨by rfl, ?_⟩) (by assumption) ?_
  rotate_left
  · intro w hSw; go_simp; try with_reducible rfl
  go_simp
  refine wpAnyH_take (i := 3) (v := ?_) rfl (by kernel_rfl) (by kernel_rfl) (by kernel_rfl) (fun _ _ _ h => h) (Or.inl ⟨by rfl, ?_⟩) (by assumption) ?_
  rotate_left
  · intro w hSw; have cv := conv_slb (T2.out.kp (Kp.trans K8.out hSw)); rw [HB2.out] at cv; go_simp; try with_reducible rfl
  go_simp
  refine wpAnyH_ready (rs := [7]) (by kernel_rfl) (by simp) ?_
  refine AllReadyH.cons rfl (fun K hK => ?_) AllReadyH.nil
  go_simp
  go_wp2_with (go_at_call 10; go_loud (with_reducible refine (HR2.out _ (Kp.trans K8.out hHeld)).mono ?_); rintro e w9 ⟨rfl, rfl⟩)
  refine hK.out _ _ ?_ (fun hHeld => ?_)
  · exact hHeld
  clear hK K
  refine wpAnyH_ready (rs := [8]) (by kernel_rfl) (by simp) ?_
  refine AllReadyH.cons rfl (fun K hK => ?_) AllReadyH.nil
  go_simp
  go_wp2_with (go_at_call 15; go_loud (with_reducible refine (HF2.out _).mono ?_); rintro e w10 ⟨v10, rfl, ho10, hk10⟩; have cv10 := conv_slb (own_slb ho10); rw [HFS.out] at cv10; have K10 := Lib.hid (Kp.trans hHeld hk10); clear ho10 hk10)
  refine hK.out _ _ ?_ (fun hHeld => ?_)
  · exact K10.out
  clear hK K
  refine wpAnyH_ready (rs := [9]) (by kernel_rfl) (by simp) ?_
  refine AllReadyH.cons rfl (fun K hK => ?_) AllReadyH.nil
  go_simp
  refine hK.out _ _ ?_ (fun hHeld => ?_)
  · exact hHeld
  clear hK K
  refine wpAnyH_take (i := 10) (v := ?_) rfl (by kernel_rfl) (by kernel_rfl) (by kernel_rfl) (fun _ _ _ h => h) (Or.inl ⟨by rfl, ?_⟩) (by assumption) ?_
  rotate_left
  · intro w hSw; go_simp; rw [QD.out, Bool.not_true]
  go_simp
  refine wpAnyH_take (i := 11) (v := ?_) rfl (by kernel_rfl) (by kernel_rfl) (by kernel_rfl) (fun _ _ _ h => h) (Or.inl ⟨by rfl, ?_⟩) (by assumption) ?_
  rotate_left
  · intro w hSw; go_simp; try with_reducible rfl
  go_simp
  refine wpAnyH_done (by kernel_rfl) ?_ _
  go_wp2
  have H14 := Lib.hid hHeld
  have K11 := Lib.hid (Kp.trans K8.out hHeld)
  clear hHeld
  refine wp_region_held_drew (S := fun w' => Kp w10 w') (by kernel_rfl) ?_ (fun hHeld => ?_)
  · exact (Kp.refl w10).drew
  refine wpAnyH_take (i := 0) (v := ?_) rfl (by kernel_rfl) (by kernel_rfl) (by kernel_rfl) (fun _ _ _ h => h) (Or.inl ⟨by rfl, ?_⟩) (by assumption) ?_
  rotate_left
  · intro w hSw; go_simp; try with_reducible rfl
  go_simp
  refine wpAnyH_take (i := 1) (v := ?_) rfl (by kernel_rfl) (by kernel_rfl) (by kernel_rfl) (fun _ _ _ h => h) (Or.inl ⟨by rfl, ?_⟩) (by assumption) ?_
  rotate_left
  · intro w hSw; go_simp; try with_reducible rfl
  go_simp
  refine wpAnyH_take (i := 2) (v := ?_) rfl (by kernel_rfl) (by kernel_rfl) (by kernel_rfl) (fun _ _ _ h => h) (Or.inl ⟨by rfl, ?_⟩) (by assumption) ?_
  rotate_left
  · intro w hSw; go_simp; try with_reducible rfl
  go_simp
  refine wpAnyH_take (i := 3) (v := ?_) rfl (by kernel_rfl) (by kernel_rfl) (by kernel_rfl) (fun _ _ _ h => h) (Or.inl ⟨by rfl, ?_⟩) (by assumption) ?_
  rotate_left
  · intro w hSw; go_simp; try with_reducible rfl
  go_simp
  refine wpAnyH_take (i := 5) (v := ?_) rfl (by kernel_rfl) (by kernel_rfl) (by kernel_rfl) (fun _ _ _ h => h) (Or.inl ⟨by rfl, ?_⟩) (by assumption) ?_
  rotate_left
  · intro w hSw; go_simp; try with_reducible rfl
  go_simp
  refine wpAnyH_take (i := 6) (v := ?_) rfl (by kernel_rfl) (by kernel_rfl) (by kernel_rfl) (fun _ _ _ h => h) (Or.inl ⟨by rfl, ?_⟩) (by assumption) ?_
  rotate_left
  · intro w hSw; go_simp; try with_reducible rfl
  go_simp
  refine wpAnyH_take (i := 7) (v := ?_) rfl (by kernel_rfl) (by kernel_rfl) (by kernel_rfl) (fun _ _ _ h => h) (Or.inl ⟨by rfl, ?_⟩) (by assumption) ?_
  rotate_left
  · intro w hSw; go_simp; try with_reducible rfl
  go_simp
  refine wpAnyH_take (i := 4) (v := ?_) rfl (by kernel_rfl) (by kernel_rfl) (by kernel_rfl) (fun _ _ _ h => h) (Or.inl ⟨by rfl, ?_⟩) (by assumption) ?_
  rotate_left
  · intro w hSw; have cv := conv_slb (S8v.out.kp (Kp.trans H14.out hSw)); rw [HB1.out] at cv; go_simp; try with_reducible rfl
  go_simp
  refine wpAnyH_take (i := 8) (v := ?_) rfl (by kernel_rfl) (by kernel_rfl) (by kernel_rfl) (fun _ _ _ h => h) (Or.inl ⟨by rfl, ?_⟩) (by assumption) ?_
  rotate_left
  · intro w hSw; have cv := conv_slb (T1.out.kp (Kp.trans K11.out hSw)); rw [HB1.out] at cv; go_simp; try with_reducible rfl
  go_simp
  refine wpAnyH_take (i := 9) (v := ?_) rfl (by kernel_rfl) (by kernel_rfl) (by kernel_rfl) (fun _ _ _ h => h) (Or.inl ⟨by rfl, ?_⟩) (by assumption) ?_
  rotate_left
  · intro w hSw; go_simp; try with_reducible rfl
  go_simp
  refine wpAnyH_take (i := 10) (v := ?_) rfl (by kernel_rfl) (by kernel_rfl) (by kernel_rfl) (fun _ _ _ h => h) (Or.inl ⟨by rfl, ?_⟩) (by assumption) ?_
  rotate_left
  · intro w hSw; go_simp; try with_reducible rfl
  go_simp
  refine wpAnyH_take (i := 11) (v := ?_) rfl (by kernel_rfl) (by kernel_rfl) (by kernel_rfl) (fun _ _ _ h => h) (Or.inl ⟨by rfl, ?_⟩) (by assumption) ?_
  rotate_left
  · intro w hSw; go_simp; try with_reducible rfl
  go_simp
  refine wpAnyH_done (by kernel_rfl) ?_ _
  go_wp2
  go_ret
  exact ⟨rfl, Kp.trans K11.out hHeld⟩
end Go.Proofs.YtdcbmajmhfhaaaaDoor
