/-
  FieldsNumbers' WALKS (own work).
-/
import Derived.Test.YtfealdllicicnaaDoorNumL
import Derived.BigQuiet
import Derived.Deep.RegionWith
namespace Go.Proofs.YtfealdllicicnaaDoor
open Go.RowKit Go.ChangeShapes Go.WideShapes

theorem numbers_long (ads : List Addr) (n : Int) (a : Option Addr) (cap len : Nat) (hl : 100 < len) (w : World) (V : St ads w) :
    Calls Tryd.prog 5 #[.int .i64 n, .slice a len cap] w fun e w' => e = .returned (.bool true) ∧ Kp w w' := by
  have HA := Lib.hid (alive_any ads w V)
  obtain ⟨ll, hll⟩ : ∃ ll : Int, (len : Int) = ll := ⟨_, rfl⟩
  have h : ll > 100 := by omega
  clear V
  go_enter Tryd.func5, Tryd.ntmps5
  go_wp2_with (go_at_call 9; (with_reducible refine HA.out.mono ?_); rintro e w1 ⟨rfl, hw1⟩)
  go_ret
  exact ⟨rfl, hw1⟩

set_option maxRecDepth 20000 in
set_option maxHeartbeats 1000000 in
theorem numbers_neg (ads : List Addr) (n : Int) (hn : n < 0) (a : Option Addr) (cap : Nat) (bs : List Int) (len : Nat) (hlen : bs.length = len) (hl : len ≤ 100) (hb : InB bs) (w : World) (V : St ads w) (hs : SlB (.slice a len cap) bs w) :
    Calls Tryd.prog 5 #[.int .i64 n, .slice a len cap] w fun e w' => e = .returned (.bool true) ∧ Kp w w' := by
  have h14 : ads.length = 14 := V.len
  have h0 : 0 < ads.length := by omega
  have HA := Lib.hid (alive_any ads w V)
  have HN := Lib.hid (fun w1 (hk : Kp w w1) => number_err ads h0 n hn w1 (V.below hk))
  have HE := Lib.hid (fun w1 (hk : Kp w w1) => num_err ads w1 (V.below hk) 0 (by decide) h0)
  have HT := Lib.hid (fun w1 (hk : Kp w w1) => toNumber_any ads a cap bs len hlen hb w1 (V.below hk) (hs.kp hk))
  have HR := Lib.hid (fun w1 (hk : Kp w w1) => refToNumber_any a cap bs len hlen (by omega) hb w1 (hs.kp hk))
  have HQ := Lib.hid (fun w1 (hk : Kp w w1) => num_errN ads w1 (V.below hk) (toNum bs).2 (toNum_two bs))
  obtain ⟨x, hx⟩ : ∃ x, (toNum bs).1 = x := ⟨_, rfl⟩
  obtain ⟨k, hk⟩ : ∃ k, (toNum bs).2 = k := ⟨_, rfl⟩
  simp only [hx, hk] at HT HR HQ
  obtain ⟨E, hE⟩ : ∃ E, errN ads k = E := ⟨_, rfl⟩
  simp only [hE] at HT HQ
  obtain ⟨a0, ha0⟩ : ∃ a0, ads[0]'h0 = a0 := ⟨_, rfl⟩
  simp only [ha0] at HN HE
  obtain ⟨ll, hll⟩ : ∃ ll : Int, (len : Int) = ll := ⟨_, rfl⟩
  have hng : ¬ ll > 100 := by omega
  clear V hs h14 hx hk hE ha0 hb hlen
  go_enter Tryd.func5, Tryd.ntmps5
  go_wp2_with (first | (go_at_call 9; (with_reducible refine HA.out.mono ?_); rintro e w1 ⟨rfl, hw1⟩; have K1 := Lib.hid hw1; clear hw1) | (go_at_call 22; (with_reducible refine (HN.out _ K1.out).mono ?_); rintro e w2 ⟨rfl, hw2⟩; have K2 := Lib.hid (Kp.trans K1.out hw2); clear hw2) | (go_at_call 15; (with_reducible refine (HE.out _ K2.out).mono ?_); rintro e w3 ⟨rfl, hw3⟩; have K3 := Lib.hid (Kp.trans K2.out hw3); clear hw3) | (go_at_call 23; (with_reducible refine (HT.out _ K3.out).mono ?_); rintro e w4 ⟨rfl, hw4⟩; have K4 := Lib.hid (Kp.trans K3.out hw4); clear hw4) | (go_at_call 25; (with_reducible refine (HR.out _ K4.out).mono ?_); rintro e w5 ⟨rfl, rfl⟩) | (go_at_call 15; (with_reducible refine (HQ.out _ K4.out).mono ?_); rintro e w6 ⟨rfl, hw6⟩; have K6 := Lib.hid (Kp.trans K4.out hw6); clear hw6))
  go_ret
  exact ⟨by simp, K6.out⟩

set_option maxRecDepth 20000 in
set_option maxHeartbeats 4000000 in
theorem numbers_pos (ads : List Addr) (n : Nat) (hn : n < 9223372036854775808) (nn : Int) (hnn : (n : Int) = nn) (a : Option Addr) (cap : Nat) (bs : List Int) (len : Nat) (hlen : bs.length = len) (hl : len ≤ 100) (hb : InB bs) (w : World) (V : St ads w) (hs : SlB (.slice a len cap) bs w) :
    Calls Tryd.prog 5 #[.int .i64 nn, .slice a len cap] w fun e w' => e = .returned (.bool true) ∧ Kp w w' := by
  have h14 : ads.length = 14 := V.len
  have HA := Lib.hid (alive_any ads w V)
  have HN := Lib.hid (fun w1 (hk : Kp w w1) => number_any ads n hn nn hnn w1 (V.below hk))
  have HB := Lib.hid (fun w1 (hk : Kp w w1) (a : Option Addr) (cap : Nat) (hs : SlB (.slice a (beF 8 n).length cap) (beF 8 n) w1) => toNumber_any ads a cap (beF 8 n) _ rfl (beF_inB 8 n) w1 (V.below hk) hs)
  simp only [toNum_beF n hn, hnn] at HB
  have HF := Lib.hid (fun w1 => refNumber_any 8 (by omega) n (Nat.lt_trans hn (by decide)) nn hnn w1)
  have HT := Lib.hid (fun w1 (hk : Kp w w1) => toNumber_any ads a cap bs len hlen hb w1 (V.below hk) (hs.kp hk))
  have HR := Lib.hid (fun w1 (hk : Kp w w1) => refToNumber_any a cap bs len hlen (by omega) hb w1 (hs.kp hk))
  have HQ := Lib.hid (fun w1 (hk : Kp w w1) => num_errN ads w1 (V.below hk) (toNum bs).2 (toNum_two bs))
  obtain ⟨x, hx⟩ : ∃ x, (toNum bs).1 = x := ⟨_, rfl⟩
  obtain ⟨k, hk⟩ : ∃ k, (toNum bs).2 = k := ⟨_, rfl⟩
  simp only [hx, hk] at HT HR HQ
  obtain ⟨E, hE⟩ : ∃ E, errN ads k = E := ⟨_, rfl⟩
  simp only [hE] at HT HQ
  have e0 : errN ads 0 = .nilIface := rfl
  simp only [e0] at HB
  obtain ⟨fb, hfb⟩ : ∃ fb, beF 8 n = fb := ⟨_, rfl⟩
  simp only [hfb] at HN HB HF
  obtain ⟨ss, hss⟩ : ∃ ss, strOfNums fb = ss := ⟨_, rfl⟩
  have HSS := Lib.hid hss
  obtain ⟨fl, hfl⟩ : ∃ fl, fb.length = fl := ⟨_, rfl⟩
  simp only [hfl] at HN HB HF
  obtain ⟨ll, hll⟩ : ∃ ll : Int, (len : Int) = ll := ⟨_, rfl⟩
  have hng : ¬ ll > 100 := by omega
  have hn0 : ¬ nn < 0 := by omega
  clear V hs h14 hx hk hE hb hlen hfb hn hnn hss
  go_enter Tryd.func5, Tryd.ntmps5
  go_wp2_with (first | (go_at_call 9; (with_reducible refine HA.out.mono ?_); rintro e w1 ⟨rfl, hw1⟩; have K1 := Lib.hid hw1; clear hw1) | (go_at_call 22; (with_reducible refine (HN.out _ K1.out).mono ?_); rintro e w2 ⟨v1, rfl, ho2, hw2⟩; have K2 := Lib.hid (Kp.trans K1.out hw2); have s2 := own_slb ho2; have hfm := s2.form; rw [hfl] at hfm; obtain ⟨a1, c1, rfl⟩ := hfm; have S2 := Lib.hid s2; have HB2 := Lib.hid (HB.out _ K2.out a1 c1 s2); clear hw2 ho2 s2) | (go_at_call 23; (with_reducible refine HB2.out.mono ?_); rintro e w3 ⟨rfl, hw3⟩; have K3 := Lib.hid (Kp.trans K2.out hw3); have S3 := Lib.hid (S2.out.kp hw3); have cv3 := conv_slb (S2.out.kp (Kp.trans hw3 (Kp.refl w3).drew)); rw [HSS.out] at cv3; clear hw3))
  have KD := Lib.hid (Kp.trans K3.out (Kp.refl w3).drew)
  have q1 : (ss.toList == ss.toList) = true := by simp
  have q2 : (nn != nn) = false := by simp
  have q3 : (nn == nn) = true := by simp
  refine wp_region_any (by kernel_rfl) ?_
  change wpAny _ _ _ _ _ _ _ (World.drew _)
  refine wpAny_take (i := 0) (v := ?_) rfl (by kernel_rfl) (by kernel_rfl) (by kernel_rfl) (fun _ _ _ h => h) (Or.inl ⟨by rfl, ?_⟩) ?_
  rotate_left
  · intro w; go_simp; try with_reducible rfl
  go_simp
  refine wpAny_take (i := 1) (v := ?_) rfl (by kernel_rfl) (by kernel_rfl) (by kernel_rfl) (fun _ _ _ h => h) (Or.inl ⟨by rfl, ?_⟩) ?_
  rotate_left
  · intro w; go_simp; try with_reducible rfl
  go_simp
  refine wpAny_take (i := 2) (v := ?_) rfl (by kernel_rfl) (by kernel_rfl) (by kernel_rfl) (fun _ _ _ h => h) (Or.inl ⟨by rfl, ?_⟩) ?_
  rotate_left
  · intro w; go_simp; try with_reducible rfl
  go_simp
  refine wpAny_take (i := 3) (v := ?_) rfl (by kernel_rfl) (by kernel_rfl) (by kernel_rfl) (fun _ _ _ h => h) (Or.inl ⟨by rfl, ?_⟩) ?_
  rotate_left
  · intro w; go_simp; try with_reducible rfl
  go_simp
  refine wpAny_take (i := 5) (v := ?_) rfl (by kernel_rfl) (by kernel_rfl) (by kernel_rfl) (fun _ _ _ h => h) (Or.inl ⟨by rfl, ?_⟩) ?_
  rotate_left
  · intro w; go_simp; try with_reducible rfl
  go_simp
  refine wpAny_ready (rs := [4, 6]) (by kernel_rfl) (by simp) ?_
  refine AllReady.cons rfl (fun K hK => ?_) (AllReady.cons rfl (fun K hK => ?_) AllReady.nil)
  · go_simp
    refine hK _ _ ?_
    clear hK K
    refine wpAny_ready (rs := [6]) (by kernel_rfl) (by simp) ?_
    refine AllReady.cons rfl (fun K hK => ?_) AllReady.nil
    go_simp
    go_wp2_with (go_at_call 24; (with_reducible refine (HF.out _).mono ?_); rintro e w4 ⟨v4, rfl, ho4, hk4⟩; have cv4 := conv_slb (own_slb ho4); rw [HSS.out] at cv4; have cw4 := conv_slb (S3.out.kp (Kp.trans (Kp.refl w3).drew hk4)); rw [HSS.out] at cw4; have K4 := Lib.hid (Kp.trans KD.out hk4); clear ho4 hk4)
    refine wpAny_ready (rs := [7]) (by kernel_rfl) (by simp) ?_
    refine AllReady.cons rfl (fun K hK => ?_) AllReady.nil
    go_simp
    refine hK _ _ ?_
    clear hK K
    refine wpAny_take (i := 8) (v := ?_) rfl (by kernel_rfl) (by kernel_rfl) (by kernel_rfl) (fun _ _ _ h => h) (Or.inl ⟨by rfl, ?_⟩) ?_
    rotate_left
    · intro w; go_simp; try with_reducible rfl
    go_simp
    refine wpAny_take (i := 9) (v := ?_) rfl (by kernel_rfl) (by kernel_rfl) (by kernel_rfl) (fun _ _ _ h => h) (Or.inl ⟨by rfl, ?_⟩) ?_
    rotate_left
    · intro w; go_simp; try with_reducible rfl
    go_simp
    refine wpAny_take (i := 10) (v := ?_) rfl (by kernel_rfl) (by kernel_rfl) (by kernel_rfl) (fun _ _ _ h => h) (Or.inl ⟨by rfl, ?_⟩) ?_
    rotate_left
    · intro w; go_simp; try with_reducible rfl
    go_simp
    refine wpAny_take (i := 11) (v := ?_) rfl (by kernel_rfl) (by kernel_rfl) (by kernel_rfl) (fun _ _ _ h => h) (Or.inl ⟨by rfl, ?_⟩) ?_
    rotate_left
    · intro w; go_simp; try with_reducible rfl
    go_simp
    refine wpAny_take (i := 12) (v := ?_) rfl (by kernel_rfl) (by kernel_rfl) (by kernel_rfl) (fun _ _ _ h => h) (Or.inl ⟨by rfl, ?_⟩) ?_
    rotate_left
    · intro w; go_simp; try with_reducible rfl
    go_simp
    refine wpAny_take (i := 13) (v := ?_) rfl (by kernel_rfl) (by kernel_rfl) (by kernel_rfl) (fun _ _ _ h => h) (Or.inl ⟨by rfl, ?_⟩) ?_
    rotate_left
    · intro w; go_simp; try with_reducible rfl
    go_simp
    refine wpAny_take (i := 14) (v := ?_) rfl (by kernel_rfl) (by kernel_rfl) (by kernel_rfl) (fun _ _ _ h => h) (Or.inl ⟨by rfl, ?_⟩) ?_
    rotate_left
    · intro w; go_simp; try with_reducible rfl
    go_simp
    refine wpAny_take (i := 15) (v := ?_) rfl (by kernel_rfl) (by kernel_rfl) (by kernel_rfl) (fun _ _ _ h => h) (Or.inl ⟨by rfl, ?_⟩) ?_
    rotate_left
    · intro w; go_simp; try with_reducible rfl
    go_simp
    refine wpAny_take (i := 16) (v := ?_) rfl (by kernel_rfl) (by kernel_rfl) (by kernel_rfl) (fun _ _ _ h => h) (Or.inl ⟨by rfl, ?_⟩) ?_
    rotate_left
    · intro w; go_simp; try with_reducible rfl
    go_simp
    refine wpAny_take (i := 17) (v := ?_) rfl (by kernel_rfl) (by kernel_rfl) (by kernel_rfl) (fun _ _ _ h => h) (Or.inl ⟨by rfl, ?_⟩) ?_
    rotate_left
    · intro w; go_simp; try with_reducible rfl
    go_simp
    refine wpAny_take (i := 18) (v := ?_) rfl (by kernel_rfl) (by kernel_rfl) (by kernel_rfl) (fun _ _ _ h => h) (Or.inl ⟨by rfl, ?_⟩) ?_
    rotate_left
    · intro w; go_simp; try with_reducible rfl
    go_simp
    refine wpAny_done (by kernel_rfl) ?_ _
    go_wp2_with (first | (go_at_call 23; (with_reducible refine (HT.out _ K4.out).mono ?_); rintro e w5 ⟨rfl, hw5⟩; have K5 := Lib.hid (Kp.trans K4.out hw5); clear hw5) | (go_at_call 25; (with_reducible refine (HR.out _ K5.out).mono ?_); rintro e w6 ⟨rfl, rfl⟩) | (go_at_call 15; (with_reducible refine (HQ.out _ K5.out).mono ?_); rintro e w7 ⟨rfl, hw7⟩; have K7 := Lib.hid (Kp.trans K5.out hw7); clear hw7))
    go_ret
    exact ⟨by simp, K7.out⟩
  · go_simp
    go_wp2_with (go_at_call 24; (with_reducible refine (HF.out _).mono ?_); rintro e w4 ⟨v4, rfl, ho4, hk4⟩; have cv4 := conv_slb (own_slb ho4); rw [HSS.out] at cv4; have cw4 := conv_slb (S3.out.kp (Kp.trans (Kp.refl w3).drew hk4)); rw [HSS.out] at cw4; have K4 := Lib.hid (Kp.trans KD.out hk4); clear ho4 hk4)
    refine wpAny_ready (rs := [4, 7]) (by kernel_rfl) (by simp) ?_
    refine AllReady.cons rfl (fun K hK => ?_) (AllReady.cons rfl (fun K hK => ?_) AllReady.nil)
    · go_simp
      refine hK _ _ ?_
      clear hK K
      refine wpAny_ready (rs := [7]) (by kernel_rfl) (by simp) ?_
      refine AllReady.cons rfl (fun K hK => ?_) AllReady.nil
      go_simp
      refine hK _ _ ?_
      clear hK K
      refine wpAny_take (i := 8) (v := ?_) rfl (by kernel_rfl) (by kernel_rfl) (by kernel_rfl) (fun _ _ _ h => h) (Or.inl ⟨by rfl, ?_⟩) ?_
      rotate_left
      · intro w; go_simp; try with_reducible rfl
      go_simp
      refine wpAny_take (i := 9) (v := ?_) rfl (by kernel_rfl) (by kernel_rfl) (by kernel_rfl) (fun _ _ _ h => h) (Or.inl ⟨by rfl, ?_⟩) ?_
      rotate_left
      · intro w; go_simp; try with_reducible rfl
      go_simp
      refine wpAny_take (i := 10) (v := ?_) rfl (by kernel_rfl) (by kernel_rfl) (by kernel_rfl) (fun _ _ _ h => h) (Or.inl ⟨by rfl, ?_⟩) ?_
      rotate_left
      · intro w; go_simp; try with_reducible rfl
      go_simp
      refine wpAny_take (i := 11) (v := ?_) rfl (by kernel_rfl) (by kernel_rfl) (by kernel_rfl) (fun _ _ _ h => h) (Or.inl ⟨by rfl, ?_⟩) ?_
      rotate_left
      · intro w; go_simp; try with_reducible rfl
      go_simp
      refine wpAny_take (i := 12) (v := ?_) rfl (by kernel_rfl) (by kernel_rfl) (by kernel_rfl) (fun _ _ _ h => h) (Or.inl ⟨by rfl, ?_⟩) ?_
      rotate_left
      · intro w; go_simp; try with_reducible rfl
      go_simp
      refine wpAny_take (i := 13) (v := ?_) rfl (by kernel_rfl) (by kernel_rfl) (by kernel_rfl) (fun _ _ _ h => h) (Or.inl ⟨by rfl, ?_⟩) ?_
      rotate_left
      · intro w; go_simp; try with_reducible rfl
      go_simp
      refine wpAny_take (i := 14) (v := ?_) rfl (by kernel_rfl) (by kernel_rfl) (by kernel_rfl) (fun _ _ _ h => h) (Or.inl ⟨by rfl, ?_⟩) ?_
      rotate_left
      · intro w; go_simp; try with_reducible rfl
      go_simp
      refine wpAny_take (i := 15) (v := ?_) rfl (by kernel_rfl) (by kernel_rfl) (by kernel_rfl) (fun _ _ _ h => h) (Or.inl ⟨by rfl, ?_⟩) ?_
      rotate_left
      · intro w; go_simp; try with_reducible rfl
      go_simp
      refine wpAny_take (i := 16) (v := ?_) rfl (by kernel_rfl) (by kernel_rfl) (by kernel_rfl) (fun _ _ _ h => h) (Or.inl ⟨by rfl, ?_⟩) ?_
      rotate_left
      · intro w; go_simp; try with_reducible rfl
      go_simp
      refine wpAny_take (i := 17) (v := ?_) rfl (by kernel_rfl) (by kernel_rfl) (by kernel_rfl) (fun _ _ _ h => h) (Or.inl ⟨by rfl, ?_⟩) ?_
      rotate_left
      · intro w; go_simp; try with_reducible rfl
      go_simp
      refine wpAny_take (i := 18) (v := ?_) rfl (by kernel_rfl) (by kernel_rfl) (by kernel_rfl) (fun _ _ _ h => h) (Or.inl ⟨by rfl, ?_⟩) ?_
      rotate_left
      · intro w; go_simp; try with_reducible rfl
      go_simp
      refine wpAny_done (by kernel_rfl) ?_ _
      go_wp2_with (first | (go_at_call 23; (with_reducible refine (HT.out _ K4.out).mono ?_); rintro e w5 ⟨rfl, hw5⟩; have K5 := Lib.hid (Kp.trans K4.out hw5); clear hw5) | (go_at_call 25; (with_reducible refine (HR.out _ K5.out).mono ?_); rintro e w6 ⟨rfl, rfl⟩) | (go_at_call 15; (with_reducible refine (HQ.out _ K5.out).mono ?_); rintro e w7 ⟨rfl, hw7⟩; have K7 := Lib.hid (Kp.trans K5.out hw7); clear hw7))
      go_ret
      exact ⟨by simp, K7.out⟩
    · go_simp
      refine hK _ _ ?_
      clear hK K
      refine wpAny_ready (rs := [4]) (by kernel_rfl) (by simp) ?_
      refine AllReady.cons rfl (fun K hK => ?_) AllReady.nil
      go_simp
      refine hK _ _ ?_
      clear hK K
      refine wpAny_take (i := 8) (v := ?_) rfl (by kernel_rfl) (by kernel_rfl) (by kernel_rfl) (fun _ _ _ h => h) (Or.inl ⟨by rfl, ?_⟩) ?_
      rotate_left
      · intro w; go_simp; try with_reducible rfl
      go_simp
      refine wpAny_take (i := 9) (v := ?_) rfl (by kernel_rfl) (by kernel_rfl) (by kernel_rfl) (fun _ _ _ h => h) (Or.inl ⟨by rfl, ?_⟩) ?_
      rotate_left
      · intro w; go_simp; try with_reducible rfl
      go_simp
      refine wpAny_take (i := 10) (v := ?_) rfl (by kernel_rfl) (by kernel_rfl) (by kernel_rfl) (fun _ _ _ h => h) (Or.inl ⟨by rfl, ?_⟩) ?_
      rotate_left
      · intro w; go_simp; try with_reducible rfl
      go_simp
      refine wpAny_take (i := 11) (v := ?_) rfl (by kernel_rfl) (by kernel_rfl) (by kernel_rfl) (fun _ _ _ h => h) (Or.inl ⟨by rfl, ?_⟩) ?_
      rotate_left
      · intro w; go_simp; try with_reducible rfl
      go_simp
      refine wpAny_take (i := 12) (v := ?_) rfl (by kernel_rfl) (by kernel_rfl) (by kernel_rfl) (fun _ _ _ h => h) (Or.inl ⟨by rfl, ?_⟩) ?_
      rotate_left
      · intro w; go_simp; try with_reducible rfl
      go_simp
      refine wpAny_take (i := 13) (v := ?_) rfl (by kernel_rfl) (by kernel_rfl) (by kernel_rfl) (fun _ _ _ h => h) (Or.inl ⟨by rfl, ?_⟩) ?_
      rotate_left
      · intro w; go_simp; try with_reducible rfl
      go_simp
      refine wpAny_take (i := 14) (v := ?_) rfl (by kernel_rfl) (by kernel_rfl) (by kernel_rfl) (fun _ _ _ h => h) (Or.inl ⟨by rfl, ?_⟩) ?_
      rotate_left
      · intro w; go_simp; try with_reducible rfl
      go_simp
      refine wpAny_take (i := 15) (v := ?_) rfl (by kernel_rfl) (by kernel_rfl) (by kernel_rfl) (fun _ _ _ h => h) (Or.inl ⟨by rfl, ?_⟩) ?_
      rotate_left
      · intro w; go_simp; try with_reducible rfl
      go_simp
      refine wpAny_take (i := 16) (v := ?_) rfl (by kernel_rfl) (by kernel_rfl) (by kernel_rfl) (fun _ _ _ h => h) (Or.inl ⟨by rfl, ?_⟩) ?_
      rotate_left
      · intro w; go_simp; try with_reducible rfl
      go_simp
      refine wpAny_take (i := 17) (v := ?_) rfl (by kernel_rfl) (by kernel_rfl) (by kernel_rfl) (fun _ _ _ h => h) (Or.inl ⟨by rfl, ?_⟩) ?_
      rotate_left
      · intro w; go_simp; try with_reducible rfl
      go_simp
      refine wpAny_take (i := 18) (v := ?_) rfl (by kernel_rfl) (by kernel_rfl) (by kernel_rfl) (fun _ _ _ h => h) (Or.inl ⟨by rfl, ?_⟩) ?_
      rotate_left
      · intro w; go_simp; try with_reducible rfl
      go_simp
      refine wpAny_done (by kernel_rfl) ?_ _
      go_wp2_with (first | (go_at_call 23; (with_reducible refine (HT.out _ K4.out).mono ?_); rintro e w5 ⟨rfl, hw5⟩; have K5 := Lib.hid (Kp.trans K4.out hw5); clear hw5) | (go_at_call 25; (with_reducible refine (HR.out _ K5.out).mono ?_); rintro e w6 ⟨rfl, rfl⟩) | (go_at_call 15; (with_reducible refine (HQ.out _ K5.out).mono ?_); rintro e w7 ⟨rfl, hw7⟩; have K7 := Lib.hid (Kp.trans K5.out hw7); clear hw7))
      go_ret
      exact ⟨by simp, K7.out⟩
end Go.Proofs.YtfealdllicicnaaDoor
