/-
  FieldsFloats' WALKS (own work).
-/
import Derived.Test.YtfealdllicicnaaDoorUnlV
import Derived.Test.YtfealdllicicnaaDoorFltF
import Derived.Test.YtfealdllicicnaaDoorJoinX
namespace Go.Proofs.YtfealdllicicnaaDoor
open Go.RowKit Go.ChangeShapes Go.WideShapes

theorem beNum_dig : ∀ (m x : Nat), beNum (digB x m) = ((x % 256 ^ m : Nat) : Int)
  | 0, x => by simp [digB, beNum, Nat.mod_one]
  | m + 1, x => by
    rw [digB_next, beNum_push, beNum_dig m (x / 256)]
    have e : x % 256 ^ (m + 1) = 256 * (x / 256 % 256 ^ m) + x % 256 := by
      rw [Nat.pow_succ, Nat.mul_comm (256 ^ m) 256, Nat.mod_mul]
      omega
    rw [e]
    omega
theorem beNum_f8 (p : Nat) (h : p < 18446744073709551616) : beNum (f8 p) = p := by
  rw [← dig8, beNum_dig, Nat.mod_eq_of_lt (Nat.lt_of_lt_of_eq h (by decide))]
theorem f8_in (p : Nat) : InB (f8 p) := by
  intro x hx
  rw [← dig8] at hx
  unfold digB at hx
  obtain ⟨i, _, rfl⟩ := List.mem_map.1 hx
  unfold fb
  omega
theorem toFl_f8 (p : Nat) (h : p < 18446744073709551616) (hp : Fl.plain p = p) : toFl (f8 p) = (p, 0) := by
  unfold toFl
  rw [beNum_f8 p h]
  rw [if_pos ⟨rfl, by simpa using hp⟩]
  simp
theorem toFl_two (bs : List Int) : (toFl bs).2 = 0 ∨ (toFl bs).2 = 1 ∨ (toFl bs).2 = 4 := by
  unfold toFl
  split
  · exact .inl rfl
  · exact .inr (.inr rfl)
theorem toFloat_e (ads : List Addr) (a : Option Addr) (cap : Nat) (bs : List Int) (len : Nat) (hlen : bs.length = len) (hb : InB bs) (w : World) (V : St ads w) (hs : SlB (.slice a len cap) bs w) :
    Calls Tryd.prog 27 #[.slice a len cap] w fun e w' => e = .returned (.tuple #[.float .f64 (toFl bs).1, errN ads (toFl bs).2]) ∧ Kp w w' := by
  have h14 : ads.length = 14 := V.len
  have h3 : 3 < ads.length := by omega
  refine (toFloat_any ads h3 a cap bs len hlen hb w V hs).mono ?_
  rintro e w' ⟨h, hk⟩
  refine ⟨?_, hk⟩
  rcases h with ⟨h, rfl⟩ | ⟨h, h1, rfl⟩
  · rw [h]; rfl
  · have e4 : errN ads 4 = snt (ads[3]'h3) := by unfold errN; simp [List.getElem?_eq_getElem h3]
    rw [h, h1, e4]

theorem floats_long (ads : List Addr) (b : Nat) (a : Option Addr) (cap len : Nat) (hl : 100 < len) (is : Bool) (w : World) (V : St ads w) :
    Calls Tryd.prog 6 #[.float .f64 b, .slice a len cap, .bool is] w fun e w' => e = .returned (.bool true) ∧ Kp w w' := by
  have HA := Lib.hid (alive_any ads w V)
  obtain ⟨ll, hll⟩ : ∃ ll : Int, (len : Int) = ll := ⟨_, rfl⟩
  have h : ll > 100 := by omega
  clear V
  go_enter Tryd.func6, Tryd.ntmps6
  go_wp2_with (go_at_call 9; (with_reducible refine HA.out.mono ?_); rintro e w1 ⟨rfl, hw1⟩)
  go_ret
  exact ⟨rfl, hw1⟩

set_option maxRecDepth 20000 in
set_option maxHeartbeats 4000000 in
theorem floats_0 (ads : List Addr) (h3 : 3 < ads.length) (b : Nat) (hb : b < 18446744073709551616) (a : Option Addr) (cap : Nat) (bs : List Int) (len : Nat) (hlen : bs.length = len) (hl : len ≤ 100) (hin : InB bs) (is : Bool) (w : World) (V : St ads w) (hs : SlB (.slice a len cap) bs w) (h0 : len = 0) :
    Calls Tryd.prog 6 #[.float .f64 b, .slice a len cap, .bool is] w fun e w' => e = .returned (.bool true) ∧ Kp w w' := by
  have f1 : isFlag bs = true := decide_eq_true (.inl (by omega))
  have f2 : decide (bs.length = 1) = false := decide_eq_false (by omega)
  have htf := fun w1 (hk : Kp w w1) => toFlag_any ads a cap bs len hlen h3 w1 (V.below hk) (hs.kp hk)
  simp only [f1, f2, if_true] at htf
  clear f1 f2
  subst h0
  obtain ⟨ll, hll⟩ : ∃ ll : Int, ((0 : Nat) : Int) = ll := ⟨_, rfl⟩
  have HA := Lib.hid (alive_any ads w V)
  have hp64 := Fl.plain_lt hb
  have hidm := plain_idem b
  have hfl := fun w1 => float_any b hb w1
  have hrf := fun w1 => refFloat_any b hb w1
  have hbi := fun w1 => refBits_any b w1 hb
  obtain ⟨p, hp⟩ : ∃ p, Fl.plain b = p := ⟨_, rfl⟩
  simp only [hp] at hfl hrf hbi
  rw [hp] at hp64 hidm
  have hbk := fun w1 (hk : Kp w w1) (a1 : Option Addr) (c1 : Nat) (q1 : SlB (.slice a1 8 c1) (f8 p) w1) => toFloat_e ads a1 c1 (f8 p) 8 rfl (f8_in p) w1 (V.below hk) q1
  simp only [toFl_f8 p hp64 hidm] at hbk
  have e0 : errN ads 0 = .nilIface := rfl
  simp only [e0] at hbk
  have hrp := fun w1 => raw_any p w1
  have HT0 := fun w1 (hk : Kp w w1) => toFloat_e ads _ cap bs _ hlen hin w1 (V.below hk) (hs.kp hk)
  have HRT0 := fun w1 (hk : Kp w w1) => refToFloat_any _ cap bs _ hlen (by omega) hin w1 (hs.kp hk)
  have HQ0 := fun w1 (hk : Kp w w1) => num_errN ads w1 (V.below hk) (toFl bs).2 (toFl_two bs)
  obtain ⟨x, hx⟩ : ∃ x, (toFl bs).1 = x := ⟨_, rfl⟩
  obtain ⟨k, hkk⟩ : ∃ k, (toFl bs).2 = k := ⟨_, rfl⟩
  simp only [hx, hkk] at HT0 HRT0 HQ0
  obtain ⟨E, hE⟩ : ∃ E, errN ads k = E := ⟨_, rfl⟩
  simp only [hE] at HT0 HQ0
  have hrx := fun w1 => raw_any x w1
  obtain ⟨xi, hxi⟩ : ∃ xi : Int, (x : Int) = xi := ⟨_, rfl⟩
  simp only [hxi] at hrx
  obtain ⟨pi, hpi⟩ : ∃ pi : Int, (p : Int) = pi := ⟨_, rfl⟩
  simp only [hpi] at hrp hbi
  obtain ⟨fb, hfb⟩ : ∃ fb, f8 p = fb := ⟨_, rfl⟩
  simp only [hfb] at hfl hrf hbk
  obtain ⟨ss, hss⟩ : ∃ ss, strOfNums fb = ss := ⟨_, rfl⟩
  have HSS := Lib.hid hss
  have HFA := Lib.hid hfl
  have HRF := Lib.hid hrf
  have HBI := Lib.hid hbi
  have HBK := Lib.hid hbk
  have HRP := Lib.hid hrp
  have HT := Lib.hid HT0
  have HRT := Lib.hid HRT0
  have HQ := Lib.hid HQ0
  have HRX := Lib.hid hrx
  have HFL := Lib.hid (fun w1 => flag_any is w1)
  have HG := Lib.hid (fun w1 (hk : Kp w w1) (a : Option Addr) (c : Nat) (hs : SlB (.slice a (flB is).length c) (flB is) w1) => flag_back ads is a c w1 (V.below hk) hs)
  have hn3 := fun w1 (hk : Kp w w1) => num_err ads w1 (V.below hk) 3 (by decide) h3
  obtain ⟨ea, hea⟩ : ∃ ea, ads[3]'h3 = ea := ⟨_, rfl⟩
  simp only [hea] at hn3 htf
  have HN3 := Lib.hid hn3
  have HTF := Lib.hid htf
  have hng : ¬ ll > 100 := by omega
  have q1 : (ss.toList == ss.toList) = true := by simp
  have q2 : (pi != pi) = false := by simp
  have q3 : (xi != xi) = false := by simp
  have q4 : (k != k) = false := by simp
  have q5 : (is == is) = true := by simp
  clear hlen V hs hin hb hp64 hidm hfl hrf hbi hp hbk hrp HT0 HRT0 HQ0 hx hkk hE hrx hxi hpi hfb hss hn3 hea htf e0
  go_enter Tryd.func6, Tryd.ntmps6
  go_wp2_with (first | (go_at_call 9; (with_reducible refine HA.out.mono ?_); rintro e w1 ⟨rfl, hw1⟩; have K1 := Lib.hid hw1; clear hw1) | (go_at_call 26; (with_reducible refine (HFA.out _).mono ?_); rintro e w2 ⟨v2, rfl, ho2, hw2⟩; have K2 := Lib.hid (Kp.trans K1.out hw2); have hfm := own_le ho2; obtain ⟨a2, c2, rfl, -⟩ := hfm; have S2 := Lib.hid (own_slb ho2); clear ho2 hw2) | (go_at_call 27; (with_reducible refine (HBK.out _ K2.out _ _ S2.out).mono ?_); rintro e w3 ⟨rfl, hw3⟩; have K3 := Lib.hid (Kp.trans K2.out hw3); have R3 := Lib.hid (S2.out.kp hw3); have cv3 := conv_slb (R3.out.kp (Kp.refl w3).drew); rw [HSS.out] at cv3; clear hw3))
  have KD := Lib.hid (Kp.trans K3.out (Kp.refl w3).drew)
  refine wp_region_any (by kernel_rfl) ?_
  change wpAny _ _ _ _ _ _ _ (World.drew _)
  refine wpAny_take (i := 0) (v := ?_) rfl (by kernel_rfl) (by kernel_rfl) (by kernel_rfl) (fun _ _ _ h => h) (Or.inl ⟨by rfl, ?_⟩) ?_
  rotate_left
  · intro w; go_simp; try with_reducible rfl
  go_simp
  refine wpAny_take (i := 2) (v := ?_) rfl (by kernel_rfl) (by kernel_rfl) (by kernel_rfl) (fun _ _ _ h => h) (Or.inl ⟨by rfl, ?_⟩) ?_
  rotate_left
  · intro w; go_simp; try with_reducible rfl
  go_simp
  refine wpAny_ready (rs := [1, 3]) (by kernel_rfl) (by simp) ?_
  refine AllReady.cons rfl (fun K hK => ?_) (AllReady.cons rfl (fun K hK => ?_) AllReady.nil)
  · go_simp
    refine hK _ _ ?_
    clear hK K
    refine wpAny_ready (rs := [3]) (by kernel_rfl) (by simp) ?_
    refine AllReady.cons rfl (fun K hK => ?_) AllReady.nil
    go_simp
    go_wp2_with (go_at_call 28; (with_reducible refine (HRF.out _).mono ?_); rintro e w4 ⟨v4, rfl, s4, hk4⟩; have cv4 := conv_slb s4; rw [HSS.out] at cv4; have cw4 := conv_slb (R3.out.kp (Kp.trans (Kp.refl w3).drew hk4)); rw [HSS.out] at cw4; have K4 := Lib.hid (Kp.trans KD.out hk4); clear s4 hk4)
    refine wpAny_ready (rs := [4]) (by kernel_rfl) (by simp) ?_
    refine AllReady.cons rfl (fun K hK => ?_) AllReady.nil
    go_simp
    refine hK _ _ ?_
    clear hK K
    refine wpAny_take (i := 5) (v := ?_) rfl (by kernel_rfl) (by kernel_rfl) (by kernel_rfl) (fun _ _ _ h => h) (Or.inl ⟨by rfl, ?_⟩) ?_
    rotate_left
    · intro w; go_simp; try with_reducible rfl
    go_simp
    refine wpAny_take (i := 6) (v := ?_) rfl (by kernel_rfl) (by kernel_rfl) (by kernel_rfl) (fun _ _ _ h => h) (Or.inl ⟨by rfl, ?_⟩) ?_
    rotate_left
    · intro w; go_simp; try with_reducible rfl
    go_simp
    refine wpAny_take (i := 7) (v := ?_) rfl (by kernel_rfl) (by kernel_rfl) (by kernel_rfl) (fun _ _ _ h => h) (Or.inl ⟨by rfl, ?_⟩) ?_
    rotate_left
    · intro w; go_simp; try with_reducible rfl
    go_simp
    refine wpAny_take (i := 8) (v := ?_) rfl (by kernel_rfl) (by kernel_rfl) (by kernel_rfl) (fun _ _ _ h => h) (Or.inl ⟨by rfl, ?_⟩) ?_
    rotate_left
    · intro w; go_simp; try with_reducible rfl
    go_simp
    refine wpAny_take (i := 9) (v := ?_) rfl (by kernel_rfl) (by kernel_rfl) (by kernel_rfl) (fun _ _ _ h => h) (Or.inl ⟨by rfl, ?_⟩) ?_
    rotate_left
    · intro w; go_simp; try with_reducible rfl
    go_simp
    refine wpAny_take (i := 10) (v := ?_) rfl (by kernel_rfl) (by kernel_rfl) (by kernel_rfl) (fun _ _ _ h => h) (Or.inl ⟨by rfl, ?_⟩) ?_
    rotate_left
    · intro w; go_simp; try with_reducible rfl
    go_simp
    refine wpAny_take (i := 11) (v := ?_) rfl (by kernel_rfl) (by kernel_rfl) (by kernel_rfl) (fun _ _ _ h => h) (Or.inl ⟨by rfl, ?_⟩) ?_
    rotate_left
    · intro w; go_simp; try with_reducible rfl
    go_simp
    refine wpAny_take (i := 13) (v := ?_) rfl (by kernel_rfl) (by kernel_rfl) (by kernel_rfl) (fun _ _ _ h => h) (Or.inl ⟨by rfl, ?_⟩) ?_
    rotate_left
    · intro w; go_simp; try with_reducible rfl
    go_simp
    refine wpAny_ready (rs := [12]) (by kernel_rfl) (by simp) ?_
    refine AllReady.cons rfl (fun K hK => ?_) AllReady.nil
    go_simp
    go_wp2_with (go_at_call 29; (with_reducible refine (HRP.out _).mono ?_); rintro e w5 ⟨rfl, rfl⟩)
    refine wpAny_ready (rs := [14]) (by kernel_rfl) (by simp) ?_
    refine AllReady.cons rfl (fun K hK => ?_) AllReady.nil
    go_simp
    go_wp2_with (go_at_call 30; (with_reducible refine (HBI.out _).mono ?_); rintro e w6 ⟨rfl, rfl⟩)
    refine wpAny_take (i := 15) (v := ?_) rfl (by kernel_rfl) (by kernel_rfl) (by kernel_rfl) (fun _ _ _ h => h) (Or.inl ⟨by rfl, ?_⟩) ?_
    rotate_left
    · intro w; go_simp; try with_reducible rfl
    go_simp
    refine wpAny_take (i := 16) (v := ?_) rfl (by kernel_rfl) (by kernel_rfl) (by kernel_rfl) (fun _ _ _ h => h) (Or.inl ⟨by rfl, ?_⟩) ?_
    rotate_left
    · intro w; go_simp; try with_reducible rfl
    go_simp
    refine wpAny_done (by kernel_rfl) ?_ _
    go_wp2_with (first | (go_at_call 27; (with_reducible refine (HT.out _ K4.out).mono ?_); rintro e w7 ⟨rfl, hw7⟩; have K7 := Lib.hid (Kp.trans K4.out hw7); clear hw7) | (go_at_call 31; (with_reducible refine (HRT.out _ K7.out).mono ?_); rintro e w8 ⟨rfl, rfl⟩) | (go_at_call 29; (with_reducible refine (HRX.out _).mono ?_); rintro e w9 ⟨rfl, rfl⟩) | (go_at_call 15; (with_reducible refine (HQ.out _ K7.out).mono ?_); rintro e w10 ⟨rfl, hw10⟩; have K10 := Lib.hid (Kp.trans K7.out hw10); clear hw10) | (go_at_call 33; (with_reducible refine (HFL.out _).mono ?_); rintro e w11 ⟨v11, rfl, ho11, hw11⟩; have K11 := Lib.hid (Kp.trans K10.out hw11); have s11 := own_slb ho11; have hfm := s11.form; obtain ⟨a11, c11, rfl⟩ := hfm; have HG11 := Lib.hid (HG.out _ K11.out _ _ s11); clear ho11 hw11 s11) | (go_at_call 32; (with_reducible refine HG11.out.mono ?_); rintro e w12 ⟨rfl, hw12⟩; have K12 := Lib.hid (Kp.trans K11.out hw12); clear hw12) | (go_at_call 32; (with_reducible refine (HTF.out _ K12.out).mono ?_); rintro e w13 ⟨rfl, hw13⟩; have K13 := Lib.hid (Kp.trans K12.out hw13); clear hw13))
    go_ret
    exact ⟨by simp, K13.out⟩
  · go_simp
    go_wp2_with (go_at_call 28; (with_reducible refine (HRF.out _).mono ?_); rintro e w4 ⟨v4, rfl, s4, hk4⟩; have cv4 := conv_slb s4; rw [HSS.out] at cv4; have cw4 := conv_slb (R3.out.kp (Kp.trans (Kp.refl w3).drew hk4)); rw [HSS.out] at cw4; have K4 := Lib.hid (Kp.trans KD.out hk4); clear s4 hk4)
    refine wpAny_ready (rs := [1, 4]) (by kernel_rfl) (by simp) ?_
    refine AllReady.cons rfl (fun K hK => ?_) (AllReady.cons rfl (fun K hK => ?_) AllReady.nil)
    · go_simp
      refine hK _ _ ?_
      clear hK K
      refine wpAny_ready (rs := [4]) (by kernel_rfl) (by simp) ?_
      refine AllReady.cons rfl (fun K hK => ?_) AllReady.nil
      go_simp
      refine hK _ _ ?_
      clear hK K
      refine wpAny_take (i := 5) (v := ?_) rfl (by kernel_rfl) (by kernel_rfl) (by kernel_rfl) (fun _ _ _ h => h) (Or.inl ⟨by rfl, ?_⟩) ?_
      rotate_left
      · intro w; go_simp; try with_reducible rfl
      go_simp
      refine wpAny_take (i := 6) (v := ?_) rfl (by kernel_rfl) (by kernel_rfl) (by kernel_rfl) (fun _ _ _ h => h) (Or.inl ⟨by rfl, ?_⟩) ?_
      rotate_left
      · intro w; go_simp; try with_reducible rfl
      go_simp
      refine wpAny_take (i := 7) (v := ?_) rfl (by kernel_rfl) (by kernel_rfl) (by kernel_rfl) (fun _ _ _ h => h) (Or.inl ⟨by rfl, ?_⟩) ?_
      rotate_left
      · intro w; go_simp; try with_reducible rfl
      go_simp
      refine wpAny_take (i := 8) (v := ?_) rfl (by kernel_rfl) (by kernel_rfl) (by kernel_rfl) (fun _ _ _ h => h) (Or.inl ⟨by rfl, ?_⟩) ?_
      rotate_left
      · intro w; go_simp; try with_reducible rfl
      go_simp
      refine wpAny_take (i := 9) (v := ?_) rfl (by kernel_rfl) (by kernel_rfl) (by kernel_rfl) (fun _ _ _ h => h) (Or.inl ⟨by rfl, ?_⟩) ?_
      rotate_left
      · intro w; go_simp; try with_reducible rfl
      go_simp
      refine wpAny_take (i := 10) (v := ?_) rfl (by kernel_rfl) (by kernel_rfl) (by kernel_rfl) (fun _ _ _ h => h) (Or.inl ⟨by rfl, ?_⟩) ?_
      rotate_left
      · intro w; go_simp; try with_reducible rfl
      go_simp
      refine wpAny_take (i := 11) (v := ?_) rfl (by kernel_rfl) (by kernel_rfl) (by kernel_rfl) (fun _ _ _ h => h) (Or.inl ⟨by rfl, ?_⟩) ?_
      rotate_left
      · intro w; go_simp; try with_reducible rfl
      go_simp
      refine wpAny_take (i := 13) (v := ?_) rfl (by kernel_rfl) (by kernel_rfl) (by kernel_rfl) (fun _ _ _ h => h) (Or.inl ⟨by rfl, ?_⟩) ?_
      rotate_left
      · intro w; go_simp; try with_reducible rfl
      go_simp
      refine wpAny_ready (rs := [12]) (by kernel_rfl) (by simp) ?_
      refine AllReady.cons rfl (fun K hK => ?_) AllReady.nil
      go_simp
      go_wp2_with (go_at_call 29; (with_reducible refine (HRP.out _).mono ?_); rintro e w5 ⟨rfl, rfl⟩)
      refine wpAny_ready (rs := [14]) (by kernel_rfl) (by simp) ?_
      refine AllReady.cons rfl (fun K hK => ?_) AllReady.nil
      go_simp
      go_wp2_with (go_at_call 30; (with_reducible refine (HBI.out _).mono ?_); rintro e w6 ⟨rfl, rfl⟩)
      refine wpAny_take (i := 15) (v := ?_) rfl (by kernel_rfl) (by kernel_rfl) (by kernel_rfl) (fun _ _ _ h => h) (Or.inl ⟨by rfl, ?_⟩) ?_
      rotate_left
      · intro w; go_simp; try with_reducible rfl
      go_simp
      refine wpAny_take (i := 16) (v := ?_) rfl (by kernel_rfl) (by kernel_rfl) (by kernel_rfl) (fun _ _ _ h => h) (Or.inl ⟨by rfl, ?_⟩) ?_
      rotate_left
      · intro w; go_simp; try with_reducible rfl
      go_simp
      refine wpAny_done (by kernel_rfl) ?_ _
      go_wp2_with (first | (go_at_call 27; (with_reducible refine (HT.out _ K4.out).mono ?_); rintro e w7 ⟨rfl, hw7⟩; have K7 := Lib.hid (Kp.trans K4.out hw7); clear hw7) | (go_at_call 31; (with_reducible refine (HRT.out _ K7.out).mono ?_); rintro e w8 ⟨rfl, rfl⟩) | (go_at_call 29; (with_reducible refine (HRX.out _).mono ?_); rintro e w9 ⟨rfl, rfl⟩) | (go_at_call 15; (with_reducible refine (HQ.out _ K7.out).mono ?_); rintro e w10 ⟨rfl, hw10⟩; have K10 := Lib.hid (Kp.trans K7.out hw10); clear hw10) | (go_at_call 33; (with_reducible refine (HFL.out _).mono ?_); rintro e w11 ⟨v11, rfl, ho11, hw11⟩; have K11 := Lib.hid (Kp.trans K10.out hw11); have s11 := own_slb ho11; have hfm := s11.form; obtain ⟨a11, c11, rfl⟩ := hfm; have HG11 := Lib.hid (HG.out _ K11.out _ _ s11); clear ho11 hw11 s11) | (go_at_call 32; (with_reducible refine HG11.out.mono ?_); rintro e w12 ⟨rfl, hw12⟩; have K12 := Lib.hid (Kp.trans K11.out hw12); clear hw12) | (go_at_call 32; (with_reducible refine (HTF.out _ K12.out).mono ?_); rintro e w13 ⟨rfl, hw13⟩; have K13 := Lib.hid (Kp.trans K12.out hw13); clear hw13))
      go_ret
      exact ⟨by simp, K13.out⟩
    · go_simp
      refine hK _ _ ?_
      clear hK K
      refine wpAny_ready (rs := [1]) (by kernel_rfl) (by simp) ?_
      refine AllReady.cons rfl (fun K hK => ?_) AllReady.nil
      go_simp
      refine hK _ _ ?_
      clear hK K
      refine wpAny_take (i := 5) (v := ?_) rfl (by kernel_rfl) (by kernel_rfl) (by kernel_rfl) (fun _ _ _ h => h) (Or.inl ⟨by rfl, ?_⟩) ?_
      rotate_left
      · intro w; go_simp; try with_reducible rfl
      go_simp
      refine wpAny_take (i := 6) (v := ?_) rfl (by kernel_rfl) (by kernel_rfl) (by kernel_rfl) (fun _ _ _ h => h) (Or.inl ⟨by rfl, ?_⟩) ?_
      rotate_left
      · intro w; go_simp; try with_reducible rfl
      go_simp
      refine wpAny_take (i := 7) (v := ?_) rfl (by kernel_rfl) (by kernel_rfl) (by kernel_rfl) (fun _ _ _ h => h) (Or.inl ⟨by rfl, ?_⟩) ?_
      rotate_left
      · intro w; go_simp; try with_reducible rfl
      go_simp
      refine wpAny_take (i := 8) (v := ?_) rfl (by kernel_rfl) (by kernel_rfl) (by kernel_rfl) (fun _ _ _ h => h) (Or.inl ⟨by rfl, ?_⟩) ?_
      rotate_left
      · intro w; go_simp; try with_reducible rfl
      go_simp
      refine wpAny_take (i := 9) (v := ?_) rfl (by kernel_rfl) (by kernel_rfl) (by kernel_rfl) (fun _ _ _ h => h) (Or.inl ⟨by rfl, ?_⟩) ?_
      rotate_left
      · intro w; go_simp; try with_reducible rfl
      go_simp
      refine wpAny_take (i := 10) (v := ?_) rfl (by kernel_rfl) (by kernel_rfl) (by kernel_rfl) (fun _ _ _ h => h) (Or.inl ⟨by rfl, ?_⟩) ?_
      rotate_left
      · intro w; go_simp; try with_reducible rfl
      go_simp
      refine wpAny_take (i := 11) (v := ?_) rfl (by kernel_rfl) (by kernel_rfl) (by kernel_rfl) (fun _ _ _ h => h) (Or.inl ⟨by rfl, ?_⟩) ?_
      rotate_left
      · intro w; go_simp; try with_reducible rfl
      go_simp
      refine wpAny_take (i := 13) (v := ?_) rfl (by kernel_rfl) (by kernel_rfl) (by kernel_rfl) (fun _ _ _ h => h) (Or.inl ⟨by rfl, ?_⟩) ?_
      rotate_left
      · intro w; go_simp; try with_reducible rfl
      go_simp
      refine wpAny_ready (rs := [12]) (by kernel_rfl) (by simp) ?_
      refine AllReady.cons rfl (fun K hK => ?_) AllReady.nil
      go_simp
      go_wp2_with (go_at_call 29; (with_reducible refine (HRP.out _).mono ?_); rintro e w5 ⟨rfl, rfl⟩)
      refine wpAny_ready (rs := [14]) (by kernel_rfl) (by simp) ?_
      refine AllReady.cons rfl (fun K hK => ?_) AllReady.nil
      go_simp
      go_wp2_with (go_at_call 30; (with_reducible refine (HBI.out _).mono ?_); rintro e w6 ⟨rfl, rfl⟩)
      refine wpAny_take (i := 15) (v := ?_) rfl (by kernel_rfl) (by kernel_rfl) (by kernel_rfl) (fun _ _ _ h => h) (Or.inl ⟨by rfl, ?_⟩) ?_
      rotate_left
      · intro w; go_simp; try with_reducible rfl
      go_simp
      refine wpAny_take (i := 16) (v := ?_) rfl (by kernel_rfl) (by kernel_rfl) (by kernel_rfl) (fun _ _ _ h => h) (Or.inl ⟨by rfl, ?_⟩) ?_
      rotate_left
      · intro w; go_simp; try with_reducible rfl
      go_simp
      refine wpAny_done (by kernel_rfl) ?_ _
      go_wp2_with (first | (go_at_call 27; (with_reducible refine (HT.out _ K4.out).mono ?_); rintro e w7 ⟨rfl, hw7⟩; have K7 := Lib.hid (Kp.trans K4.out hw7); clear hw7) | (go_at_call 31; (with_reducible refine (HRT.out _ K7.out).mono ?_); rintro e w8 ⟨rfl, rfl⟩) | (go_at_call 29; (with_reducible refine (HRX.out _).mono ?_); rintro e w9 ⟨rfl, rfl⟩) | (go_at_call 15; (with_reducible refine (HQ.out _ K7.out).mono ?_); rintro e w10 ⟨rfl, hw10⟩; have K10 := Lib.hid (Kp.trans K7.out hw10); clear hw10) | (go_at_call 33; (with_reducible refine (HFL.out _).mono ?_); rintro e w11 ⟨v11, rfl, ho11, hw11⟩; have K11 := Lib.hid (Kp.trans K10.out hw11); have s11 := own_slb ho11; have hfm := s11.form; obtain ⟨a11, c11, rfl⟩ := hfm; have HG11 := Lib.hid (HG.out _ K11.out _ _ s11); clear ho11 hw11 s11) | (go_at_call 32; (with_reducible refine HG11.out.mono ?_); rintro e w12 ⟨rfl, hw12⟩; have K12 := Lib.hid (Kp.trans K11.out hw12); clear hw12) | (go_at_call 32; (with_reducible refine (HTF.out _ K12.out).mono ?_); rintro e w13 ⟨rfl, hw13⟩; have K13 := Lib.hid (Kp.trans K12.out hw13); clear hw13))
      go_ret
      exact ⟨by simp, K13.out⟩

set_option maxRecDepth 20000 in
set_option maxHeartbeats 4000000 in
theorem floats_1 (ads : List Addr) (h3 : 3 < ads.length) (b : Nat) (hb : b < 18446744073709551616) (a : Option Addr) (cap : Nat) (bs : List Int) (len : Nat) (hlen : bs.length = len) (hl : len ≤ 100) (hin : InB bs) (is : Bool) (w : World) (V : St ads w) (hs : SlB (.slice a len cap) bs w) (h0 : len = 1) (hx1 : bs.getD 0 0 = 1) :
    Calls Tryd.prog 6 #[.float .f64 b, .slice a len cap, .bool is] w fun e w' => e = .returned (.bool true) ∧ Kp w w' := by
  have f1 : isFlag bs = true := decide_eq_true (.inr ⟨by omega, hx1⟩)
  have f2 : decide (bs.length = 1) = true := decide_eq_true (by omega)
  have htf := fun w1 (hk : Kp w w1) => toFlag_any ads a cap bs len hlen h3 w1 (V.below hk) (hs.kp hk)
  simp only [f1, f2, if_true] at htf
  obtain ⟨bb, off, rfl, hc⟩ := hs.at 0 (by omega)
  rw [hx1, Nat.add_zero] at hc
  have HC := Lib.hid hc
  clear f1 f2 hc hx1
  subst h0
  obtain ⟨ll, hll⟩ : ∃ ll : Int, ((1 : Nat) : Int) = ll := ⟨_, rfl⟩
  have HA := Lib.hid (alive_any ads w V)
  have hp64 := Fl.plain_lt hb
  have hidm := plain_idem b
  have hfl := fun w1 => float_any b hb w1
  have hrf := fun w1 => refFloat_any b hb w1
  have hbi := fun w1 => refBits_any b w1 hb
  obtain ⟨p, hp⟩ : ∃ p, Fl.plain b = p := ⟨_, rfl⟩
  simp only [hp] at hfl hrf hbi
  rw [hp] at hp64 hidm
  have hbk := fun w1 (hk : Kp w w1) (a1 : Option Addr) (c1 : Nat) (q1 : SlB (.slice a1 8 c1) (f8 p) w1) => toFloat_e ads a1 c1 (f8 p) 8 rfl (f8_in p) w1 (V.below hk) q1
  simp only [toFl_f8 p hp64 hidm] at hbk
  have e0 : errN ads 0 = .nilIface := rfl
  simp only [e0] at hbk
  have hrp := fun w1 => raw_any p w1
  have HT0 := fun w1 (hk : Kp w w1) => toFloat_e ads _ cap bs _ hlen hin w1 (V.below hk) (hs.kp hk)
  have HRT0 := fun w1 (hk : Kp w w1) => refToFloat_any _ cap bs _ hlen (by omega) hin w1 (hs.kp hk)
  have HQ0 := fun w1 (hk : Kp w w1) => num_errN ads w1 (V.below hk) (toFl bs).2 (toFl_two bs)
  obtain ⟨x, hx⟩ : ∃ x, (toFl bs).1 = x := ⟨_, rfl⟩
  obtain ⟨k, hkk⟩ : ∃ k, (toFl bs).2 = k := ⟨_, rfl⟩
  simp only [hx, hkk] at HT0 HRT0 HQ0
  obtain ⟨E, hE⟩ : ∃ E, errN ads k = E := ⟨_, rfl⟩
  simp only [hE] at HT0 HQ0
  have hrx := fun w1 => raw_any x w1
  obtain ⟨xi, hxi⟩ : ∃ xi : Int, (x : Int) = xi := ⟨_, rfl⟩
  simp only [hxi] at hrx
  obtain ⟨pi, hpi⟩ : ∃ pi : Int, (p : Int) = pi := ⟨_, rfl⟩
  simp only [hpi] at hrp hbi
  obtain ⟨fb, hfb⟩ : ∃ fb, f8 p = fb := ⟨_, rfl⟩
  simp only [hfb] at hfl hrf hbk
  obtain ⟨ss, hss⟩ : ∃ ss, strOfNums fb = ss := ⟨_, rfl⟩
  have HSS := Lib.hid hss
  have HFA := Lib.hid hfl
  have HRF := Lib.hid hrf
  have HBI := Lib.hid hbi
  have HBK := Lib.hid hbk
  have HRP := Lib.hid hrp
  have HT := Lib.hid HT0
  have HRT := Lib.hid HRT0
  have HQ := Lib.hid HQ0
  have HRX := Lib.hid hrx
  have HFL := Lib.hid (fun w1 => flag_any is w1)
  have HG := Lib.hid (fun w1 (hk : Kp w w1) (a : Option Addr) (c : Nat) (hs : SlB (.slice a (flB is).length c) (flB is) w1) => flag_back ads is a c w1 (V.below hk) hs)
  have hn3 := fun w1 (hk : Kp w w1) => num_err ads w1 (V.below hk) 3 (by decide) h3
  obtain ⟨ea, hea⟩ : ∃ ea, ads[3]'h3 = ea := ⟨_, rfl⟩
  simp only [hea] at hn3 htf
  have HN3 := Lib.hid hn3
  have HTF := Lib.hid htf
  have hng : ¬ ll > 100 := by omega
  have q1 : (ss.toList == ss.toList) = true := by simp
  have q2 : (pi != pi) = false := by simp
  have q3 : (xi != xi) = false := by simp
  have q4 : (k != k) = false := by simp
  have q5 : (is == is) = true := by simp
  clear hlen V hs hin hb hp64 hidm hfl hrf hbi hp hbk hrp HT0 HRT0 HQ0 hx hkk hE hrx hxi hpi hfb hss hn3 hea htf e0
  go_enter Tryd.func6, Tryd.ntmps6
  go_wp2_with (first | (go_at_call 9; (with_reducible refine HA.out.mono ?_); rintro e w1 ⟨rfl, hw1⟩; have K1 := Lib.hid hw1; clear hw1) | (go_at_call 26; (with_reducible refine (HFA.out _).mono ?_); rintro e w2 ⟨v2, rfl, ho2, hw2⟩; have K2 := Lib.hid (Kp.trans K1.out hw2); have hfm := own_le ho2; obtain ⟨a2, c2, rfl, -⟩ := hfm; have S2 := Lib.hid (own_slb ho2); clear ho2 hw2) | (go_at_call 27; (with_reducible refine (HBK.out _ K2.out _ _ S2.out).mono ?_); rintro e w3 ⟨rfl, hw3⟩; have K3 := Lib.hid (Kp.trans K2.out hw3); have R3 := Lib.hid (S2.out.kp hw3); have cv3 := conv_slb (R3.out.kp (Kp.refl w3).drew); rw [HSS.out] at cv3; clear hw3))
  have KD := Lib.hid (Kp.trans K3.out (Kp.refl w3).drew)
  refine wp_region_any (by kernel_rfl) ?_
  change wpAny _ _ _ _ _ _ _ (World.drew _)
  refine wpAny_take (i := 0) (v := ?_) rfl (by kernel_rfl) (by kernel_rfl) (by kernel_rfl) (fun _ _ _ h => h) (Or.inl ⟨by rfl, ?_⟩) ?_
  rotate_left
  · intro w; go_simp; try with_reducible rfl
  go_simp
  refine wpAny_take (i := 2) (v := ?_) rfl (by kernel_rfl) (by kernel_rfl) (by kernel_rfl) (fun _ _ _ h => h) (Or.inl ⟨by rfl, ?_⟩) ?_
  rotate_left
  · intro w; go_simp; try with_reducible rfl
  go_simp
  refine wpAny_ready (rs := [1, 3]) (by kernel_rfl) (by simp) ?_
  refine AllReady.cons rfl (fun K hK => ?_) (AllReady.cons rfl (fun K hK => ?_) AllReady.nil)
  · go_simp
    refine hK _ _ ?_
    clear hK K
    refine wpAny_ready (rs := [3]) (by kernel_rfl) (by simp) ?_
    refine AllReady.cons rfl (fun K hK => ?_) AllReady.nil
    go_simp
    go_wp2_with (go_at_call 28; (with_reducible refine (HRF.out _).mono ?_); rintro e w4 ⟨v4, rfl, s4, hk4⟩; have cv4 := conv_slb s4; rw [HSS.out] at cv4; have cw4 := conv_slb (R3.out.kp (Kp.trans (Kp.refl w3).drew hk4)); rw [HSS.out] at cw4; have K4 := Lib.hid (Kp.trans KD.out hk4); clear s4 hk4)
    refine wpAny_ready (rs := [4]) (by kernel_rfl) (by simp) ?_
    refine AllReady.cons rfl (fun K hK => ?_) AllReady.nil
    go_simp
    refine hK _ _ ?_
    clear hK K
    refine wpAny_take (i := 5) (v := ?_) rfl (by kernel_rfl) (by kernel_rfl) (by kernel_rfl) (fun _ _ _ h => h) (Or.inl ⟨by rfl, ?_⟩) ?_
    rotate_left
    · intro w; go_simp; try with_reducible rfl
    go_simp
    refine wpAny_take (i := 6) (v := ?_) rfl (by kernel_rfl) (by kernel_rfl) (by kernel_rfl) (fun _ _ _ h => h) (Or.inl ⟨by rfl, ?_⟩) ?_
    rotate_left
    · intro w; go_simp; try with_reducible rfl
    go_simp
    refine wpAny_take (i := 7) (v := ?_) rfl (by kernel_rfl) (by kernel_rfl) (by kernel_rfl) (fun _ _ _ h => h) (Or.inl ⟨by rfl, ?_⟩) ?_
    rotate_left
    · intro w; go_simp; try with_reducible rfl
    go_simp
    refine wpAny_take (i := 8) (v := ?_) rfl (by kernel_rfl) (by kernel_rfl) (by kernel_rfl) (fun _ _ _ h => h) (Or.inl ⟨by rfl, ?_⟩) ?_
    rotate_left
    · intro w; go_simp; try with_reducible rfl
    go_simp
    refine wpAny_take (i := 9) (v := ?_) rfl (by kernel_rfl) (by kernel_rfl) (by kernel_rfl) (fun _ _ _ h => h) (Or.inl ⟨by rfl, ?_⟩) ?_
    rotate_left
    · intro w; go_simp; try with_reducible rfl
    go_simp
    refine wpAny_take (i := 10) (v := ?_) rfl (by kernel_rfl) (by kernel_rfl) (by kernel_rfl) (fun _ _ _ h => h) (Or.inl ⟨by rfl, ?_⟩) ?_
    rotate_left
    · intro w; go_simp; try with_reducible rfl
    go_simp
    refine wpAny_take (i := 11) (v := ?_) rfl (by kernel_rfl) (by kernel_rfl) (by kernel_rfl) (fun _ _ _ h => h) (Or.inl ⟨by rfl, ?_⟩) ?_
    rotate_left
    · intro w; go_simp; try with_reducible rfl
    go_simp
    refine wpAny_take (i := 13) (v := ?_) rfl (by kernel_rfl) (by kernel_rfl) (by kernel_rfl) (fun _ _ _ h => h) (Or.inl ⟨by rfl, ?_⟩) ?_
    rotate_left
    · intro w; go_simp; try with_reducible rfl
    go_simp
    refine wpAny_ready (rs := [12]) (by kernel_rfl) (by simp) ?_
    refine AllReady.cons rfl (fun K hK => ?_) AllReady.nil
    go_simp
    go_wp2_with (go_at_call 29; (with_reducible refine (HRP.out _).mono ?_); rintro e w5 ⟨rfl, rfl⟩)
    refine wpAny_ready (rs := [14]) (by kernel_rfl) (by simp) ?_
    refine AllReady.cons rfl (fun K hK => ?_) AllReady.nil
    go_simp
    go_wp2_with (go_at_call 30; (with_reducible refine (HBI.out _).mono ?_); rintro e w6 ⟨rfl, rfl⟩)
    refine wpAny_take (i := 15) (v := ?_) rfl (by kernel_rfl) (by kernel_rfl) (by kernel_rfl) (fun _ _ _ h => h) (Or.inl ⟨by rfl, ?_⟩) ?_
    rotate_left
    · intro w; go_simp; try with_reducible rfl
    go_simp
    refine wpAny_take (i := 16) (v := ?_) rfl (by kernel_rfl) (by kernel_rfl) (by kernel_rfl) (fun _ _ _ h => h) (Or.inl ⟨by rfl, ?_⟩) ?_
    rotate_left
    · intro w; go_simp; try with_reducible rfl
    go_simp
    refine wpAny_done (by kernel_rfl) ?_ _
    go_wp2_with (first | (go_at_call 27; (with_reducible refine (HT.out _ K4.out).mono ?_); rintro e w7 ⟨rfl, hw7⟩; have K7 := Lib.hid (Kp.trans K4.out hw7); clear hw7) | (go_at_call 31; (with_reducible refine (HRT.out _ K7.out).mono ?_); rintro e w8 ⟨rfl, rfl⟩) | (go_at_call 29; (with_reducible refine (HRX.out _).mono ?_); rintro e w9 ⟨rfl, rfl⟩) | (go_at_call 15; (with_reducible refine (HQ.out _ K7.out).mono ?_); rintro e w10 ⟨rfl, hw10⟩; have K10 := Lib.hid (Kp.trans K7.out hw10); clear hw10) | (go_at_call 33; (with_reducible refine (HFL.out _).mono ?_); rintro e w11 ⟨v11, rfl, ho11, hw11⟩; have K11 := Lib.hid (Kp.trans K10.out hw11); have s11 := own_slb ho11; have hfm := s11.form; obtain ⟨a11, c11, rfl⟩ := hfm; have HG11 := Lib.hid (HG.out _ K11.out _ _ s11); clear ho11 hw11 s11) | (go_at_call 32; (with_reducible refine HG11.out.mono ?_); rintro e w12 ⟨rfl, hw12⟩; have K12 := Lib.hid (Kp.trans K11.out hw12); clear hw12) | (go_at_call 32; (with_reducible refine (HTF.out _ K12.out).mono ?_); rintro e w13 ⟨rfl, hw13⟩; have K13 := Lib.hid (Kp.trans K12.out hw13); have hc13 := kp_cell K13.out HC.out; clear hw13))
    go_ret
    exact ⟨by simp, K13.out⟩
  · go_simp
    go_wp2_with (go_at_call 28; (with_reducible refine (HRF.out _).mono ?_); rintro e w4 ⟨v4, rfl, s4, hk4⟩; have cv4 := conv_slb s4; rw [HSS.out] at cv4; have cw4 := conv_slb (R3.out.kp (Kp.trans (Kp.refl w3).drew hk4)); rw [HSS.out] at cw4; have K4 := Lib.hid (Kp.trans KD.out hk4); clear s4 hk4)
    refine wpAny_ready (rs := [1, 4]) (by kernel_rfl) (by simp) ?_
    refine AllReady.cons rfl (fun K hK => ?_) (AllReady.cons rfl (fun K hK => ?_) AllReady.nil)
    · go_simp
      refine hK _ _ ?_
      clear hK K
      refine wpAny_ready (rs := [4]) (by kernel_rfl) (by simp) ?_
      refine AllReady.cons rfl (fun K hK => ?_) AllReady.nil
      go_simp
      refine hK _ _ ?_
      clear hK K
      refine wpAny_take (i := 5) (v := ?_) rfl (by kernel_rfl) (by kernel_rfl) (by kernel_rfl) (fun _ _ _ h => h) (Or.inl ⟨by rfl, ?_⟩) ?_
      rotate_left
      · intro w; go_simp; try with_reducible rfl
      go_simp
      refine wpAny_take (i := 6) (v := ?_) rfl (by kernel_rfl) (by kernel_rfl) (by kernel_rfl) (fun _ _ _ h => h) (Or.inl ⟨by rfl, ?_⟩) ?_
      rotate_left
      · intro w; go_simp; try with_reducible rfl
      go_simp
      refine wpAny_take (i := 7) (v := ?_) rfl (by kernel_rfl) (by kernel_rfl) (by kernel_rfl) (fun _ _ _ h => h) (Or.inl ⟨by rfl, ?_⟩) ?_
      rotate_left
      · intro w; go_simp; try with_reducible rfl
      go_simp
      refine wpAny_take (i := 8) (v := ?_) rfl (by kernel_rfl) (by kernel_rfl) (by kernel_rfl) (fun _ _ _ h => h) (Or.inl ⟨by rfl, ?_⟩) ?_
      rotate_left
      · intro w; go_simp; try with_reducible rfl
      go_simp
      refine wpAny_take (i := 9) (v := ?_) rfl (by kernel_rfl) (by kernel_rfl) (by kernel_rfl) (fun _ _ _ h => h) (Or.inl ⟨by rfl, ?_⟩) ?_
      rotate_left
      · intro w; go_simp; try with_reducible rfl
      go_simp
      refine wpAny_take (i := 10) (v := ?_) rfl (by kernel_rfl) (by kernel_rfl) (by kernel_rfl) (fun _ _ _ h => h) (Or.inl ⟨by rfl, ?_⟩) ?_
      rotate_left
      · intro w; go_simp; try with_reducible rfl
      go_simp
      refine wpAny_take (i := 11) (v := ?_) rfl (by kernel_rfl) (by kernel_rfl) (by kernel_rfl) (fun _ _ _ h => h) (Or.inl ⟨by rfl, ?_⟩) ?_
      rotate_left
      · intro w; go_simp; try with_reducible rfl
      go_simp
      refine wpAny_take (i := 13) (v := ?_) rfl (by kernel_rfl) (by kernel_rfl) (by kernel_rfl) (fun _ _ _ h => h) (Or.inl ⟨by rfl, ?_⟩) ?_
      rotate_left
      · intro w; go_simp; try with_reducible rfl
      go_simp
      refine wpAny_ready (rs := [12]) (by kernel_rfl) (by simp) ?_
      refine AllReady.cons rfl (fun K hK => ?_) AllReady.nil
      go_simp
      go_wp2_with (go_at_call 29; (with_reducible refine (HRP.out _).mono ?_); rintro e w5 ⟨rfl, rfl⟩)
      refine wpAny_ready (rs := [14]) (by kernel_rfl) (by simp) ?_
      refine AllReady.cons rfl (fun K hK => ?_) AllReady.nil
      go_simp
      go_wp2_with (go_at_call 30; (with_reducible refine (HBI.out _).mono ?_); rintro e w6 ⟨rfl, rfl⟩)
      refine wpAny_take (i := 15) (v := ?_) rfl (by kernel_rfl) (by kernel_rfl) (by kernel_rfl) (fun _ _ _ h => h) (Or.inl ⟨by rfl, ?_⟩) ?_
      rotate_left
      · intro w; go_simp; try with_reducible rfl
      go_simp
      refine wpAny_take (i := 16) (v := ?_) rfl (by kernel_rfl) (by kernel_rfl) (by kernel_rfl) (fun _ _ _ h => h) (Or.inl ⟨by rfl, ?_⟩) ?_
      rotate_left
      · intro w; go_simp; try with_reducible rfl
      go_simp
      refine wpAny_done (by kernel_rfl) ?_ _
      go_wp2_with (first | (go_at_call 27; (with_reducible refine (HT.out _ K4.out).mono ?_); rintro e w7 ⟨rfl, hw7⟩; have K7 := Lib.hid (Kp.trans K4.out hw7); clear hw7) | (go_at_call 31; (with_reducible refine (HRT.out _ K7.out).mono ?_); rintro e w8 ⟨rfl, rfl⟩) | (go_at_call 29; (with_reducible refine (HRX.out _).mono ?_); rintro e w9 ⟨rfl, rfl⟩) | (go_at_call 15; (with_reducible refine (HQ.out _ K7.out).mono ?_); rintro e w10 ⟨rfl, hw10⟩; have K10 := Lib.hid (Kp.trans K7.out hw10); clear hw10) | (go_at_call 33; (with_reducible refine (HFL.out _).mono ?_); rintro e w11 ⟨v11, rfl, ho11, hw11⟩; have K11 := Lib.hid (Kp.trans K10.out hw11); have s11 := own_slb ho11; have hfm := s11.form; obtain ⟨a11, c11, rfl⟩ := hfm; have HG11 := Lib.hid (HG.out _ K11.out _ _ s11); clear ho11 hw11 s11) | (go_at_call 32; (with_reducible refine HG11.out.mono ?_); rintro e w12 ⟨rfl, hw12⟩; have K12 := Lib.hid (Kp.trans K11.out hw12); clear hw12) | (go_at_call 32; (with_reducible refine (HTF.out _ K12.out).mono ?_); rintro e w13 ⟨rfl, hw13⟩; have K13 := Lib.hid (Kp.trans K12.out hw13); have hc13 := kp_cell K13.out HC.out; clear hw13))
      go_ret
      exact ⟨by simp, K13.out⟩
    · go_simp
      refine hK _ _ ?_
      clear hK K
      refine wpAny_ready (rs := [1]) (by kernel_rfl) (by simp) ?_
      refine AllReady.cons rfl (fun K hK => ?_) AllReady.nil
      go_simp
      refine hK _ _ ?_
      clear hK K
      refine wpAny_take (i := 5) (v := ?_) rfl (by kernel_rfl) (by kernel_rfl) (by kernel_rfl) (fun _ _ _ h => h) (Or.inl ⟨by rfl, ?_⟩) ?_
      rotate_left
      · intro w; go_simp; try with_reducible rfl
      go_simp
      refine wpAny_take (i := 6) (v := ?_) rfl (by kernel_rfl) (by kernel_rfl) (by kernel_rfl) (fun _ _ _ h => h) (Or.inl ⟨by rfl, ?_⟩) ?_
      rotate_left
      · intro w; go_simp; try with_reducible rfl
      go_simp
      refine wpAny_take (i := 7) (v := ?_) rfl (by kernel_rfl) (by kernel_rfl) (by kernel_rfl) (fun _ _ _ h => h) (Or.inl ⟨by rfl, ?_⟩) ?_
      rotate_left
      · intro w; go_simp; try with_reducible rfl
      go_simp
      refine wpAny_take (i := 8) (v := ?_) rfl (by kernel_rfl) (by kernel_rfl) (by kernel_rfl) (fun _ _ _ h => h) (Or.inl ⟨by rfl, ?_⟩) ?_
      rotate_left
      · intro w; go_simp; try with_reducible rfl
      go_simp
      refine wpAny_take (i := 9) (v := ?_) rfl (by kernel_rfl) (by kernel_rfl) (by kernel_rfl) (fun _ _ _ h => h) (Or.inl ⟨by rfl, ?_⟩) ?_
      rotate_left
      · intro w; go_simp; try with_reducible rfl
      go_simp
      refine wpAny_take (i := 10) (v := ?_) rfl (by kernel_rfl) (by kernel_rfl) (by kernel_rfl) (fun _ _ _ h => h) (Or.inl ⟨by rfl, ?_⟩) ?_
      rotate_left
      · intro w; go_simp; try with_reducible rfl
      go_simp
      refine wpAny_take (i := 11) (v := ?_) rfl (by kernel_rfl) (by kernel_rfl) (by kernel_rfl) (fun _ _ _ h => h) (Or.inl ⟨by rfl, ?_⟩) ?_
      rotate_left
      · intro w; go_simp; try with_reducible rfl
      go_simp
      refine wpAny_take (i := 13) (v := ?_) rfl (by kernel_rfl) (by kernel_rfl) (by kernel_rfl) (fun _ _ _ h => h) (Or.inl ⟨by rfl, ?_⟩) ?_
      rotate_left
      · intro w; go_simp; try with_reducible rfl
      go_simp
      refine wpAny_ready (rs := [12]) (by kernel_rfl) (by simp) ?_
      refine AllReady.cons rfl (fun K hK => ?_) AllReady.nil
      go_simp
      go_wp2_with (go_at_call 29; (with_reducible refine (HRP.out _).mono ?_); rintro e w5 ⟨rfl, rfl⟩)
      refine wpAny_ready (rs := [14]) (by kernel_rfl) (by simp) ?_
      refine AllReady.cons rfl (fun K hK => ?_) AllReady.nil
      go_simp
      go_wp2_with (go_at_call 30; (with_reducible refine (HBI.out _).mono ?_); rintro e w6 ⟨rfl, rfl⟩)
      refine wpAny_take (i := 15) (v := ?_) rfl (by kernel_rfl) (by kernel_rfl) (by kernel_rfl) (fun _ _ _ h => h) (Or.inl ⟨by rfl, ?_⟩) ?_
      rotate_left
      · intro w; go_simp; try with_reducible rfl
      go_simp
      refine wpAny_take (i := 16) (v := ?_) rfl (by kernel_rfl) (by kernel_rfl) (by kernel_rfl) (fun _ _ _ h => h) (Or.inl ⟨by rfl, ?_⟩) ?_
      rotate_left
      · intro w; go_simp; try with_reducible rfl
      go_simp
      refine wpAny_done (by kernel_rfl) ?_ _
      go_wp2_with (first | (go_at_call 27; (with_reducible refine (HT.out _ K4.out).mono ?_); rintro e w7 ⟨rfl, hw7⟩; have K7 := Lib.hid (Kp.trans K4.out hw7); clear hw7) | (go_at_call 31; (with_reducible refine (HRT.out _ K7.out).mono ?_); rintro e w8 ⟨rfl, rfl⟩) | (go_at_call 29; (with_reducible refine (HRX.out _).mono ?_); rintro e w9 ⟨rfl, rfl⟩) | (go_at_call 15; (with_reducible refine (HQ.out _ K7.out).mono ?_); rintro e w10 ⟨rfl, hw10⟩; have K10 := Lib.hid (Kp.trans K7.out hw10); clear hw10) | (go_at_call 33; (with_reducible refine (HFL.out _).mono ?_); rintro e w11 ⟨v11, rfl, ho11, hw11⟩; have K11 := Lib.hid (Kp.trans K10.out hw11); have s11 := own_slb ho11; have hfm := s11.form; obtain ⟨a11, c11, rfl⟩ := hfm; have HG11 := Lib.hid (HG.out _ K11.out _ _ s11); clear ho11 hw11 s11) | (go_at_call 32; (with_reducible refine HG11.out.mono ?_); rintro e w12 ⟨rfl, hw12⟩; have K12 := Lib.hid (Kp.trans K11.out hw12); clear hw12) | (go_at_call 32; (with_reducible refine (HTF.out _ K12.out).mono ?_); rintro e w13 ⟨rfl, hw13⟩; have K13 := Lib.hid (Kp.trans K12.out hw13); have hc13 := kp_cell K13.out HC.out; clear hw13))
      go_ret
      exact ⟨by simp, K13.out⟩

set_option maxRecDepth 20000 in
set_option maxHeartbeats 4000000 in
theorem floats_2 (ads : List Addr) (h3 : 3 < ads.length) (b : Nat) (hb : b < 18446744073709551616) (a : Option Addr) (cap : Nat) (bs : List Int) (len : Nat) (hlen : bs.length = len) (hl : len ≤ 100) (hin : InB bs) (is : Bool) (w : World) (V : St ads w) (hs : SlB (.slice a len cap) bs w) (h0 : len = 1) (hx1 : bs.getD 0 0 ≠ 1) :
    Calls Tryd.prog 6 #[.float .f64 b, .slice a len cap, .bool is] w fun e w' => e = .returned (.bool true) ∧ Kp w w' := by
  have f1 : isFlag bs = false := decide_eq_false (by omega)
  have htf := fun w1 (hk : Kp w w1) => toFlag_any ads a cap bs len hlen h3 w1 (V.below hk) (hs.kp hk)
  simp only [f1, Bool.false_eq_true, if_false] at htf
  obtain ⟨bb, off, rfl, hc⟩ := hs.at 0 (by omega)
  obtain ⟨xx, hxx⟩ : ∃ xx, bs.getD 0 0 = xx := ⟨_, rfl⟩
  rw [hxx, Nat.add_zero] at hc
  rw [hxx] at hx1
  have HC := Lib.hid hc
  have hxb : (xx == 1) = false := by simp; exact hx1
  clear f1 hc hxx hx1
  subst h0
  obtain ⟨ll, hll⟩ : ∃ ll : Int, ((1 : Nat) : Int) = ll := ⟨_, rfl⟩
  have HA := Lib.hid (alive_any ads w V)
  have hp64 := Fl.plain_lt hb
  have hidm := plain_idem b
  have hfl := fun w1 => float_any b hb w1
  have hrf := fun w1 => refFloat_any b hb w1
  have hbi := fun w1 => refBits_any b w1 hb
  obtain ⟨p, hp⟩ : ∃ p, Fl.plain b = p := ⟨_, rfl⟩
  simp only [hp] at hfl hrf hbi
  rw [hp] at hp64 hidm
  have hbk := fun w1 (hk : Kp w w1) (a1 : Option Addr) (c1 : Nat) (q1 : SlB (.slice a1 8 c1) (f8 p) w1) => toFloat_e ads a1 c1 (f8 p) 8 rfl (f8_in p) w1 (V.below hk) q1
  simp only [toFl_f8 p hp64 hidm] at hbk
  have e0 : errN ads 0 = .nilIface := rfl
  simp only [e0] at hbk
  have hrp := fun w1 => raw_any p w1
  have HT0 := fun w1 (hk : Kp w w1) => toFloat_e ads _ cap bs _ hlen hin w1 (V.below hk) (hs.kp hk)
  have HRT0 := fun w1 (hk : Kp w w1) => refToFloat_any _ cap bs _ hlen (by omega) hin w1 (hs.kp hk)
  have HQ0 := fun w1 (hk : Kp w w1) => num_errN ads w1 (V.below hk) (toFl bs).2 (toFl_two bs)
  obtain ⟨x, hx⟩ : ∃ x, (toFl bs).1 = x := ⟨_, rfl⟩
  obtain ⟨k, hkk⟩ : ∃ k, (toFl bs).2 = k := ⟨_, rfl⟩
  simp only [hx, hkk] at HT0 HRT0 HQ0
  obtain ⟨E, hE⟩ : ∃ E, errN ads k = E := ⟨_, rfl⟩
  simp only [hE] at HT0 HQ0
  have hrx := fun w1 => raw_any x w1
  obtain ⟨xi, hxi⟩ : ∃ xi : Int, (x : Int) = xi := ⟨_, rfl⟩
  simp only [hxi] at hrx
  obtain ⟨pi, hpi⟩ : ∃ pi : Int, (p : Int) = pi := ⟨_, rfl⟩
  simp only [hpi] at hrp hbi
  obtain ⟨fb, hfb⟩ : ∃ fb, f8 p = fb := ⟨_, rfl⟩
  simp only [hfb] at hfl hrf hbk
  obtain ⟨ss, hss⟩ : ∃ ss, strOfNums fb = ss := ⟨_, rfl⟩
  have HSS := Lib.hid hss
  have HFA := Lib.hid hfl
  have HRF := Lib.hid hrf
  have HBI := Lib.hid hbi
  have HBK := Lib.hid hbk
  have HRP := Lib.hid hrp
  have HT := Lib.hid HT0
  have HRT := Lib.hid HRT0
  have HQ := Lib.hid HQ0
  have HRX := Lib.hid hrx
  have HFL := Lib.hid (fun w1 => flag_any is w1)
  have HG := Lib.hid (fun w1 (hk : Kp w w1) (a : Option Addr) (c : Nat) (hs : SlB (.slice a (flB is).length c) (flB is) w1) => flag_back ads is a c w1 (V.below hk) hs)
  have hn3 := fun w1 (hk : Kp w w1) => num_err ads w1 (V.below hk) 3 (by decide) h3
  obtain ⟨ea, hea⟩ : ∃ ea, ads[3]'h3 = ea := ⟨_, rfl⟩
  simp only [hea] at hn3 htf
  have HN3 := Lib.hid hn3
  have HTF := Lib.hid htf
  have hng : ¬ ll > 100 := by omega
  have q1 : (ss.toList == ss.toList) = true := by simp
  have q2 : (pi != pi) = false := by simp
  have q3 : (xi != xi) = false := by simp
  have q4 : (k != k) = false := by simp
  have q5 : (is == is) = true := by simp
  clear hlen V hs hin hb hp64 hidm hfl hrf hbi hp hbk hrp HT0 HRT0 HQ0 hx hkk hE hrx hxi hpi hfb hss hn3 hea htf e0
  go_enter Tryd.func6, Tryd.ntmps6
  go_wp2_with (first | (go_at_call 9; (with_reducible refine HA.out.mono ?_); rintro e w1 ⟨rfl, hw1⟩; have K1 := Lib.hid hw1; clear hw1) | (go_at_call 26; (with_reducible refine (HFA.out _).mono ?_); rintro e w2 ⟨v2, rfl, ho2, hw2⟩; have K2 := Lib.hid (Kp.trans K1.out hw2); have hfm := own_le ho2; obtain ⟨a2, c2, rfl, -⟩ := hfm; have S2 := Lib.hid (own_slb ho2); clear ho2 hw2) | (go_at_call 27; (with_reducible refine (HBK.out _ K2.out _ _ S2.out).mono ?_); rintro e w3 ⟨rfl, hw3⟩; have K3 := Lib.hid (Kp.trans K2.out hw3); have R3 := Lib.hid (S2.out.kp hw3); have cv3 := conv_slb (R3.out.kp (Kp.refl w3).drew); rw [HSS.out] at cv3; clear hw3))
  have KD := Lib.hid (Kp.trans K3.out (Kp.refl w3).drew)
  refine wp_region_any (by kernel_rfl) ?_
  change wpAny _ _ _ _ _ _ _ (World.drew _)
  refine wpAny_take (i := 0) (v := ?_) rfl (by kernel_rfl) (by kernel_rfl) (by kernel_rfl) (fun _ _ _ h => h) (Or.inl ⟨by rfl, ?_⟩) ?_
  rotate_left
  · intro w; go_simp; try with_reducible rfl
  go_simp
  refine wpAny_take (i := 2) (v := ?_) rfl (by kernel_rfl) (by kernel_rfl) (by kernel_rfl) (fun _ _ _ h => h) (Or.inl ⟨by rfl, ?_⟩) ?_
  rotate_left
  · intro w; go_simp; try with_reducible rfl
  go_simp
  refine wpAny_ready (rs := [1, 3]) (by kernel_rfl) (by simp) ?_
  refine AllReady.cons rfl (fun K hK => ?_) (AllReady.cons rfl (fun K hK => ?_) AllReady.nil)
  · go_simp
    refine hK _ _ ?_
    clear hK K
    refine wpAny_ready (rs := [3]) (by kernel_rfl) (by simp) ?_
    refine AllReady.cons rfl (fun K hK => ?_) AllReady.nil
    go_simp
    go_wp2_with (go_at_call 28; (with_reducible refine (HRF.out _).mono ?_); rintro e w4 ⟨v4, rfl, s4, hk4⟩; have cv4 := conv_slb s4; rw [HSS.out] at cv4; have cw4 := conv_slb (R3.out.kp (Kp.trans (Kp.refl w3).drew hk4)); rw [HSS.out] at cw4; have K4 := Lib.hid (Kp.trans KD.out hk4); clear s4 hk4)
    refine wpAny_ready (rs := [4]) (by kernel_rfl) (by simp) ?_
    refine AllReady.cons rfl (fun K hK => ?_) AllReady.nil
    go_simp
    refine hK _ _ ?_
    clear hK K
    refine wpAny_take (i := 5) (v := ?_) rfl (by kernel_rfl) (by kernel_rfl) (by kernel_rfl) (fun _ _ _ h => h) (Or.inl ⟨by rfl, ?_⟩) ?_
    rotate_left
    · intro w; go_simp; try with_reducible rfl
    go_simp
    refine wpAny_take (i := 6) (v := ?_) rfl (by kernel_rfl) (by kernel_rfl) (by kernel_rfl) (fun _ _ _ h => h) (Or.inl ⟨by rfl, ?_⟩) ?_
    rotate_left
    · intro w; go_simp; try with_reducible rfl
    go_simp
    refine wpAny_take (i := 7) (v := ?_) rfl (by kernel_rfl) (by kernel_rfl) (by kernel_rfl) (fun _ _ _ h => h) (Or.inl ⟨by rfl, ?_⟩) ?_
    rotate_left
    · intro w; go_simp; try with_reducible rfl
    go_simp
    refine wpAny_take (i := 8) (v := ?_) rfl (by kernel_rfl) (by kernel_rfl) (by kernel_rfl) (fun _ _ _ h => h) (Or.inl ⟨by rfl, ?_⟩) ?_
    rotate_left
    · intro w; go_simp; try with_reducible rfl
    go_simp
    refine wpAny_take (i := 9) (v := ?_) rfl (by kernel_rfl) (by kernel_rfl) (by kernel_rfl) (fun _ _ _ h => h) (Or.inl ⟨by rfl, ?_⟩) ?_
    rotate_left
    · intro w; go_simp; try with_reducible rfl
    go_simp
    refine wpAny_take (i := 10) (v := ?_) rfl (by kernel_rfl) (by kernel_rfl) (by kernel_rfl) (fun _ _ _ h => h) (Or.inl ⟨by rfl, ?_⟩) ?_
    rotate_left
    · intro w; go_simp; try with_reducible rfl
    go_simp
    refine wpAny_take (i := 11) (v := ?_) rfl (by kernel_rfl) (by kernel_rfl) (by kernel_rfl) (fun _ _ _ h => h) (Or.inl ⟨by rfl, ?_⟩) ?_
    rotate_left
    · intro w; go_simp; try with_reducible rfl
    go_simp
    refine wpAny_take (i := 13) (v := ?_) rfl (by kernel_rfl) (by kernel_rfl) (by kernel_rfl) (fun _ _ _ h => h) (Or.inl ⟨by rfl, ?_⟩) ?_
    rotate_left
    · intro w; go_simp; try with_reducible rfl
    go_simp
    refine wpAny_ready (rs := [12]) (by kernel_rfl) (by simp) ?_
    refine AllReady.cons rfl (fun K hK => ?_) AllReady.nil
    go_simp
    go_wp2_with (go_at_call 29; (with_reducible refine (HRP.out _).mono ?_); rintro e w5 ⟨rfl, rfl⟩)
    refine wpAny_ready (rs := [14]) (by kernel_rfl) (by simp) ?_
    refine AllReady.cons rfl (fun K hK => ?_) AllReady.nil
    go_simp
    go_wp2_with (go_at_call 30; (with_reducible refine (HBI.out _).mono ?_); rintro e w6 ⟨rfl, rfl⟩)
    refine wpAny_take (i := 15) (v := ?_) rfl (by kernel_rfl) (by kernel_rfl) (by kernel_rfl) (fun _ _ _ h => h) (Or.inl ⟨by rfl, ?_⟩) ?_
    rotate_left
    · intro w; go_simp; try with_reducible rfl
    go_simp
    refine wpAny_take (i := 16) (v := ?_) rfl (by kernel_rfl) (by kernel_rfl) (by kernel_rfl) (fun _ _ _ h => h) (Or.inl ⟨by rfl, ?_⟩) ?_
    rotate_left
    · intro w; go_simp; try with_reducible rfl
    go_simp
    refine wpAny_done (by kernel_rfl) ?_ _
    go_wp2_with (first | (go_at_call 27; (with_reducible refine (HT.out _ K4.out).mono ?_); rintro e w7 ⟨rfl, hw7⟩; have K7 := Lib.hid (Kp.trans K4.out hw7); clear hw7) | (go_at_call 31; (with_reducible refine (HRT.out _ K7.out).mono ?_); rintro e w8 ⟨rfl, rfl⟩) | (go_at_call 29; (with_reducible refine (HRX.out _).mono ?_); rintro e w9 ⟨rfl, rfl⟩) | (go_at_call 15; (with_reducible refine (HQ.out _ K7.out).mono ?_); rintro e w10 ⟨rfl, hw10⟩; have K10 := Lib.hid (Kp.trans K7.out hw10); clear hw10) | (go_at_call 33; (with_reducible refine (HFL.out _).mono ?_); rintro e w11 ⟨v11, rfl, ho11, hw11⟩; have K11 := Lib.hid (Kp.trans K10.out hw11); have s11 := own_slb ho11; have hfm := s11.form; obtain ⟨a11, c11, rfl⟩ := hfm; have HG11 := Lib.hid (HG.out _ K11.out _ _ s11); clear ho11 hw11 s11) | (go_at_call 32; (with_reducible refine HG11.out.mono ?_); rintro e w12 ⟨rfl, hw12⟩; have K12 := Lib.hid (Kp.trans K11.out hw12); clear hw12) | (go_at_call 32; (with_reducible refine (HTF.out _ K12.out).mono ?_); rintro e w13 ⟨rfl, hw13⟩; have K13 := Lib.hid (Kp.trans K12.out hw13); have hc13 := kp_cell K13.out HC.out; clear hw13) | (go_at_call 15; (with_reducible refine (HN3.out _ K13.out).mono ?_); rintro e w14 ⟨rfl, hw14⟩; have K14 := Lib.hid (Kp.trans K13.out hw14); clear hw14))
    go_ret
    exact ⟨by simp, K14.out⟩
  · go_simp
    go_wp2_with (go_at_call 28; (with_reducible refine (HRF.out _).mono ?_); rintro e w4 ⟨v4, rfl, s4, hk4⟩; have cv4 := conv_slb s4; rw [HSS.out] at cv4; have cw4 := conv_slb (R3.out.kp (Kp.trans (Kp.refl w3).drew hk4)); rw [HSS.out] at cw4; have K4 := Lib.hid (Kp.trans KD.out hk4); clear s4 hk4)
    refine wpAny_ready (rs := [1, 4]) (by kernel_rfl) (by simp) ?_
    refine AllReady.cons rfl (fun K hK => ?_) (AllReady.cons rfl (fun K hK => ?_) AllReady.nil)
    · go_simp
      refine hK _ _ ?_
      clear hK K
      refine wpAny_ready (rs := [4]) (by kernel_rfl) (by simp) ?_
      refine AllReady.cons rfl (fun K hK => ?_) AllReady.nil
      go_simp
      refine hK _ _ ?_
      clear hK K
      refine wpAny_take (i := 5) (v := ?_) rfl (by kernel_rfl) (by kernel_rfl) (by kernel_rfl) (fun _ _ _ h => h) (Or.inl ⟨by rfl, ?_⟩) ?_
      rotate_left
      · intro w; go_simp; try with_reducible rfl
      go_simp
      refine wpAny_take (i := 6) (v := ?_) rfl (by kernel_rfl) (by kernel_rfl) (by kernel_rfl) (fun _ _ _ h => h) (Or.inl ⟨by rfl, ?_⟩) ?_
      rotate_left
      · intro w; go_simp; try with_reducible rfl
      go_simp
      refine wpAny_take (i := 7) (v := ?_) rfl (by kernel_rfl) (by kernel_rfl) (by kernel_rfl) (fun _ _ _ h => h) (Or.inl ⟨by rfl, ?_⟩) ?_
      rotate_left
      · intro w; go_simp; try with_reducible rfl
      go_simp
      refine wpAny_take (i := 8) (v := ?_) rfl (by kernel_rfl) (by kernel_rfl) (by kernel_rfl) (fun _ _ _ h => h) (Or.inl ⟨by rfl, ?_⟩) ?_
      rotate_left
      · intro w; go_simp; try with_reducible rfl
      go_simp
      refine wpAny_take (i := 9) (v := ?_) rfl (by kernel_rfl) (by kernel_rfl) (by kernel_rfl) (fun _ _ _ h => h) (Or.inl ⟨by rfl, ?_⟩) ?_
      rotate_left
      · intro w; go_simp; try with_reducible rfl
      go_simp
      refine wpAny_take (i := 10) (v := ?_) rfl (by kernel_rfl) (by kernel_rfl) (by kernel_rfl) (fun _ _ _ h => h) (Or.inl ⟨by rfl, ?_⟩) ?_
      rotate_left
      · intro w; go_simp; try with_reducible rfl
      go_simp
      refine wpAny_take (i := 11) (v := ?_) rfl (by kernel_rfl) (by kernel_rfl) (by kernel_rfl) (fun _ _ _ h => h) (Or.inl ⟨by rfl, ?_⟩) ?_
      rotate_left
      · intro w; go_simp; try with_reducible rfl
      go_simp
      refine wpAny_take (i := 13) (v := ?_) rfl (by kernel_rfl) (by kernel_rfl) (by kernel_rfl) (fun _ _ _ h => h) (Or.inl ⟨by rfl, ?_⟩) ?_
      rotate_left
      · intro w; go_simp; try with_reducible rfl
      go_simp
      refine wpAny_ready (rs := [12]) (by kernel_rfl) (by simp) ?_
      refine AllReady.cons rfl (fun K hK => ?_) AllReady.nil
      go_simp
      go_wp2_with (go_at_call 29; (with_reducible refine (HRP.out _).mono ?_); rintro e w5 ⟨rfl, rfl⟩)
      refine wpAny_ready (rs := [14]) (by kernel_rfl) (by simp) ?_
      refine AllReady.cons rfl (fun K hK => ?_) AllReady.nil
      go_simp
      go_wp2_with (go_at_call 30; (with_reducible refine (HBI.out _).mono ?_); rintro e w6 ⟨rfl, rfl⟩)
      refine wpAny_take (i := 15) (v := ?_) rfl (by kernel_rfl) (by kernel_rfl) (by kernel_rfl) (fun _ _ _ h => h) (Or.inl ⟨by rfl, ?_⟩) ?_
      rotate_left
      · intro w; go_simp; try with_reducible rfl
      go_simp
      refine wpAny_take (i := 16) (v := ?_) rfl (by kernel_rfl) (by kernel_rfl) (by kernel_rfl) (fun _ _ _ h => h) (Or.inl ⟨by rfl, ?_⟩) ?_
      rotate_left
      · intro w; go_simp; try with_reducible rfl
      go_simp
      refine wpAny_done (by kernel_rfl) ?_ _
      go_wp2_with (first | (go_at_call 27; (with_reducible refine (HT.out _ K4.out).mono ?_); rintro e w7 ⟨rfl, hw7⟩; have K7 := Lib.hid (Kp.trans K4.out hw7); clear hw7) | (go_at_call 31; (with_reducible refine (HRT.out _ K7.out).mono ?_); rintro e w8 ⟨rfl, rfl⟩) | (go_at_call 29; (with_reducible refine (HRX.out _).mono ?_); rintro e w9 ⟨rfl, rfl⟩) | (go_at_call 15; (with_reducible refine (HQ.out _ K7.out).mono ?_); rintro e w10 ⟨rfl, hw10⟩; have K10 := Lib.hid (Kp.trans K7.out hw10); clear hw10) | (go_at_call 33; (with_reducible refine (HFL.out _).mono ?_); rintro e w11 ⟨v11, rfl, ho11, hw11⟩; have K11 := Lib.hid (Kp.trans K10.out hw11); have s11 := own_slb ho11; have hfm := s11.form; obtain ⟨a11, c11, rfl⟩ := hfm; have HG11 := Lib.hid (HG.out _ K11.out _ _ s11); clear ho11 hw11 s11) | (go_at_call 32; (with_reducible refine HG11.out.mono ?_); rintro e w12 ⟨rfl, hw12⟩; have K12 := Lib.hid (Kp.trans K11.out hw12); clear hw12) | (go_at_call 32; (with_reducible refine (HTF.out _ K12.out).mono ?_); rintro e w13 ⟨rfl, hw13⟩; have K13 := Lib.hid (Kp.trans K12.out hw13); have hc13 := kp_cell K13.out HC.out; clear hw13) | (go_at_call 15; (with_reducible refine (HN3.out _ K13.out).mono ?_); rintro e w14 ⟨rfl, hw14⟩; have K14 := Lib.hid (Kp.trans K13.out hw14); clear hw14))
      go_ret
      exact ⟨by simp, K14.out⟩
    · go_simp
      refine hK _ _ ?_
      clear hK K
      refine wpAny_ready (rs := [1]) (by kernel_rfl) (by simp) ?_
      refine AllReady.cons rfl (fun K hK => ?_) AllReady.nil
      go_simp
      refine hK _ _ ?_
      clear hK K
      refine wpAny_take (i := 5) (v := ?_) rfl (by kernel_rfl) (by kernel_rfl) (by kernel_rfl) (fun _ _ _ h => h) (Or.inl ⟨by rfl, ?_⟩) ?_
      rotate_left
      · intro w; go_simp; try with_reducible rfl
      go_simp
      refine wpAny_take (i := 6) (v := ?_) rfl (by kernel_rfl) (by kernel_rfl) (by kernel_rfl) (fun _ _ _ h => h) (Or.inl ⟨by rfl, ?_⟩) ?_
      rotate_left
      · intro w; go_simp; try with_reducible rfl
      go_simp
      refine wpAny_take (i := 7) (v := ?_) rfl (by kernel_rfl) (by kernel_rfl) (by kernel_rfl) (fun _ _ _ h => h) (Or.inl ⟨by rfl, ?_⟩) ?_
      rotate_left
      · intro w; go_simp; try with_reducible rfl
      go_simp
      refine wpAny_take (i := 8) (v := ?_) rfl (by kernel_rfl) (by kernel_rfl) (by kernel_rfl) (fun _ _ _ h => h) (Or.inl ⟨by rfl, ?_⟩) ?_
      rotate_left
      · intro w; go_simp; try with_reducible rfl
      go_simp
      refine wpAny_take (i := 9) (v := ?_) rfl (by kernel_rfl) (by kernel_rfl) (by kernel_rfl) (fun _ _ _ h => h) (Or.inl ⟨by rfl, ?_⟩) ?_
      rotate_left
      · intro w; go_simp; try with_reducible rfl
      go_simp
      refine wpAny_take (i := 10) (v := ?_) rfl (by kernel_rfl) (by kernel_rfl) (by kernel_rfl) (fun _ _ _ h => h) (Or.inl ⟨by rfl, ?_⟩) ?_
      rotate_left
      · intro w; go_simp; try with_reducible rfl
      go_simp
      refine wpAny_take (i := 11) (v := ?_) rfl (by kernel_rfl) (by kernel_rfl) (by kernel_rfl) (fun _ _ _ h => h) (Or.inl ⟨by rfl, ?_⟩) ?_
      rotate_left
      · intro w; go_simp; try with_reducible rfl
      go_simp
      refine wpAny_take (i := 13) (v := ?_) rfl (by kernel_rfl) (by kernel_rfl) (by kernel_rfl) (fun _ _ _ h => h) (Or.inl ⟨by rfl, ?_⟩) ?_
      rotate_left
      · intro w; go_simp; try with_reducible rfl
      go_simp
      refine wpAny_ready (rs := [12]) (by kernel_rfl) (by simp) ?_
      refine AllReady.cons rfl (fun K hK => ?_) AllReady.nil
      go_simp
      go_wp2_with (go_at_call 29; (with_reducible refine (HRP.out _).mono ?_); rintro e w5 ⟨rfl, rfl⟩)
      refine wpAny_ready (rs := [14]) (by kernel_rfl) (by simp) ?_
      refine AllReady.cons rfl (fun K hK => ?_) AllReady.nil
      go_simp
      go_wp2_with (go_at_call 30; (with_reducible refine (HBI.out _).mono ?_); rintro e w6 ⟨rfl, rfl⟩)
      refine wpAny_take (i := 15) (v := ?_) rfl (by kernel_rfl) (by kernel_rfl) (by kernel_rfl) (fun _ _ _ h => h) (Or.inl ⟨by rfl, ?_⟩) ?_
      rotate_left
      · intro w; go_simp; try with_reducible rfl
      go_simp
      refine wpAny_take (i := 16) (v := ?_) rfl (by kernel_rfl) (by kernel_rfl) (by kernel_rfl) (fun _ _ _ h => h) (Or.inl ⟨by rfl, ?_⟩) ?_
      rotate_left
      · intro w; go_simp; try with_reducible rfl
      go_simp
      refine wpAny_done (by kernel_rfl) ?_ _
      go_wp2_with (first | (go_at_call 27; (with_reducible refine (HT.out _ K4.out).mono ?_); rintro e w7 ⟨rfl, hw7⟩; have K7 := Lib.hid (Kp.trans K4.out hw7); clear hw7) | (go_at_call 31; (with_reducible refine (HRT.out _ K7.out).mono ?_); rintro e w8 ⟨rfl, rfl⟩) | (go_at_call 29; (with_reducible refine (HRX.out _).mono ?_); rintro e w9 ⟨rfl, rfl⟩) | (go_at_call 15; (with_reducible refine (HQ.out _ K7.out).mono ?_); rintro e w10 ⟨rfl, hw10⟩; have K10 := Lib.hid (Kp.trans K7.out hw10); clear hw10) | (go_at_call 33; (with_reducible refine (HFL.out _).mono ?_); rintro e w11 ⟨v11, rfl, ho11, hw11⟩; have K11 := Lib.hid (Kp.trans K10.out hw11); have s11 := own_slb ho11; have hfm := s11.form; obtain ⟨a11, c11, rfl⟩ := hfm; have HG11 := Lib.hid (HG.out _ K11.out _ _ s11); clear ho11 hw11 s11) | (go_at_call 32; (with_reducible refine HG11.out.mono ?_); rintro e w12 ⟨rfl, hw12⟩; have K12 := Lib.hid (Kp.trans K11.out hw12); clear hw12) | (go_at_call 32; (with_reducible refine (HTF.out _ K12.out).mono ?_); rintro e w13 ⟨rfl, hw13⟩; have K13 := Lib.hid (Kp.trans K12.out hw13); have hc13 := kp_cell K13.out HC.out; clear hw13) | (go_at_call 15; (with_reducible refine (HN3.out _ K13.out).mono ?_); rintro e w14 ⟨rfl, hw14⟩; have K14 := Lib.hid (Kp.trans K13.out hw14); clear hw14))
      go_ret
      exact ⟨by simp, K14.out⟩

set_option maxRecDepth 20000 in
set_option maxHeartbeats 4000000 in
theorem floats_3 (ads : List Addr) (h3 : 3 < ads.length) (b : Nat) (hb : b < 18446744073709551616) (a : Option Addr) (cap : Nat) (bs : List Int) (len : Nat) (hlen : bs.length = len) (hl : len ≤ 100) (hin : InB bs) (is : Bool) (w : World) (V : St ads w) (hs : SlB (.slice a len cap) bs w) (h0 : 2 ≤ len) :
    Calls Tryd.prog 6 #[.float .f64 b, .slice a len cap, .bool is] w fun e w' => e = .returned (.bool true) ∧ Kp w w' := by
  have f1 : isFlag bs = false := decide_eq_false (by omega)
  have htf := fun w1 (hk : Kp w w1) => toFlag_any ads a cap bs len hlen h3 w1 (V.below hk) (hs.kp hk)
  simp only [f1, Bool.false_eq_true, if_false] at htf
  clear f1
  obtain ⟨ll, hll⟩ : ∃ ll : Int, (len : Int) = ll := ⟨_, rfl⟩
  have ha0 : (ll == 0) = false := by simp; omega
  have ha1 : (ll == 1) = false := by simp; omega
  have HA := Lib.hid (alive_any ads w V)
  have hp64 := Fl.plain_lt hb
  have hidm := plain_idem b
  have hfl := fun w1 => float_any b hb w1
  have hrf := fun w1 => refFloat_any b hb w1
  have hbi := fun w1 => refBits_any b w1 hb
  obtain ⟨p, hp⟩ : ∃ p, Fl.plain b = p := ⟨_, rfl⟩
  simp only [hp] at hfl hrf hbi
  rw [hp] at hp64 hidm
  have hbk := fun w1 (hk : Kp w w1) (a1 : Option Addr) (c1 : Nat) (q1 : SlB (.slice a1 8 c1) (f8 p) w1) => toFloat_e ads a1 c1 (f8 p) 8 rfl (f8_in p) w1 (V.below hk) q1
  simp only [toFl_f8 p hp64 hidm] at hbk
  have e0 : errN ads 0 = .nilIface := rfl
  simp only [e0] at hbk
  have hrp := fun w1 => raw_any p w1
  have HT0 := fun w1 (hk : Kp w w1) => toFloat_e ads _ cap bs _ hlen hin w1 (V.below hk) (hs.kp hk)
  have HRT0 := fun w1 (hk : Kp w w1) => refToFloat_any _ cap bs _ hlen (by omega) hin w1 (hs.kp hk)
  have HQ0 := fun w1 (hk : Kp w w1) => num_errN ads w1 (V.below hk) (toFl bs).2 (toFl_two bs)
  obtain ⟨x, hx⟩ : ∃ x, (toFl bs).1 = x := ⟨_, rfl⟩
  obtain ⟨k, hkk⟩ : ∃ k, (toFl bs).2 = k := ⟨_, rfl⟩
  simp only [hx, hkk] at HT0 HRT0 HQ0
  obtain ⟨E, hE⟩ : ∃ E, errN ads k = E := ⟨_, rfl⟩
  simp only [hE] at HT0 HQ0
  have hrx := fun w1 => raw_any x w1
  obtain ⟨xi, hxi⟩ : ∃ xi : Int, (x : Int) = xi := ⟨_, rfl⟩
  simp only [hxi] at hrx
  obtain ⟨pi, hpi⟩ : ∃ pi : Int, (p : Int) = pi := ⟨_, rfl⟩
  simp only [hpi] at hrp hbi
  obtain ⟨fb, hfb⟩ : ∃ fb, f8 p = fb := ⟨_, rfl⟩
  simp only [hfb] at hfl hrf hbk
  obtain ⟨ss, hss⟩ : ∃ ss, strOfNums fb = ss := ⟨_, rfl⟩
  have HSS := Lib.hid hss
  have HFA := Lib.hid hfl
  have HRF := Lib.hid hrf
  have HBI := Lib.hid hbi
  have HBK := Lib.hid hbk
  have HRP := Lib.hid hrp
  have HT := Lib.hid HT0
  have HRT := Lib.hid HRT0
  have HQ := Lib.hid HQ0
  have HRX := Lib.hid hrx
  have HFL := Lib.hid (fun w1 => flag_any is w1)
  have HG := Lib.hid (fun w1 (hk : Kp w w1) (a : Option Addr) (c : Nat) (hs : SlB (.slice a (flB is).length c) (flB is) w1) => flag_back ads is a c w1 (V.below hk) hs)
  have hn3 := fun w1 (hk : Kp w w1) => num_err ads w1 (V.below hk) 3 (by decide) h3
  obtain ⟨ea, hea⟩ : ∃ ea, ads[3]'h3 = ea := ⟨_, rfl⟩
  simp only [hea] at hn3 htf
  have HN3 := Lib.hid hn3
  have HTF := Lib.hid htf
  have hng : ¬ ll > 100 := by omega
  have q1 : (ss.toList == ss.toList) = true := by simp
  have q2 : (pi != pi) = false := by simp
  have q3 : (xi != xi) = false := by simp
  have q4 : (k != k) = false := by simp
  have q5 : (is == is) = true := by simp
  clear hlen V hs hin hb hp64 hidm hfl hrf hbi hp hbk hrp HT0 HRT0 HQ0 hx hkk hE hrx hxi hpi hfb hss hn3 hea htf e0
  go_enter Tryd.func6, Tryd.ntmps6
  go_wp2_with (first | (go_at_call 9; (with_reducible refine HA.out.mono ?_); rintro e w1 ⟨rfl, hw1⟩; have K1 := Lib.hid hw1; clear hw1) | (go_at_call 26; (with_reducible refine (HFA.out _).mono ?_); rintro e w2 ⟨v2, rfl, ho2, hw2⟩; have K2 := Lib.hid (Kp.trans K1.out hw2); have hfm := own_le ho2; obtain ⟨a2, c2, rfl, -⟩ := hfm; have S2 := Lib.hid (own_slb ho2); clear ho2 hw2) | (go_at_call 27; (with_reducible refine (HBK.out _ K2.out _ _ S2.out).mono ?_); rintro e w3 ⟨rfl, hw3⟩; have K3 := Lib.hid (Kp.trans K2.out hw3); have R3 := Lib.hid (S2.out.kp hw3); have cv3 := conv_slb (R3.out.kp (Kp.refl w3).drew); rw [HSS.out] at cv3; clear hw3))
  have KD := Lib.hid (Kp.trans K3.out (Kp.refl w3).drew)
  refine wp_region_any (by kernel_rfl) ?_
  change wpAny _ _ _ _ _ _ _ (World.drew _)
  refine wpAny_take (i := 0) (v := ?_) rfl (by kernel_rfl) (by kernel_rfl) (by kernel_rfl) (fun _ _ _ h => h) (Or.inl ⟨by rfl, ?_⟩) ?_
  rotate_left
  · intro w; go_simp; try with_reducible rfl
  go_simp
  refine wpAny_take (i := 2) (v := ?_) rfl (by kernel_rfl) (by kernel_rfl) (by kernel_rfl) (fun _ _ _ h => h) (Or.inl ⟨by rfl, ?_⟩) ?_
  rotate_left
  · intro w; go_simp; try with_reducible rfl
  go_simp
  refine wpAny_ready (rs := [1, 3]) (by kernel_rfl) (by simp) ?_
  refine AllReady.cons rfl (fun K hK => ?_) (AllReady.cons rfl (fun K hK => ?_) AllReady.nil)
  · go_simp
    refine hK _ _ ?_
    clear hK K
    refine wpAny_ready (rs := [3]) (by kernel_rfl) (by simp) ?_
    refine AllReady.cons rfl (fun K hK => ?_) AllReady.nil
    go_simp
    go_wp2_with (go_at_call 28; (with_reducible refine (HRF.out _).mono ?_); rintro e w4 ⟨v4, rfl, s4, hk4⟩; have cv4 := conv_slb s4; rw [HSS.out] at cv4; have cw4 := conv_slb (R3.out.kp (Kp.trans (Kp.refl w3).drew hk4)); rw [HSS.out] at cw4; have K4 := Lib.hid (Kp.trans KD.out hk4); clear s4 hk4)
    refine wpAny_ready (rs := [4]) (by kernel_rfl) (by simp) ?_
    refine AllReady.cons rfl (fun K hK => ?_) AllReady.nil
    go_simp
    refine hK _ _ ?_
    clear hK K
    refine wpAny_take (i := 5) (v := ?_) rfl (by kernel_rfl) (by kernel_rfl) (by kernel_rfl) (fun _ _ _ h => h) (Or.inl ⟨by rfl, ?_⟩) ?_
    rotate_left
    · intro w; go_simp; try with_reducible rfl
    go_simp
    refine wpAny_take (i := 6) (v := ?_) rfl (by kernel_rfl) (by kernel_rfl) (by kernel_rfl) (fun _ _ _ h => h) (Or.inl ⟨by rfl, ?_⟩) ?_
    rotate_left
    · intro w; go_simp; try with_reducible rfl
    go_simp
    refine wpAny_take (i := 7) (v := ?_) rfl (by kernel_rfl) (by kernel_rfl) (by kernel_rfl) (fun _ _ _ h => h) (Or.inl ⟨by rfl, ?_⟩) ?_
    rotate_left
    · intro w; go_simp; try with_reducible rfl
    go_simp
    refine wpAny_take (i := 8) (v := ?_) rfl (by kernel_rfl) (by kernel_rfl) (by kernel_rfl) (fun _ _ _ h => h) (Or.inl ⟨by rfl, ?_⟩) ?_
    rotate_left
    · intro w; go_simp; try with_reducible rfl
    go_simp
    refine wpAny_take (i := 9) (v := ?_) rfl (by kernel_rfl) (by kernel_rfl) (by kernel_rfl) (fun _ _ _ h => h) (Or.inl ⟨by rfl, ?_⟩) ?_
    rotate_left
    · intro w; go_simp; try with_reducible rfl
    go_simp
    refine wpAny_take (i := 10) (v := ?_) rfl (by kernel_rfl) (by kernel_rfl) (by kernel_rfl) (fun _ _ _ h => h) (Or.inl ⟨by rfl, ?_⟩) ?_
    rotate_left
    · intro w; go_simp; try with_reducible rfl
    go_simp
    refine wpAny_take (i := 11) (v := ?_) rfl (by kernel_rfl) (by kernel_rfl) (by kernel_rfl) (fun _ _ _ h => h) (Or.inl ⟨by rfl, ?_⟩) ?_
    rotate_left
    · intro w; go_simp; try with_reducible rfl
    go_simp
    refine wpAny_take (i := 13) (v := ?_) rfl (by kernel_rfl) (by kernel_rfl) (by kernel_rfl) (fun _ _ _ h => h) (Or.inl ⟨by rfl, ?_⟩) ?_
    rotate_left
    · intro w; go_simp; try with_reducible rfl
    go_simp
    refine wpAny_ready (rs := [12]) (by kernel_rfl) (by simp) ?_
    refine AllReady.cons rfl (fun K hK => ?_) AllReady.nil
    go_simp
    go_wp2_with (go_at_call 29; (with_reducible refine (HRP.out _).mono ?_); rintro e w5 ⟨rfl, rfl⟩)
    refine wpAny_ready (rs := [14]) (by kernel_rfl) (by simp) ?_
    refine AllReady.cons rfl (fun K hK => ?_) AllReady.nil
    go_simp
    go_wp2_with (go_at_call 30; (with_reducible refine (HBI.out _).mono ?_); rintro e w6 ⟨rfl, rfl⟩)
    refine wpAny_take (i := 15) (v := ?_) rfl (by kernel_rfl) (by kernel_rfl) (by kernel_rfl) (fun _ _ _ h => h) (Or.inl ⟨by rfl, ?_⟩) ?_
    rotate_left
    · intro w; go_simp; try with_reducible rfl
    go_simp
    refine wpAny_take (i := 16) (v := ?_) rfl (by kernel_rfl) (by kernel_rfl) (by kernel_rfl) (fun _ _ _ h => h) (Or.inl ⟨by rfl, ?_⟩) ?_
    rotate_left
    · intro w; go_simp; try with_reducible rfl
    go_simp
    refine wpAny_done (by kernel_rfl) ?_ _
    go_wp2_with (first | (go_at_call 27; (with_reducible refine (HT.out _ K4.out).mono ?_); rintro e w7 ⟨rfl, hw7⟩; have K7 := Lib.hid (Kp.trans K4.out hw7); clear hw7) | (go_at_call 31; (with_reducible refine (HRT.out _ K7.out).mono ?_); rintro e w8 ⟨rfl, rfl⟩) | (go_at_call 29; (with_reducible refine (HRX.out _).mono ?_); rintro e w9 ⟨rfl, rfl⟩) | (go_at_call 15; (with_reducible refine (HQ.out _ K7.out).mono ?_); rintro e w10 ⟨rfl, hw10⟩; have K10 := Lib.hid (Kp.trans K7.out hw10); clear hw10) | (go_at_call 33; (with_reducible refine (HFL.out _).mono ?_); rintro e w11 ⟨v11, rfl, ho11, hw11⟩; have K11 := Lib.hid (Kp.trans K10.out hw11); have s11 := own_slb ho11; have hfm := s11.form; obtain ⟨a11, c11, rfl⟩ := hfm; have HG11 := Lib.hid (HG.out _ K11.out _ _ s11); clear ho11 hw11 s11) | (go_at_call 32; (with_reducible refine HG11.out.mono ?_); rintro e w12 ⟨rfl, hw12⟩; have K12 := Lib.hid (Kp.trans K11.out hw12); clear hw12) | (go_at_call 32; (with_reducible refine (HTF.out _ K12.out).mono ?_); rintro e w13 ⟨rfl, hw13⟩; have K13 := Lib.hid (Kp.trans K12.out hw13); clear hw13) | (go_at_call 15; (with_reducible refine (HN3.out _ K13.out).mono ?_); rintro e w14 ⟨rfl, hw14⟩; have K14 := Lib.hid (Kp.trans K13.out hw14); clear hw14))
    go_ret
    exact ⟨by simp, K14.out⟩
  · go_simp
    go_wp2_with (go_at_call 28; (with_reducible refine (HRF.out _).mono ?_); rintro e w4 ⟨v4, rfl, s4, hk4⟩; have cv4 := conv_slb s4; rw [HSS.out] at cv4; have cw4 := conv_slb (R3.out.kp (Kp.trans (Kp.refl w3).drew hk4)); rw [HSS.out] at cw4; have K4 := Lib.hid (Kp.trans KD.out hk4); clear s4 hk4)
    refine wpAny_ready (rs := [1, 4]) (by kernel_rfl) (by simp) ?_
    refine AllReady.cons rfl (fun K hK => ?_) (AllReady.cons rfl (fun K hK => ?_) AllReady.nil)
    · go_simp
      refine hK _ _ ?_
      clear hK K
      refine wpAny_ready (rs := [4]) (by kernel_rfl) (by simp) ?_
      refine AllReady.cons rfl (fun K hK => ?_) AllReady.nil
      go_simp
      refine hK _ _ ?_
      clear hK K
      refine wpAny_take (i := 5) (v := ?_) rfl (by kernel_rfl) (by kernel_rfl) (by kernel_rfl) (fun _ _ _ h => h) (Or.inl ⟨by rfl, ?_⟩) ?_
      rotate_left
      · intro w; go_simp; try with_reducible rfl
      go_simp
      refine wpAny_take (i := 6) (v := ?_) rfl (by kernel_rfl) (by kernel_rfl) (by kernel_rfl) (fun _ _ _ h => h) (Or.inl ⟨by rfl, ?_⟩) ?_
      rotate_left
      · intro w; go_simp; try with_reducible rfl
      go_simp
      refine wpAny_take (i := 7) (v := ?_) rfl (by kernel_rfl) (by kernel_rfl) (by kernel_rfl) (fun _ _ _ h => h) (Or.inl ⟨by rfl, ?_⟩) ?_
      rotate_left
      · intro w; go_simp; try with_reducible rfl
      go_simp
      refine wpAny_take (i := 8) (v := ?_) rfl (by kernel_rfl) (by kernel_rfl) (by kernel_rfl) (fun _ _ _ h => h) (Or.inl ⟨by rfl, ?_⟩) ?_
      rotate_left
      · intro w; go_simp; try with_reducible rfl
      go_simp
      refine wpAny_take (i := 9) (v := ?_) rfl (by kernel_rfl) (by kernel_rfl) (by kernel_rfl) (fun _ _ _ h => h) (Or.inl ⟨by rfl, ?_⟩) ?_
      rotate_left
      · intro w; go_simp; try with_reducible rfl
      go_simp
      refine wpAny_take (i := 10) (v := ?_) rfl (by kernel_rfl) (by kernel_rfl) (by kernel_rfl) (fun _ _ _ h => h) (Or.inl ⟨by rfl, ?_⟩) ?_
      rotate_left
      · intro w; go_simp; try with_reducible rfl
      go_simp
      refine wpAny_take (i := 11) (v := ?_) rfl (by kernel_rfl) (by kernel_rfl) (by kernel_rfl) (fun _ _ _ h => h) (Or.inl ⟨by rfl, ?_⟩) ?_
      rotate_left
      · intro w; go_simp; try with_reducible rfl
      go_simp
      refine wpAny_take (i := 13) (v := ?_) rfl (by kernel_rfl) (by kernel_rfl) (by kernel_rfl) (fun _ _ _ h => h) (Or.inl ⟨by rfl, ?_⟩) ?_
      rotate_left
      · intro w; go_simp; try with_reducible rfl
      go_simp
      refine wpAny_ready (rs := [12]) (by kernel_rfl) (by simp) ?_
      refine AllReady.cons rfl (fun K hK => ?_) AllReady.nil
      go_simp
      go_wp2_with (go_at_call 29; (with_reducible refine (HRP.out _).mono ?_); rintro e w5 ⟨rfl, rfl⟩)
      refine wpAny_ready (rs := [14]) (by kernel_rfl) (by simp) ?_
      refine AllReady.cons rfl (fun K hK => ?_) AllReady.nil
      go_simp
      go_wp2_with (go_at_call 30; (with_reducible refine (HBI.out _).mono ?_); rintro e w6 ⟨rfl, rfl⟩)
      refine wpAny_take (i := 15) (v := ?_) rfl (by kernel_rfl) (by kernel_rfl) (by kernel_rfl) (fun _ _ _ h => h) (Or.inl ⟨by rfl, ?_⟩) ?_
      rotate_left
      · intro w; go_simp; try with_reducible rfl
      go_simp
      refine wpAny_take (i := 16) (v := ?_) rfl (by kernel_rfl) (by kernel_rfl) (by kernel_rfl) (fun _ _ _ h => h) (Or.inl ⟨by rfl, ?_⟩) ?_
      rotate_left
      · intro w; go_simp; try with_reducible rfl
      go_simp
      refine wpAny_done (by kernel_rfl) ?_ _
      go_wp2_with (first | (go_at_call 27; (with_reducible refine (HT.out _ K4.out).mono ?_); rintro e w7 ⟨rfl, hw7⟩; have K7 := Lib.hid (Kp.trans K4.out hw7); clear hw7) | (go_at_call 31; (with_reducible refine (HRT.out _ K7.out).mono ?_); rintro e w8 ⟨rfl, rfl⟩) | (go_at_call 29; (with_reducible refine (HRX.out _).mono ?_); rintro e w9 ⟨rfl, rfl⟩) | (go_at_call 15; (with_reducible refine (HQ.out _ K7.out).mono ?_); rintro e w10 ⟨rfl, hw10⟩; have K10 := Lib.hid (Kp.trans K7.out hw10); clear hw10) | (go_at_call 33; (with_reducible refine (HFL.out _).mono ?_); rintro e w11 ⟨v11, rfl, ho11, hw11⟩; have K11 := Lib.hid (Kp.trans K10.out hw11); have s11 := own_slb ho11; have hfm := s11.form; obtain ⟨a11, c11, rfl⟩ := hfm; have HG11 := Lib.hid (HG.out _ K11.out _ _ s11); clear ho11 hw11 s11) | (go_at_call 32; (with_reducible refine HG11.out.mono ?_); rintro e w12 ⟨rfl, hw12⟩; have K12 := Lib.hid (Kp.trans K11.out hw12); clear hw12) | (go_at_call 32; (with_reducible refine (HTF.out _ K12.out).mono ?_); rintro e w13 ⟨rfl, hw13⟩; have K13 := Lib.hid (Kp.trans K12.out hw13); clear hw13) | (go_at_call 15; (with_reducible refine (HN3.out _ K13.out).mono ?_); rintro e w14 ⟨rfl, hw14⟩; have K14 := Lib.hid (Kp.trans K13.out hw14); clear hw14))
      go_ret
      exact ⟨by simp, K14.out⟩
    · go_simp
      refine hK _ _ ?_
      clear hK K
      refine wpAny_ready (rs := [1]) (by kernel_rfl) (by simp) ?_
      refine AllReady.cons rfl (fun K hK => ?_) AllReady.nil
      go_simp
      refine hK _ _ ?_
      clear hK K
      refine wpAny_take (i := 5) (v := ?_) rfl (by kernel_rfl) (by kernel_rfl) (by kernel_rfl) (fun _ _ _ h => h) (Or.inl ⟨by rfl, ?_⟩) ?_
      rotate_left
      · intro w; go_simp; try with_reducible rfl
      go_simp
      refine wpAny_take (i := 6) (v := ?_) rfl (by kernel_rfl) (by kernel_rfl) (by kernel_rfl) (fun _ _ _ h => h) (Or.inl ⟨by rfl, ?_⟩) ?_
      rotate_left
      · intro w; go_simp; try with_reducible rfl
      go_simp
      refine wpAny_take (i := 7) (v := ?_) rfl (by kernel_rfl) (by kernel_rfl) (by kernel_rfl) (fun _ _ _ h => h) (Or.inl ⟨by rfl, ?_⟩) ?_
      rotate_left
      · intro w; go_simp; try with_reducible rfl
      go_simp
      refine wpAny_take (i := 8) (v := ?_) rfl (by kernel_rfl) (by kernel_rfl) (by kernel_rfl) (fun _ _ _ h => h) (Or.inl ⟨by rfl, ?_⟩) ?_
      rotate_left
      · intro w; go_simp; try with_reducible rfl
      go_simp
      refine wpAny_take (i := 9) (v := ?_) rfl (by kernel_rfl) (by kernel_rfl) (by kernel_rfl) (fun _ _ _ h => h) (Or.inl ⟨by rfl, ?_⟩) ?_
      rotate_left
      · intro w; go_simp; try with_reducible rfl
      go_simp
      refine wpAny_take (i := 10) (v := ?_) rfl (by kernel_rfl) (by kernel_rfl) (by kernel_rfl) (fun _ _ _ h => h) (Or.inl ⟨by rfl, ?_⟩) ?_
      rotate_left
      · intro w; go_simp; try with_reducible rfl
      go_simp
      refine wpAny_take (i := 11) (v := ?_) rfl (by kernel_rfl) (by kernel_rfl) (by kernel_rfl) (fun _ _ _ h => h) (Or.inl ⟨by rfl, ?_⟩) ?_
      rotate_left
      · intro w; go_simp; try with_reducible rfl
      go_simp
      refine wpAny_take (i := 13) (v := ?_) rfl (by kernel_rfl) (by kernel_rfl) (by kernel_rfl) (fun _ _ _ h => h) (Or.inl ⟨by rfl, ?_⟩) ?_
      rotate_left
      · intro w; go_simp; try with_reducible rfl
      go_simp
      refine wpAny_ready (rs := [12]) (by kernel_rfl) (by simp) ?_
      refine AllReady.cons rfl (fun K hK => ?_) AllReady.nil
      go_simp
      go_wp2_with (go_at_call 29; (with_reducible refine (HRP.out _).mono ?_); rintro e w5 ⟨rfl, rfl⟩)
      refine wpAny_ready (rs := [14]) (by kernel_rfl) (by simp) ?_
      refine AllReady.cons rfl (fun K hK => ?_) AllReady.nil
      go_simp
      go_wp2_with (go_at_call 30; (with_reducible refine (HBI.out _).mono ?_); rintro e w6 ⟨rfl, rfl⟩)
      refine wpAny_take (i := 15) (v := ?_) rfl (by kernel_rfl) (by kernel_rfl) (by kernel_rfl) (fun _ _ _ h => h) (Or.inl ⟨by rfl, ?_⟩) ?_
      rotate_left
      · intro w; go_simp; try with_reducible rfl
      go_simp
      refine wpAny_take (i := 16) (v := ?_) rfl (by kernel_rfl) (by kernel_rfl) (by kernel_rfl) (fun _ _ _ h => h) (Or.inl ⟨by rfl, ?_⟩) ?_
      rotate_left
      · intro w; go_simp; try with_reducible rfl
      go_simp
      refine wpAny_done (by kernel_rfl) ?_ _
      go_wp2_with (first | (go_at_call 27; (with_reducible refine (HT.out _ K4.out).mono ?_); rintro e w7 ⟨rfl, hw7⟩; have K7 := Lib.hid (Kp.trans K4.out hw7); clear hw7) | (go_at_call 31; (with_reducible refine (HRT.out _ K7.out).mono ?_); rintro e w8 ⟨rfl, rfl⟩) | (go_at_call 29; (with_reducible refine (HRX.out _).mono ?_); rintro e w9 ⟨rfl, rfl⟩) | (go_at_call 15; (with_reducible refine (HQ.out _ K7.out).mono ?_); rintro e w10 ⟨rfl, hw10⟩; have K10 := Lib.hid (Kp.trans K7.out hw10); clear hw10) | (go_at_call 33; (with_reducible refine (HFL.out _).mono ?_); rintro e w11 ⟨v11, rfl, ho11, hw11⟩; have K11 := Lib.hid (Kp.trans K10.out hw11); have s11 := own_slb ho11; have hfm := s11.form; obtain ⟨a11, c11, rfl⟩ := hfm; have HG11 := Lib.hid (HG.out _ K11.out _ _ s11); clear ho11 hw11 s11) | (go_at_call 32; (with_reducible refine HG11.out.mono ?_); rintro e w12 ⟨rfl, hw12⟩; have K12 := Lib.hid (Kp.trans K11.out hw12); clear hw12) | (go_at_call 32; (with_reducible refine (HTF.out _ K12.out).mono ?_); rintro e w13 ⟨rfl, hw13⟩; have K13 := Lib.hid (Kp.trans K12.out hw13); clear hw13) | (go_at_call 15; (with_reducible refine (HN3.out _ K13.out).mono ?_); rintro e w14 ⟨rfl, hw14⟩; have K14 := Lib.hid (Kp.trans K13.out hw14); clear hw14))
      go_ret
      exact ⟨by simp, K14.out⟩
end Go.Proofs.YtfealdllicicnaaDoor
