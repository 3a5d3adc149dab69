/-
  FieldsSplit's WALKS (own work).
-/
import Derived.Test.YtfealdllicicnaaDoorAliveF
import Derived.Test.YtfealdllicicnaaDoorSplH
import Derived.Test.YtfealdllicicnaaDoorNumB
namespace Go.Proofs.YtfealdllicicnaaDoor
open Go.RowKit Go.ChangeShapes Go.WideShapes

/-- WHAT IS SPLIT is right, and is joined to the same bytes. -/
theorem splitQ_back : ∀ (f : Nat) (bs : List Int) (last : Int) (k : Nat), InB bs → k ≤ 16 → (splitQ f bs last k).1 = 0 → runQ k last (splitQ f bs last k).2 = true ∧ joinB (splitQ f bs last k).2 = bs
  | 0, _, _, _, _, _, h => by simp [splitQ] at h
  | f + 1, bs, last, k, hb, hk, h => by
    rw [splitQ] at h ⊢
    by_cases h0 : bs.length = 0
    · rw [if_pos h0]
      exact ⟨rfl, (List.length_eq_zero_iff.1 h0).symm⟩
    · rw [if_neg h0] at h ⊢
      by_cases h3 : bs.length < 3
      · rw [if_pos h3] at h; simp at h
      · rw [if_neg h3] at h ⊢
        obtain ⟨x0, x1, x2, rest, rfl⟩ := three h3
        have hgd : (x0 :: x1 :: x2 :: rest).getD 0 0 = x0 ∧ (x0 :: x1 :: x2 :: rest).getD 1 0 = x1 ∧ (x0 :: x1 :: x2 :: rest).getD 2 0 = x2 := ⟨rfl, rfl, rfl⟩
        rw [hgd.1, hgd.2.1, hgd.2.2] at h ⊢
        have r0 := hb x0 (by simp)
        have r1 := hb x1 (by simp)
        have r2 := hb x2 (by simp)
        by_cases hc : x0 ≤ last ∨ 200 < x1 * 256 + x2 ∨ k = 16
        · rw [if_pos hc] at h; simp at h
        · rw [if_neg hc] at h ⊢
          by_cases hl : ((x0 :: x1 :: x2 :: rest).length : Int) - 3 < x1 * 256 + x2
          · rw [if_pos hl] at h; simp at h
          · rw [if_neg hl] at h ⊢
            have hx1 : x1 = 0 := by omega
            subst hx1
            have hm : (0 * 256 + x2).toNat = x2.toNat := by omega
            rw [hm] at h ⊢
            have hd : (x0 :: 0 :: x2 :: rest).drop (3 + x2.toNat) = rest.drop x2.toNat := by rw [← List.drop_drop]; rfl
            have hd3 : (x0 :: 0 :: x2 :: rest).drop 3 = rest := rfl
            rw [hd] at h
            rw [hd, hd3]
            have hlr : x2.toNat ≤ rest.length := by simp at hl; omega
            have ih := splitQ_back f (rest.drop x2.toNat) x0 (k + 1) (fun x hx => hb x (by simp [List.mem_of_mem_drop hx])) (by omega) h
            refine ⟨?_, ?_⟩
            · rw [runQ, ih.1, Bool.and_true, decide_eq_true_eq]
              refine ⟨by omega, by show last < x0; omega, by show x0 ≤ 255; omega, ?_⟩
              show (rest.take x2.toNat).length ≤ 200
              simp
              omega
            · show joinB ((x0, rest.take x2.toNat) :: _) = _
              have hj : ∀ (f : Int × List Int) (t : List (Int × List Int)), joinB (f :: t) = fieldB f ++ joinB t := fun _ _ => rfl
              rw [hj, ih.2]
              have hlt : ((rest.take x2.toNat).length : Int) = x2 := by simp; omega
              simp only [fieldB, hlt]
              simp [List.take_append_drop]

theorem splitQ_three : ∀ (f : Nat) (bs : List Int) (last : Int) (k : Nat), (splitQ f bs last k).1 = 0 ∨ (splitQ f bs last k).1 = 2 ∨ (splitQ f bs last k).1 = 4
  | 0, _, _, _ => .inr (.inr rfl)
  | f + 1, bs, last, k => by
    rw [splitQ]
    split
    · exact .inl rfl
    · split
      · exact .inr (.inl rfl)
      · split
        · exact .inr (.inr rfl)
        · split
          · exact .inr (.inl rfl)
          · exact splitQ_three f _ _ _

theorem split_long (ads : List Addr) (a : Option Addr) (cap len : Nat) (hl : 5000 < len) (w : World) (V : St ads w) :
    Calls Tryd.prog 4 #[.slice a len cap] w fun e w' => e = .returned (.bool true) ∧ Kp w w' := by
  have HA := Lib.hid (alive_any ads w V)
  obtain ⟨ll, hll⟩ : ∃ ll : Int, (len : Int) = ll := ⟨_, rfl⟩
  have h : ll > 5000 := by omega
  clear V
  go_enter Tryd.func4, Tryd.ntmps4
  go_wp2_with (go_at_call 9; (with_reducible refine HA.out.mono ?_); rintro e w1 ⟨rfl, hw1⟩)
  go_ret
  exact ⟨rfl, hw1⟩

/-- liaisonnum.Bytes, where it lies told aside. -/
theorem numBytes_at (a : Option Addr) (cap : Nat) (bs : List Int) (len : Nat) (hlen : bs.length = len) (hl : len ≤ 100000) (w : World) (hs : SlB (.slice a len cap) bs w) :
    Calls Tryd.prog 19 #[.slice a len cap] w fun e w' => ∃ g, e = .returned (.slice (some ⟨g, 0, none⟩) len (len + 6)) ∧ Marked g (len + 6) bs w' ∧ Kp w w' :=
  (numBytes_any a cap bs len hlen hl w hs).mono fun _ _ ⟨h1, h2, h3⟩ => ⟨_, h1, h2, h3⟩

set_option maxRecDepth 20000 in
set_option maxHeartbeats 1000000 in
theorem split_ok (ads : List Addr) (a : Option Addr) (cap : Nat) (bs : List Int) (len : Nat) (hlen : bs.length = len) (hl : len ≤ 5000) (hlc : len ≤ cap) (hb : InB bs) (w : World) (V : St ads w) (hs : SlB (.slice a len cap) bs w) (h0 : (splitQ 17 bs 0 0).1 = 0) :
    Calls Tryd.prog 4 #[.slice a len cap] w fun e w' => e = .returned (.bool true) ∧ Kp w w' := by
  have h14 : ads.length = 14 := V.len
  have hbk := splitQ_back 17 bs 0 0 hb (by omega) h0
  have hr16 := hbk.1
  rw [runQ_right _ 0 0 (by omega) (by omega)] at hr16
  have hf16 : (splitQ 17 bs 0 0).2.length ≤ 16 := by simp at hr16; exact hr16.1
  have HSp := fun w1 (g : Nat) (hk : Kp w w1) (hm : Marked g (len + 6) bs w1) => split_any ads (by omega) (by omega) (some ⟨g, 0, none⟩) (len + 6) bs len hlen (by omega) (by omega) hb w1 (V.below hk) (by have := hm.sl; rw [hlen] at this; exact this)
  have HRf := fun w1 (hk : Kp w w1) => refSplit_any a cap bs len hlen (by omega) hlc hb w1 (hs.kp hk)
  have HKt := Lib.hid (fun w1 (g : Nat) (hk : Kp w w1) (hm : Marked g (len + 6) bs w1) => numKept_any g (.slice a len cap) bs len hlen (by omega) w1 hm (hs.kp hk))
  have HBy := Lib.hid (fun w1 (hk : Kp w w1) => numBytes_at a cap bs len hlen (by omega) w1 (hs.kp hk))
  obtain ⟨fs, hfs⟩ : ∃ fs, (splitQ 17 bs 0 0).2 = fs := ⟨_, rfl⟩
  rw [hfs] at hbk hf16
  simp only [h0, hfs] at HSp HRf
  obtain ⟨fl, hfl⟩ : ∃ fl, fs.length = fl := ⟨_, rfl⟩
  have HS2 : Hid (∀ w1 (g : Nat), Kp w w1 → Marked g (len + 6) bs w1 → Calls Tryd.prog 16 #[.slice (some ⟨g, 0, none⟩) len (len + 6)] w1 fun e w' => ∃ a1 c1, e = .returned (.tuple #[.slice a1 fl c1, .nilIface]) ∧ SlQ (.slice a1 fl c1) fs w' ∧ Kp w1 w') := Lib.hid fun w1 g hk hm => (HSp w1 g hk hm).mono fun e w' ⟨h, hk2⟩ => by
    rcases h with ⟨_, v, rfl, hq⟩ | ⟨h, _⟩ | ⟨h, _⟩
    · obtain ⟨a1, c1, rfl⟩ := hq.form
      rw [hfl] at hq ⊢
      exact ⟨a1, c1, rfl, hq, hk2⟩
    · cases h
    · cases h
  have HR2 : Hid (∀ w1, Kp w w1 → Calls Tryd.prog 20 #[.slice a len cap] w1 fun e w' => ∃ a2 c2, e = .returned (.tuple #[.slice a2 fl c2, .int .i64 0]) ∧ SlQ (.slice a2 fl c2) fs w' ∧ Kp w1 w') := Lib.hid fun w1 hk => (HRf w1 hk).mono fun e w' ⟨v, he, hq, _, hk2⟩ => by
    have hq := hq trivial
    obtain ⟨a1, c1, rfl⟩ := hq.form
    rw [hfl] at hq he
    exact ⟨a1, c1, he, hq, hk2⟩
  have HSm := Lib.hid (fun w1 (a1 a2 : Option Addr) (c1 c2 : Nat) (q1 : SlQ (.slice a1 fl c1) fs w1) (q2 : SlQ (.slice a2 fl c2) fs w1) => refSame_true a1 a2 c1 c2 fs fl hfl (by omega) w1 q1 q2)
  have HJn := Lib.hid (fun w1 (hk : Kp w w1) (a1 : Option Addr) (c1 : Nat) (q1 : SlQ (.slice a1 fl c1) fs w1) => join_ok ads a1 c1 fs fl hfl (by omega) w1 (V.below hk) q1 hbk.1)
  have HA := Lib.hid (alive_any ads w V)
  have HS := Lib.hid hs
  have HJB := Lib.hid hbk.2
  obtain ⟨ss, hss⟩ : ∃ ss, strOfNums bs = ss := ⟨_, rfl⟩
  have HSS := Lib.hid hss
  obtain ⟨ll, hll⟩ : ∃ ll : Int, (len : Int) = ll := ⟨_, rfl⟩
  have hng : ¬ ll > 5000 := by omega
  clear V hs h14 hb hbk hr16 hf16 HSp HRf hfs hfl h0 hlen hss
  go_enter Tryd.func4, Tryd.ntmps4
  go_wp2_with (first | (go_at_call 9; (with_reducible refine HA.out.mono ?_); rintro e w1 ⟨rfl, hw1⟩; have K1 := Lib.hid hw1; clear hw1) | (go_at_call 19; (with_reducible refine (HBy.out _ K1.out).mono ?_); rintro e w2 ⟨g, rfl, hm2, hw2⟩; have K2 := Lib.hid (Kp.trans K1.out hw2); have M2 := Lib.hid hm2; clear hm2 hw2) | (go_at_call 16; (with_reducible refine (HS2.out _ _ K2.out M2.out).mono ?_); rintro e w3 ⟨a1, c1, rfl, hq3, hw3⟩; have K3 := Lib.hid (Kp.trans K2.out hw3); have M3 := Lib.hid (M2.out.kp hw3); have Q3 := Lib.hid hq3; clear hq3 hw3) | (go_at_call 20; (with_reducible refine (HR2.out _ K3.out).mono ?_); rintro e w4 ⟨a2, c2, rfl, hq4, hw4⟩; have K4 := Lib.hid (Kp.trans K3.out hw4); have M4 := Lib.hid (M3.out.kp hw4); have Q4 := Lib.hid (Q3.out.kp hw4); have P4 := Lib.hid hq4; clear hq4 hw4) | (go_at_call 18; (with_reducible refine (HSm.out _ _ _ _ _ Q4.out P4.out).mono ?_); rintro e w5 ⟨rfl, hw5⟩; have K5 := Lib.hid (Kp.trans K4.out hw5); have M5 := Lib.hid (M4.out.kp hw5); have Q5 := Lib.hid (Q4.out.kp hw5); clear hw5) | (go_at_call 15; (with_reducible refine (num_nil _).mono ?_); rintro e w6 ⟨rfl, rfl⟩) | (go_at_call 21; (with_reducible refine (HKt.out _ _ K5.out M5.out).mono ?_); rintro e w7 ⟨rfl, hw7⟩; have K7 := Lib.hid (Kp.trans K5.out hw7); have Q7 := Lib.hid (Q5.out.kp hw7); clear hw7) | (go_at_call 13; (with_reducible refine (HJn.out _ K7.out _ _ Q7.out).mono ?_); rintro e w8 ⟨v8, rfl, ho8, hw8⟩; have K8 := Lib.hid (Kp.trans K7.out hw8); have cv8 := conv_slb (own_slb ho8); rw [HJB.out, HSS.out] at cv8; have cw8 := conv_slb (HS.out.kp K8.out); rw [HSS.out] at cw8; clear ho8 hw8))
  go_ret
  exact ⟨by simp, K8.out⟩

set_option maxRecDepth 20000 in
set_option maxHeartbeats 1000000 in
theorem split_bad (ads : List Addr) (i : Nat) (hi : i < ads.length) (ii : Int) (hii : ((i + 1 : Nat) : Int) = ii) (hi13 : i = 1 ∨ i = 3) (a : Option Addr) (cap : Nat) (bs : List Int) (len : Nat) (hlen : bs.length = len) (hl : len ≤ 5000) (hlc : len ≤ cap) (hb : InB bs) (w : World) (V : St ads w) (hs : SlB (.slice a len cap) bs w) (h0 : (splitQ 17 bs 0 0).1 = ii) :
    Calls Tryd.prog 4 #[.slice a len cap] w fun e w' => e = .returned (.bool true) ∧ Kp w w' := by
  have h14 : ads.length = 14 := V.len
  have HSp := fun w1 (g : Nat) (hk : Kp w w1) (hm : Marked g (len + 6) bs w1) => split_any ads (by omega) (by omega) (some ⟨g, 0, none⟩) (len + 6) bs len hlen (by omega) (by omega) hb w1 (V.below hk) (by have := hm.sl; rw [hlen] at this; exact this)
  have HRf := fun w1 (hk : Kp w w1) => refSplit_any a cap bs len hlen (by omega) hlc hb w1 (hs.kp hk)
  have HKt := Lib.hid (fun w1 (g : Nat) (hk : Kp w w1) (hm : Marked g (len + 6) bs w1) => numKept_any g (.slice a len cap) bs len hlen (by omega) w1 hm (hs.kp hk))
  have HBy := Lib.hid (fun w1 (hk : Kp w w1) => numBytes_at a cap bs len hlen (by omega) w1 (hs.kp hk))
  obtain ⟨ea, hea⟩ : ∃ ea, ads[i]'hi = ea := ⟨_, rfl⟩
  have HS2 : Hid (∀ w1 (g : Nat), Kp w w1 → Marked g (len + 6) bs w1 → Calls Tryd.prog 16 #[.slice (some ⟨g, 0, none⟩) len (len + 6)] w1 fun e w' => e = .returned (.tuple #[.slice none 0 0, snt ea]) ∧ Kp w1 w') := Lib.hid fun w1 g hk hm => (HSp w1 g hk hm).mono fun e w' ⟨h, hk2⟩ => by
    rcases h with ⟨h, _⟩ | ⟨h, he⟩ | ⟨h, he⟩
    · omega
    · obtain rfl : i = 1 := by omega
      rw [hea] at he
      exact ⟨he, hk2⟩
    · obtain rfl : i = 3 := by omega
      rw [hea] at he
      exact ⟨he, hk2⟩
  have HR2 : Hid (∀ w1, Kp w w1 → Calls Tryd.prog 20 #[.slice a len cap] w1 fun e w' => e = .returned (.tuple #[.slice none 0 0, .int .i64 ii]) ∧ Kp w1 w') := Lib.hid fun w1 hk => (HRf w1 hk).mono fun e w' ⟨v, he, _, hv, hk2⟩ => by
    have hv := hv (by omega)
    rw [hv, h0] at he
    exact ⟨he, hk2⟩
  have HSm := Lib.hid (fun w1 => refSame_true none none 0 0 [] 0 rfl (by omega) w1 (.inl ⟨rfl, none, 0, rfl, fun _ => rfl⟩) (.inl ⟨rfl, none, 0, rfl, fun _ => rfl⟩))
  have hnm := fun w1 (hk : Kp w w1) => num_err ads w1 (V.below hk) i (by omega) hi
  have hci : ((i : Int) + 1) = ii := by omega
  simp only [hea, hci] at hnm
  have HNm := Lib.hid hnm
  have HA := Lib.hid (alive_any ads w V)
  obtain ⟨ll, hll⟩ : ∃ ll : Int, (len : Int) = ll := ⟨_, rfl⟩
  have hng : ¬ ll > 5000 := by omega
  have hne : (ii != 0) = true := by simp; omega
  clear V hs h14 hb HSp HRf h0 hlen hea hnm hii hi13 hci
  go_enter Tryd.func4, Tryd.ntmps4
  go_wp2_with (first | (go_at_call 9; (with_reducible refine HA.out.mono ?_); rintro e w1 ⟨rfl, hw1⟩; have K1 := Lib.hid hw1; clear hw1) | (go_at_call 19; (with_reducible refine (HBy.out _ K1.out).mono ?_); rintro e w2 ⟨g, rfl, hm2, hw2⟩; have K2 := Lib.hid (Kp.trans K1.out hw2); have M2 := Lib.hid hm2; clear hm2 hw2) | (go_at_call 16; (with_reducible refine (HS2.out _ _ K2.out M2.out).mono ?_); rintro e w3 ⟨rfl, hw3⟩; have K3 := Lib.hid (Kp.trans K2.out hw3); have M3 := Lib.hid (M2.out.kp hw3); clear hw3) | (go_at_call 20; (with_reducible refine (HR2.out _ K3.out).mono ?_); rintro e w4 ⟨rfl, hw4⟩; have K4 := Lib.hid (Kp.trans K3.out hw4); have M4 := Lib.hid (M3.out.kp hw4); clear hw4) | (go_at_call 18; (with_reducible refine (HSm.out _).mono ?_); rintro e w5 ⟨rfl, hw5⟩; have K5 := Lib.hid (Kp.trans K4.out hw5); have M5 := Lib.hid (M4.out.kp hw5); clear hw5) | (go_at_call 15; (with_reducible refine (HNm.out _ K5.out).mono ?_); rintro e w6 ⟨rfl, hw6⟩; have K6 := Lib.hid (Kp.trans K5.out hw6); have M6 := Lib.hid (M5.out.kp hw6); clear hw6) | (go_at_call 21; (with_reducible refine (HKt.out _ _ K6.out M6.out).mono ?_); rintro e w7 ⟨rfl, hw7⟩; have K7 := Lib.hid (Kp.trans K6.out hw7); clear hw7))
  go_ret
  exact ⟨by simp, K7.out⟩
end Go.Proofs.YtfealdllicicnaaDoor
