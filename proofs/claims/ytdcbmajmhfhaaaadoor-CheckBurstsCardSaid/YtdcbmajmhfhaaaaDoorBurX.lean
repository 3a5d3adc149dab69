/-
  CheckBursts' WALKS (own work).
-/
import Derived.Test.YtdcbmajmhfhaaaaDoorBurV
import Derived.StillTailTactics
namespace Go.Proofs.YtdcbmajmhfhaaaaDoor
open Go.RowKit Go.ChangeShapes Go.WideShapes

set_option maxRecDepth 100000 in
set_option maxHeartbeats 1000000 in
theorem bur_0 (ads : List Addr) (a : Option Addr) (n c : Nat) (bs : List Int) (hn : bs.length = n) (hl : n ≤ 500) (h5 : 5 ≤ n) (hb : InB bs) (i : Int) (x : Nat) (hx : x < 4294967296) (xx : Int) (hxx : (x : Int) = xx) (w : World) (V : St ads w) (ht : Tb w) (hs : SlB (.slice a n c) bs w) (h0 : x = 0) :
    Calls Tryd.prog 5 #[.slice a n c, .int .i64 i, .int .u32 xx] w fun e w' => e = .returned (.bool true) ∧ Kp w w' := by
  have HA := Lib.hid (alive_any w ht)
  have h4 : 4 < ads.length := by rw [V.len]; decide
  have HS := Lib.hid (fun w1 (hk : Kp w w1) => seal_any a n c bs hn (by omega) hb w1 (ht.kp hk) (hs.kp hk))
  obtain ⟨nn, hnn⟩ : ∃ nn : Int, (n : Int) = nn := ⟨_, rfl⟩
  have hg : ¬ nn > 500 := by omega
  have hg5 : ¬ nn < 5 := by omega
  obtain ⟨r0, r1⟩ := first_range (i := i) (d := 8 * nn - 31) (by omega)
  obtain ⟨ff, hff⟩ : ∃ ff, (IntKind.u64.wrap i).tmod (8 * nn - 31) = ff := ⟨_, rfl⟩
  rw [hff] at r0 r1
  obtain ⟨f, hf⟩ : ∃ f : Nat, (f : Int) = ff := ⟨ff.toNat, by omega⟩
  have hf8 : f + 31 < 8 * n := by omega
  have x0 : 0 ≤ xx := by omega
  have x1 : xx < 4294967296 := by omega
  have HST := Lib.hid (Bst.start (f := f) (x := x) hn hb)
  have HO := Lib.hid (fun w1 (hk : Kp w w1) g cap (hcap : n + 4 ≤ cap) L (hB : Bst bs n f x 32 L) (q : SlB (.slice (some ⟨g, 0, none⟩) (n + 4) cap) L w1) => open_ok ads h4 (some ⟨g, 0, none⟩) (n + 4) cap n L hB.len rfl (by omega) hcap hB.inb w1 (V.below hk) (ht.kp hk) q (hB.eq h0).1)
  have HB := Lib.hid hs
  obtain ⟨ss, hss⟩ : ∃ ss, strOfNums bs = ss := ⟨_, rfl⟩
  have HSS := Lib.hid hss
  have qs : (ss.toList == ss.toList) = true := by simp
  have HX0 := Lib.hid h0
  have HXZ := Lib.hid (show xx = 0 by omega)
  clear ht hs hb hn hss h0
  go_enter Tryd.func5, Tryd.ntmps5
  go_wp2_with (first | (go_at_call 8; (with_reducible refine HA.out.mono ?_); rintro e w1 ⟨rfl, hw1⟩; have K1 := Lib.hid hw1; clear hw1) | (go_at_call 13; (with_reducible refine (HS.out _ K1.out).mono ?_); rintro e w2 ⟨v2, rfl, ho2, hk2⟩; have K2 := Lib.hid (Kp.trans K1.out hk2); obtain ⟨g, cap, rfl, hcap, hgb⟩ := own_g ho2 (by omega); have O2 := Lib.hid ho2; have GB := Lib.hid hgb; have CP := Lib.hid hcap; clear ho2 hk2 hgb hcap))
  go_loopw [32] (fun i wr => ∃ j : Nat, j ≤ 32 ∧ i = .int .i64 j ∧ Kp w wr ∧ ∃ L, wr.ownsRow w1.heap.size 5 1 (.slice (some ⟨g, 0, none⟩) (n + 4) cap) (n + 4) (L.map (Value.int .u8)) ∧ Bst bs n f x j L) (fun i _ => 32 - (intOf i).toNat)
  case atStart => exact ⟨0, Nat.zero_le _, rfl, K2.out, _, O2.out, HST.out⟩
  case round =>
    obtain ⟨j, hj, rfl, hk, L, hown, hB⟩ := hrel
    obtain ⟨jj, hjj⟩ : ∃ jj : Int, (j : Int) = jj := ⟨_, rfl⟩
    rw [hjj]
    have HK := Lib.hid hk
    have HO_ := Lib.hid hown
    have HBS := Lib.hid hB
    have hlen := hB.len
    clear hk hown hB
    by_cases hlt : j < 32
    · have j0 : 0 ≤ jj := by omega
      have j32 : jj < 32 := by omega
      have ej : jj.toNat = j := by omega
      have hv : ((x / 2 ^ j : Nat) : Int) = xx / 2 ^ jj.toNat := by rw [ej, ← hxx]; simp
      obtain ⟨vi, hvi⟩ : ∃ vi, xx / 2 ^ jj.toNat = vi := ⟨_, rfl⟩
      rw [hvi] at hv
      have hvl : x / 2 ^ j ≤ x := Nat.div_le_self _ _
      have e2 := and32_1 (x / 2 ^ j) (by omega)
      have v0 : 0 ≤ vi := by rw [← hv]; exact Int.natCast_nonneg _
      have v1 : vi < 4294967296 := by
        obtain ⟨v, hv2⟩ : ∃ v, x / 2 ^ j = v := ⟨_, rfl⟩
        rw [hv2] at hv hvl
        omega
      rw [hv] at e2
      rcases (show x / 2 ^ j % 2 = 0 ∨ x / 2 ^ j % 2 = 1 by omega) with h0 | h1
      · rw [h0] at e2
        replace e2 : bits .and .u32 vi 1 = 0 := e2
        have HN := Lib.hid (HBS.out.skip h0)
        have HJ := Lib.hid hjj
        clear hv hvl hjj ej h0 hlen hlt
        go_wp2
        have hjj := HJ.out
        go_roundw
        case rel => exact ⟨j + 1, by omega, by congr 1; omega, HK.out, _, HO_.out, HN.out⟩
        case measure => simp [intOf]; omega
      · rw [h1] at e2
        replace e2 : bits .and .u32 vi 1 = 1 := e2
        obtain ⟨kk, hkk⟩ : ∃ kk : Int, ff + jj = kk := ⟨_, rfl⟩
        have k0 : 0 ≤ kk := by omega
        have k1 : kk < 8 * nn := by omega
        have eq0 : IntKind.i64.wrap (kk.tdiv 8) = kk / 8 := by
          rw [Int.tdiv_eq_ediv_of_nonneg k0, IntKind.wrap_i64]; omega
        have er0 : kk.tmod 8 = kk % 8 := Int.tmod_eq_emod_of_nonneg k0
        obtain ⟨qq, hqq⟩ : ∃ qq : Int, kk / 8 = qq := ⟨_, rfl⟩
        obtain ⟨rm, hrm⟩ : ∃ rm : Int, kk % 8 = rm := ⟨_, rfl⟩
        rw [hqq] at eq0
        rw [hrm] at er0
        have q0 : 0 ≤ qq := by omega
        have q1 : qq < nn + 4 := by omega
        have m0 : 0 ≤ rm := by omega
        have m1 : rm < 8 := by omega
        have hj : (f + j) / 8 < L.length := by omega
        have eq1 : qq.toNat = (f + j) / 8 := by omega
        have er1 : rm.toNat = (f + j) % 8 := by omega
        have hpow : 2 ^ ((f + j) % 8) < 256 := Nat.lt_of_le_of_lt (Nat.pow_le_pow_right (by decide) (show (f + j) % 8 ≤ 7 by omega)) (by decide)
        have HT0 := turn_byte (w := w) HO_.out HK.out (by have := kp_size K1.out; have := GB.out; omega) HBS.out.inb qq ((f + j) / 8) eq1 hj (2 ^ ((f + j) % 8)) hpow
        have HT := turn_byte (w := w) (own_kp HO_.out (Kp.refl wr).drew) HK.out.drew (by have := kp_size K1.out; have := GB.out; omega) HBS.out.inb qq ((f + j) / 8) eq1 hj (2 ^ ((f + j) % 8)) hpow
        have HN := HBS.out.flip h1 (by omega) hj
        obtain ⟨c0, hc0⟩ : ∃ c0, L[(f + j) / 8] = c0 := ⟨_, rfl⟩
        simp only [hc0] at HT0 HT HN
        obtain ⟨z, hz⟩ : ∃ z : Int, ((c0.toNat ^^^ 2 ^ ((f + j) % 8) : Nat) : Int) = z := ⟨_, rfl⟩
        rw [hz] at HT HN
        obtain ⟨pw, hpw⟩ : ∃ p : Int, ((2 ^ ((f + j) % 8) : Nat) : Int) = p := ⟨_, rfl⟩
        have hpw2 : IntKind.u8.wrap (2 ^ rm.toNat) = pw := by
          rw [IntKind.wrap_u8, er1, ← hpw]
          obtain ⟨q, hq⟩ : ∃ q, 2 ^ ((f + j) % 8) = q := ⟨_, rfl⟩
          have e : ((2 : Int) ^ ((f + j) % 8)) = ((q : Nat) : Int) := by rw [← hq]; simp
          rw [e, hq]
          rw [hq] at hpow
          omega
        rw [hpw] at HT
        obtain ⟨t1, -⟩ := HT0
        obtain ⟨-, t2, t3, t4, t5⟩ := HT
        have HN := Lib.hid HN
        have K4 := Lib.hid t4
        have O4 := Lib.hid t5
        have HJ := Lib.hid hjj
        have HQ := Lib.hid (And.intro eq1 er1)
        have HPW := Lib.hid hpw
        clear t4 t5 hv hvl ej hqq hrm hjj h1 hlen hlt eq1 er1 hpow hj hc0 hz hpw
        go_wp2
        go_still_tail 10, (by kernel_rfl)
        change wpList _ _ _ _ _ wr.drew
        go_wp2
        have hjj := HJ.out
        go_roundw
        case rel => exact ⟨j + 1, by omega, by congr 1; omega, K4.out, _, O4.out, HN.out⟩
        case measure => simp [intOf]; omega
    · obtain rfl : j = 32 := by omega
      obtain rfl : jj = 32 := by omega
      have O3 := Lib.hid (own_slb HO_.out)
      have hxz := HXZ.out
      clear hjj hlt hlen
      go_wp2_with (go_at_call 14; (with_reducible refine (HO.out _ HK.out _ _ CP.out _ HBS.out O3.out).mono ?_); rintro e w4 ⟨v4, rfl, ho4, hk4⟩; rw [(HBS.out.eq HX0.out).2] at ho4; have K4 := Lib.hid (Kp.trans HK.out hk4); have cv1 := conv_slb (own_slb ho4); have cv2 := conv_slb (HB.out.kp K4.out); rw [HSS.out] at cv1 cv2; clear ho4 hk4)
      go_ret
      exact ⟨by simp, K4.out⟩

set_option maxRecDepth 100000 in
set_option maxHeartbeats 1000000 in
theorem bur_1 (ads : List Addr) (a : Option Addr) (n c : Nat) (bs : List Int) (hn : bs.length = n) (hl : n ≤ 500) (h5 : 5 ≤ n) (hb : InB bs) (i : Int) (x : Nat) (hx : x < 4294967296) (xx : Int) (hxx : (x : Int) = xx) (w : World) (V : St ads w) (ht : Tb w) (hs : SlB (.slice a n c) bs w) (h0 : x ≠ 0) :
    Calls Tryd.prog 5 #[.slice a n c, .int .i64 i, .int .u32 xx] w fun e w' => e = .returned (.bool true) ∧ Kp w w' := by
  have HA := Lib.hid (alive_any w ht)
  have h4 : 4 < ads.length := by rw [V.len]; decide
  have HS := Lib.hid (fun w1 (hk : Kp w w1) => seal_any a n c bs hn (by omega) hb w1 (ht.kp hk) (hs.kp hk))
  obtain ⟨nn, hnn⟩ : ∃ nn : Int, (n : Int) = nn := ⟨_, rfl⟩
  have hg : ¬ nn > 500 := by omega
  have hg5 : ¬ nn < 5 := by omega
  obtain ⟨r0, r1⟩ := first_range (i := i) (d := 8 * nn - 31) (by omega)
  obtain ⟨ff, hff⟩ : ∃ ff, (IntKind.u64.wrap i).tmod (8 * nn - 31) = ff := ⟨_, rfl⟩
  rw [hff] at r0 r1
  obtain ⟨f, hf⟩ : ∃ f : Nat, (f : Int) = ff := ⟨ff.toNat, by omega⟩
  have hf8 : f + 31 < 8 * n := by omega
  have x0 : 0 ≤ xx := by omega
  have x1 : xx < 4294967296 := by omega
  have HST := Lib.hid (Bst.start (f := f) (x := x) hn hb)
  have HO := Lib.hid (fun w1 (hk : Kp w w1) g cap (hcap : n + 4 ≤ cap) L (hB : Bst bs n f x 32 L) (q : SlB (.slice (some ⟨g, 0, none⟩) (n + 4) cap) L w1) => open_bad ads h4 (some ⟨g, 0, none⟩) (n + 4) cap n L hB.len rfl (by omega) hcap hB.inb w1 (V.below hk) (ht.kp hk) q (hB.ne hn hb (by omega) hx h0))
  have HNUM := Lib.hid (fun w1 (hk : Kp w w1) => num_err ads w1 (V.below hk) 4 (by decide) h4)
  have e5 : (((4 : Nat) : Int) + 1) = 5 := rfl
  rw [e5] at HNUM
  obtain ⟨e4, he4⟩ : ∃ e, ads[4] = e := ⟨_, rfl⟩
  simp only [he4] at HO HNUM
  have HXZ := Lib.hid (show ¬ xx = 0 by omega)
  clear ht hs hb hn he4 h0
  go_enter Tryd.func5, Tryd.ntmps5
  go_wp2_with (first | (go_at_call 8; (with_reducible refine HA.out.mono ?_); rintro e w1 ⟨rfl, hw1⟩; have K1 := Lib.hid hw1; clear hw1) | (go_at_call 13; (with_reducible refine (HS.out _ K1.out).mono ?_); rintro e w2 ⟨v2, rfl, ho2, hk2⟩; have K2 := Lib.hid (Kp.trans K1.out hk2); obtain ⟨g, cap, rfl, hcap, hgb⟩ := own_g ho2 (by omega); have O2 := Lib.hid ho2; have GB := Lib.hid hgb; have CP := Lib.hid hcap; clear ho2 hk2 hgb hcap))
  go_loopw [32] (fun i wr => ∃ j : Nat, j ≤ 32 ∧ i = .int .i64 j ∧ Kp w wr ∧ ∃ L, wr.ownsRow w1.heap.size 5 1 (.slice (some ⟨g, 0, none⟩) (n + 4) cap) (n + 4) (L.map (Value.int .u8)) ∧ Bst bs n f x j L) (fun i _ => 32 - (intOf i).toNat)
  case atStart => exact ⟨0, Nat.zero_le _, rfl, K2.out, _, O2.out, HST.out⟩
  case round =>
    obtain ⟨j, hj, rfl, hk, L, hown, hB⟩ := hrel
    obtain ⟨jj, hjj⟩ : ∃ jj : Int, (j : Int) = jj := ⟨_, rfl⟩
    rw [hjj]
    have HK := Lib.hid hk
    have HO_ := Lib.hid hown
    have HBS := Lib.hid hB
    have hlen := hB.len
    clear hk hown hB
    by_cases hlt : j < 32
    · have j0 : 0 ≤ jj := by omega
      have j32 : jj < 32 := by omega
      have ej : jj.toNat = j := by omega
      have hv : ((x / 2 ^ j : Nat) : Int) = xx / 2 ^ jj.toNat := by rw [ej, ← hxx]; simp
      obtain ⟨vi, hvi⟩ : ∃ vi, xx / 2 ^ jj.toNat = vi := ⟨_, rfl⟩
      rw [hvi] at hv
      have hvl : x / 2 ^ j ≤ x := Nat.div_le_self _ _
      have e2 := and32_1 (x / 2 ^ j) (by omega)
      have v0 : 0 ≤ vi := by rw [← hv]; exact Int.natCast_nonneg _
      have v1 : vi < 4294967296 := by
        obtain ⟨v, hv2⟩ : ∃ v, x / 2 ^ j = v := ⟨_, rfl⟩
        rw [hv2] at hv hvl
        omega
      rw [hv] at e2
      rcases (show x / 2 ^ j % 2 = 0 ∨ x / 2 ^ j % 2 = 1 by omega) with h0 | h1
      · rw [h0] at e2
        replace e2 : bits .and .u32 vi 1 = 0 := e2
        have HN := Lib.hid (HBS.out.skip h0)
        have HJ := Lib.hid hjj
        clear hv hvl hjj ej h0 hlen hlt
        go_wp2
        have hjj := HJ.out
        go_roundw
        case rel => exact ⟨j + 1, by omega, by congr 1; omega, HK.out, _, HO_.out, HN.out⟩
        case measure => simp [intOf]; omega
      · rw [h1] at e2
        replace e2 : bits .and .u32 vi 1 = 1 := e2
        obtain ⟨kk, hkk⟩ : ∃ kk : Int, ff + jj = kk := ⟨_, rfl⟩
        have k0 : 0 ≤ kk := by omega
        have k1 : kk < 8 * nn := by omega
        have eq0 : IntKind.i64.wrap (kk.tdiv 8) = kk / 8 := by
          rw [Int.tdiv_eq_ediv_of_nonneg k0, IntKind.wrap_i64]; omega
        have er0 : kk.tmod 8 = kk % 8 := Int.tmod_eq_emod_of_nonneg k0
        obtain ⟨qq, hqq⟩ : ∃ qq : Int, kk / 8 = qq := ⟨_, rfl⟩
        obtain ⟨rm, hrm⟩ : ∃ rm : Int, kk % 8 = rm := ⟨_, rfl⟩
        rw [hqq] at eq0
        rw [hrm] at er0
        have q0 : 0 ≤ qq := by omega
        have q1 : qq < nn + 4 := by omega
        have m0 : 0 ≤ rm := by omega
        have m1 : rm < 8 := by omega
        have hj : (f + j) / 8 < L.length := by omega
        have eq1 : qq.toNat = (f + j) / 8 := by omega
        have er1 : rm.toNat = (f + j) % 8 := by omega
        have hpow : 2 ^ ((f + j) % 8) < 256 := Nat.lt_of_le_of_lt (Nat.pow_le_pow_right (by decide) (show (f + j) % 8 ≤ 7 by omega)) (by decide)
        have HT0 := turn_byte (w := w) HO_.out HK.out (by have := kp_size K1.out; have := GB.out; omega) HBS.out.inb qq ((f + j) / 8) eq1 hj (2 ^ ((f + j) % 8)) hpow
        have HT := turn_byte (w := w) (own_kp HO_.out (Kp.refl wr).drew) HK.out.drew (by have := kp_size K1.out; have := GB.out; omega) HBS.out.inb qq ((f + j) / 8) eq1 hj (2 ^ ((f + j) % 8)) hpow
        have HN := HBS.out.flip h1 (by omega) hj
        obtain ⟨c0, hc0⟩ : ∃ c0, L[(f + j) / 8] = c0 := ⟨_, rfl⟩
        simp only [hc0] at HT0 HT HN
        obtain ⟨z, hz⟩ : ∃ z : Int, ((c0.toNat ^^^ 2 ^ ((f + j) % 8) : Nat) : Int) = z := ⟨_, rfl⟩
        rw [hz] at HT HN
        obtain ⟨pw, hpw⟩ : ∃ p : Int, ((2 ^ ((f + j) % 8) : Nat) : Int) = p := ⟨_, rfl⟩
        have hpw2 : IntKind.u8.wrap (2 ^ rm.toNat) = pw := by
          rw [IntKind.wrap_u8, er1, ← hpw]
          obtain ⟨q, hq⟩ : ∃ q, 2 ^ ((f + j) % 8) = q := ⟨_, rfl⟩
          have e : ((2 : Int) ^ ((f + j) % 8)) = ((q : Nat) : Int) := by rw [← hq]; simp
          rw [e, hq]
          rw [hq] at hpow
          omega
        rw [hpw] at HT
        obtain ⟨t1, -⟩ := HT0
        obtain ⟨-, t2, t3, t4, t5⟩ := HT
        have HN := Lib.hid HN
        have K4 := Lib.hid t4
        have O4 := Lib.hid t5
        have HJ := Lib.hid hjj
        have HQ := Lib.hid (And.intro eq1 er1)
        have HPW := Lib.hid hpw
        clear t4 t5 hv hvl ej hqq hrm hjj h1 hlen hlt eq1 er1 hpow hj hc0 hz hpw
        go_wp2
        go_still_tail 10, (by kernel_rfl)
        change wpList _ _ _ _ _ wr.drew
        go_wp2
        have hjj := HJ.out
        go_roundw
        case rel => exact ⟨j + 1, by omega, by congr 1; omega, K4.out, _, O4.out, HN.out⟩
        case measure => simp [intOf]; omega
    · obtain rfl : j = 32 := by omega
      obtain rfl : jj = 32 := by omega
      have O3 := Lib.hid (own_slb HO_.out)
      have hxz := HXZ.out
      clear hjj hlt hlen
      go_wp2_with (first | (go_at_call 14; (with_reducible refine (HO.out _ HK.out _ _ CP.out _ HBS.out O3.out).mono ?_); rintro e w4 ⟨rfl, hk4⟩; have K4 := Lib.hid (Kp.trans HK.out hk4); clear hk4) | (go_at_call 17; (with_reducible refine (HNUM.out _ K4.out).mono ?_); rintro e w5 ⟨rfl, hk5⟩; have K5 := Lib.hid (Kp.trans K4.out hk5); clear hk5))
      go_ret
      exact ⟨rfl, K5.out⟩
end Go.Proofs.YtdcbmajmhfhaaaaDoor
