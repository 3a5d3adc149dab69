/-
  CheckSpoilt's WALKS (own work).
-/
import Derived.Test.YtdcbmajmhfhaaaaDoorLaidK
namespace Go.Proofs.YtdcbmajmhfhaaaaDoor
open Go.RowKit Go.ChangeShapes Go.WideShapes

theorem cell_row {w : World} {base n g cap : Nat} {L : List Int} (h : w.ownsRow base 5 1 (.slice (some ⟨g, 0, none⟩) n cap) n (L.map (Value.int .u8))) (j : Nat) (hj : j < L.length) : w.cell? ⟨g, j, none⟩ = some (.int .u8 L[j]) := by
  have hl : L.length = n := by have := h.1; simpa using this
  rw [h.cellAt j (by omega), List.getElem?_map, List.getElem?_eq_getElem hj]
  rfl
theorem set_row {w : World} {base n g cap : Nat} {L : List Int} (h : w.ownsRow base 5 1 (.slice (some ⟨g, 0, none⟩) n cap) n (L.map (Value.int .u8))) (j : Nat) (y : Int) :
    (w.setCell ⟨g, j, none⟩ (.int .u8 y)).ownsRow base 5 1 (.slice (some ⟨g, 0, none⟩) n cap) n ((L.set j y).map (Value.int .u8)) ∧ w.grownBy (w.setCell ⟨g, j, none⟩ (.int .u8 y)) (some g) := by
  have := h.stored j (.int .u8 y)
  rw [List.map_set]
  exact this
theorem own_g {w : World} {base n : Nat} {e : TypeId} {v : Value} {xs : List Value} (h : w.ownsRow base e 1 v n xs) (hn : 0 < n) : ∃ g cap, v = .slice (some ⟨g, 0, none⟩) n cap ∧ n ≤ cap ∧ base ≤ g := by
  rcases h.2 with ⟨rfl, rfl⟩ | ⟨g, cap, cur, rfl, hg, _, hc, _⟩
  · omega
  · exact ⟨g, cap, rfl, hc, hg⟩

theorem spo_long (a : Option Addr) (n cap : Nat) (i by_ : Int) (hn : 500 < n) (w : World) (ht : Tb w) :
    Calls Tryd.prog 6 #[.slice a n cap, .int .i64 i, .int .u8 by_] w fun e w' => e = .returned (.bool true) ∧ Kp w w' := by
  have HA := Lib.hid (alive_any w ht)
  obtain ⟨ll, hll⟩ : ∃ ll : Int, (n : Int) = ll := ⟨_, rfl⟩
  have h : ll > 500 := by omega
  clear ht
  go_enter Tryd.func6, Tryd.ntmps6
  go_wp2_with (go_at_call 8; (with_reducible refine HA.out.mono ?_); rintro e w1 ⟨rfl, hw1⟩; have K1 := Lib.hid hw1; clear hw1)
  go_ret
  exact ⟨rfl, K1.out⟩

theorem xor_self_ne {c y : Nat} (h : y ≠ 0) : c ^^^ y ≠ c := fun e => h (by
  have := congrArg (c ^^^ ·) e
  simpa only [xor_back, Nat.xor_self] using this)
theorem xor_zero_at (c : Int) (h : 0 ≤ c) : ((c.toNat ^^^ 0 : Nat) : Int) = c := by rw [Nat.xor_zero]; omega
/-- ONE BYTE CHANGED. -/
theorem spoil_ne {bs : List Int} {n : Nat} (hn : bs.length = n) (hb : InB bs) {j : Nat} (hj : j < (bs ++ four (crc bs)).length) {y : Nat} (hy : y < 256) (h0 : y ≠ 0) :
    ((bs ++ four (crc bs)).set j (((bs ++ four (crc bs))[j].toNat ^^^ y : Nat) : Int)).drop n ≠ four (crc (((bs ++ four (crc bs)).set j (((bs ++ four (crc bs))[j].toNat ^^^ y : Nat) : Int)).take n)) := by
  subst hn
  by_cases h : j < bs.length
  · rw [List.getElem_append_left h, List.set_append_left _ _ h, List.take_left' (by simp), List.drop_left' (by simp)]
    intro e
    have h1 : InB (bs.set j ((bs[j].toNat ^^^ y : Nat) : Int)) := by
      intro x hx
      rcases List.mem_or_eq_of_mem_set hx with h2 | h2
      · exact hb x h2
      · rw [h2]
        have h3 := hb bs[j] (List.getElem_mem _)
        have := Nat.xor_lt_two_pow (n := 8) (x := bs[j].toNat) (y := y) (by omega) (by omega)
        omega
    have e := four_inj (crc_lt hb) (crc_lt h1) e
    refine burst_ne (bs := bs) (cs := bs.set j ((bs[j].toNat ^^^ y : Nat) : Int)) (by simp) (at_ := 8 * j) (bits := y) (by omega) (by omega) h0 ?_ e.symm
    rw [le_set bs j h y (hb _ (List.getElem_mem _)).1, Nat.pow_mul]
  · have hj' : j - bs.length < (four (crc bs)).length := by rw [List.length_append] at hj; omega
    rw [List.getElem_append_right (by omega), List.set_append_right _ _ (by omega), List.take_left' rfl, List.drop_left' rfl]
    intro e
    have e1 := congrArg (·[j - bs.length]?) e
    simp only [List.getElem?_set_self hj', List.getElem?_eq_getElem hj', Option.some.injEq] at e1
    have h3 := four_in (crc bs) _ (List.getElem_mem hj')
    exact xor_self_ne h0 (c := ((four (crc bs))[j - bs.length]).toNat) (by omega)
theorem seal_in {bs : List Int} (hb : InB bs) : InB (bs ++ four (crc bs)) := in_append hb (four_in _)
theorem set_in {L : List Int} (hb : InB L) (j : Nat) (hj : j < L.length) (y : Nat) (hy : y < 256) : InB (L.set j ((L[j].toNat ^^^ y : Nat) : Int)) := by
  intro x hx
  rcases List.mem_or_eq_of_mem_set hx with h2 | h2
  · exact hb x h2
  · rw [h2]
    have h3 := hb L[j] (List.getElem_mem _)
    have := Nat.xor_lt_two_pow (n := 8) (x := L[j].toNat) (y := y) (by omega) (by omega)
    omega

/-- A STORE INTO A ROW OF THE CALL's OWN: a byte turned by y. -/
theorem turn_byte {w w2 : World} {base N g cap : Nat} {L : List Int} (ho : w2.ownsRow base 5 1 (.slice (some ⟨g, 0, none⟩) N cap) N (L.map (Value.int .u8))) (hk : Kp w w2) (hg : w.heap.size ≤ g) (hb : InB L) (jj : Int) (j : Nat) (hjj : jj.toNat = j) (hj : j < L.length) (y : Nat) (hy : y < 256) :
    w2.cell? ⟨g, jj.toNat, none⟩ = some (.int .u8 L[j]) ∧ w2.frozen? ⟨g, jj.toNat, none⟩ = false ∧ bits .xor .u8 L[j] (y : Int) = ((L[j].toNat ^^^ y : Nat) : Int) ∧
    Kp w (w2.setCell ⟨g, jj.toNat, none⟩ (.int .u8 ((L[j].toNat ^^^ y : Nat) : Int))) ∧ (w2.setCell ⟨g, jj.toNat, none⟩ (.int .u8 ((L[j].toNat ^^^ y : Nat) : Int))).ownsRow base 5 1 (.slice (some ⟨g, 0, none⟩) N cap) N ((L.set j ((L[j].toNat ^^^ y : Nat) : Int)).map (Value.int .u8)) := by
  subst hjj
  have hx := hb _ (List.getElem_mem hj)
  have hs := set_row ho jj.toNat ((L[jj.toNat].toNat ^^^ y : Nat) : Int)
  refine ⟨cell_row ho _ hj, ho.frozenAt _, ?_, Below.grown hk hs.2 (Below.size hk) (fun k hk => by injection hk with hk; omega), hs.1⟩
  have e := u8_xor_nat L[jj.toNat].toNat y (by omega) hy
  rw [Int.toNat_of_nonneg hx.1] at e
  exact e

theorem idx_range {i nn : Int} (h : 0 ≤ nn) : 0 ≤ (IntKind.u64.wrap i).tmod (nn + 4) ∧ (IntKind.u64.wrap i).tmod (nn + 4) < nn + 4 := by
  have e : IntKind.u64.wrap i = i % 18446744073709551616 := by simp [IntKind.wrap, IntKind.bits, IntKind.signed]
  rw [e]
  have h0 : 0 ≤ i % 18446744073709551616 := Int.emod_nonneg _ (by decide)
  exact ⟨Int.tmod_nonneg _ h0, Int.tmod_lt_of_pos _ (by omega)⟩

set_option maxRecDepth 100000 in
set_option maxHeartbeats 1000000 in
theorem spo_0 (ads : List Addr) (a : Option Addr) (n c : Nat) (bs : List Int) (hn : bs.length = n) (hl : n ≤ 500) (hb : InB bs) (i : Int) (y : Nat) (hy : y < 256) (yy : Int) (hyy : (y : Int) = yy) (w : World) (V : St ads w) (ht : Tb w) (hs : SlB (.slice a n c) bs w) (hy0 : y = 0) :
    Calls Tryd.prog 6 #[.slice a n c, .int .i64 i, .int .u8 yy] w fun e w' => e = .returned (.bool true) ∧ Kp w w' := by
  have HA := Lib.hid (alive_any w ht)
  have h4 : 4 < ads.length := by rw [V.len]; decide
  have HS := Lib.hid (fun w1 (hk : Kp w w1) => seal_any a n c bs hn (by omega) hb w1 (ht.kp hk) (hs.kp hk))
  obtain ⟨nn, hnn⟩ : ∃ nn : Int, (n : Int) = nn := ⟨_, rfl⟩
  have hg : ¬ nn > 500 := by omega
  obtain ⟨r0, r1⟩ := idx_range (i := i) (nn := nn) (by omega)
  obtain ⟨jj, hjj⟩ : ∃ jj, (IntKind.u64.wrap i).tmod (nn + 4) = jj := ⟨_, rfl⟩
  rw [hjj] at r0 r1
  have hL : (bs ++ four (crc bs)).length = n + 4 := by rw [List.length_append, hn]; rfl
  have hj : jj.toNat < (bs ++ four (crc bs)).length := by omega
  have hx0 := seal_in hb _ (List.getElem_mem hj)
  have hc : ((bs ++ four (crc bs)).set jj.toNat (((bs ++ four (crc bs))[jj.toNat].toNat ^^^ y : Nat) : Int)).drop n = four (crc (((bs ++ four (crc bs)).set jj.toNat (((bs ++ four (crc bs))[jj.toNat].toNat ^^^ y : Nat) : Int)).take n)) ∧ ((bs ++ four (crc bs)).set jj.toNat (((bs ++ four (crc bs))[jj.toNat].toNat ^^^ y : Nat) : Int)).take n = bs := by
    rw [hy0, xor_zero_at _ hx0.1, List.set_getElem_self, List.take_left' hn, List.drop_left' hn]
    exact ⟨rfl, rfl⟩
  obtain rfl : yy = 0 := by omega
  obtain ⟨L, hLe⟩ : ∃ L, bs ++ four (crc bs) = L := ⟨_, rfl⟩
  have hLb : InB L := by rw [← hLe]; exact seal_in hb
  simp only [hLe] at hj hL HS hc
  have HK := Lib.hid (fun base w1 w2 g cap (ho : w2.ownsRow base 5 1 (.slice (some ⟨g, 0, none⟩) (n + 4) cap) (n + 4) (L.map (Value.int .u8))) (hk : Kp w w2) (hk1 : Kp w w1) (hb1 : base = w1.heap.size) (hgb : base ≤ g) => turn_byte (w := w) ho hk (by have := kp_size hk1; omega) hLb jj jj.toNat rfl hj y hy)
  obtain ⟨x, hx⟩ : ∃ x, L[jj.toNat] = x := ⟨_, rfl⟩
  obtain ⟨z, hz⟩ : ∃ z : Int, ((x.toNat ^^^ y : Nat) : Int) = z := ⟨_, rfl⟩
  have hLs : InB (L.set jj.toNat z) := by rw [← hz, ← hx]; exact set_in hLb _ hj y hy
  have hLl : (L.set jj.toNat z).length = n + 4 := by simp [hL]
  simp only [hx, hz, hyy] at HK hc
  obtain ⟨L2, hL2⟩ : ∃ L2, L.set jj.toNat z = L2 := ⟨_, rfl⟩
  simp only [hL2] at HK hLs hLl hc
  have HO := Lib.hid (fun w1 (hk : Kp w w1) g cap (hcap : n + 4 ≤ cap) (q : SlB (.slice (some ⟨g, 0, none⟩) (n + 4) cap) L2 w1) => open_ok ads h4 (some ⟨g, 0, none⟩) (n + 4) cap n L2 hLl rfl (by omega) hcap hLs w1 (V.below hk) (ht.kp hk) q hc.1)
  rw [hc.2] at HO
  have HB := Lib.hid hs
  have HN := Lib.hid hn
  
  
  
  obtain ⟨ss, hss⟩ : ∃ ss, strOfNums bs = ss := ⟨_, rfl⟩
  have HSS := Lib.hid hss
  have qs : (ss.toList == ss.toList) = true := by simp
  clear ht V hs hb hn hL hj hLe hLb hx hz hLs hLl hL2 hc hyy hss
  go_enter Tryd.func6, Tryd.ntmps6
  go_wp2_with (first | (go_at_call 8; (with_reducible refine HA.out.mono ?_); rintro e w1 ⟨rfl, hw1⟩; have K1 := Lib.hid hw1; clear hw1) | (go_at_call 13; (with_reducible refine (HS.out _ K1.out).mono ?_); rintro e w2 ⟨v2, rfl, ho2, hk2⟩; have K2 := Lib.hid (Kp.trans K1.out hk2); obtain ⟨g, cap, rfl, hcap, hgb⟩ := own_g ho2 (by omega); obtain ⟨c1, z1, b1, k3, o3⟩ := HK.out _ w1 w2 g cap ho2 K2.out K1.out rfl hgb; have K3 := Lib.hid k3; have O3 := Lib.hid (own_slb o3); have CP := Lib.hid hcap; clear ho2 hk2 k3 o3 hcap hgb) | (go_at_call 14; (with_reducible refine (HO.out _ K3.out _ _ CP.out O3.out).mono ?_); rintro e w4 ⟨v4, rfl, ho4, hk4⟩; have K4 := Lib.hid (Kp.trans K3.out hk4); have cv1 := conv_slb (own_slb ho4); have cv2 := conv_slb (HB.out.kp K4.out); rw [HSS.out] at cv1 cv2; clear ho4 hk4))
  go_ret
  exact ⟨by simp, K4.out⟩

set_option maxRecDepth 100000 in
set_option maxHeartbeats 1000000 in
theorem spo_1 (ads : List Addr) (a : Option Addr) (n c : Nat) (bs : List Int) (hn : bs.length = n) (hl : n ≤ 500) (hb : InB bs) (i : Int) (y : Nat) (hy : y < 256) (yy : Int) (hyy : (y : Int) = yy) (w : World) (V : St ads w) (ht : Tb w) (hs : SlB (.slice a n c) bs w) (hy0 : y ≠ 0) :
    Calls Tryd.prog 6 #[.slice a n c, .int .i64 i, .int .u8 yy] w fun e w' => e = .returned (.bool true) ∧ Kp w w' := by
  have HA := Lib.hid (alive_any w ht)
  have h4 : 4 < ads.length := by rw [V.len]; decide
  have HS := Lib.hid (fun w1 (hk : Kp w w1) => seal_any a n c bs hn (by omega) hb w1 (ht.kp hk) (hs.kp hk))
  obtain ⟨nn, hnn⟩ : ∃ nn : Int, (n : Int) = nn := ⟨_, rfl⟩
  have hg : ¬ nn > 500 := by omega
  obtain ⟨r0, r1⟩ := idx_range (i := i) (nn := nn) (by omega)
  obtain ⟨jj, hjj⟩ : ∃ jj, (IntKind.u64.wrap i).tmod (nn + 4) = jj := ⟨_, rfl⟩
  rw [hjj] at r0 r1
  have hL : (bs ++ four (crc bs)).length = n + 4 := by rw [List.length_append, hn]; rfl
  have hj : jj.toNat < (bs ++ four (crc bs)).length := by omega
  have hc := spoil_ne hn hb hj hy hy0
  obtain ⟨L, hLe⟩ : ∃ L, bs ++ four (crc bs) = L := ⟨_, rfl⟩
  have hLb : InB L := by rw [← hLe]; exact seal_in hb
  simp only [hLe] at hj hL HS hc
  have HK := Lib.hid (fun base w1 w2 g cap (ho : w2.ownsRow base 5 1 (.slice (some ⟨g, 0, none⟩) (n + 4) cap) (n + 4) (L.map (Value.int .u8))) (hk : Kp w w2) (hk1 : Kp w w1) (hb1 : base = w1.heap.size) (hgb : base ≤ g) => turn_byte (w := w) ho hk (by have := kp_size hk1; omega) hLb jj jj.toNat rfl hj y hy)
  obtain ⟨x, hx⟩ : ∃ x, L[jj.toNat] = x := ⟨_, rfl⟩
  obtain ⟨z, hz⟩ : ∃ z : Int, ((x.toNat ^^^ y : Nat) : Int) = z := ⟨_, rfl⟩
  have hLs : InB (L.set jj.toNat z) := by rw [← hz, ← hx]; exact set_in hLb _ hj y hy
  have hLl : (L.set jj.toNat z).length = n + 4 := by simp [hL]
  simp only [hx, hz, hyy] at HK hc
  obtain ⟨L2, hL2⟩ : ∃ L2, L.set jj.toNat z = L2 := ⟨_, rfl⟩
  simp only [hL2] at HK hLs hLl hc
  have HO := Lib.hid (fun w1 (hk : Kp w w1) g cap (hcap : n + 4 ≤ cap) (q : SlB (.slice (some ⟨g, 0, none⟩) (n + 4) cap) L2 w1) => open_bad ads h4 (some ⟨g, 0, none⟩) (n + 4) cap n L2 hLl rfl (by omega) hcap hLs w1 (V.below hk) (ht.kp hk) q hc)

  have HB := Lib.hid hs
  have HNUM := Lib.hid (fun w1 (hk : Kp w w1) => num_err ads w1 (V.below hk) 4 (by decide) h4)
  have hy0 : ¬ yy = 0 := by omega
  have e5 : (((4 : Nat) : Int) + 1) = 5 := rfl
  rw [e5] at HNUM
  obtain ⟨e4, he4⟩ : ∃ e, ads[4]=e := ⟨_, rfl⟩
  simp only [he4] at HO HNUM
  
  clear ht V hs hb hn hL hj hLe hLb hx hz hLs hLl hL2 hc he4
  go_enter Tryd.func6, Tryd.ntmps6
  go_wp2_with (first | (go_at_call 8; (with_reducible refine HA.out.mono ?_); rintro e w1 ⟨rfl, hw1⟩; have K1 := Lib.hid hw1; clear hw1) | (go_at_call 13; (with_reducible refine (HS.out _ K1.out).mono ?_); rintro e w2 ⟨v2, rfl, ho2, hk2⟩; have K2 := Lib.hid (Kp.trans K1.out hk2); obtain ⟨g, cap, rfl, hcap, hgb⟩ := own_g ho2 (by omega); obtain ⟨c1, z1, b1, k3, o3⟩ := HK.out _ w1 w2 g cap ho2 K2.out K1.out rfl hgb; have K3 := Lib.hid k3; have O3 := Lib.hid (own_slb o3); have CP := Lib.hid hcap; clear ho2 hk2 k3 o3 hcap hgb) | (go_at_call 14; (with_reducible refine (HO.out _ K3.out _ _ CP.out O3.out).mono ?_); rintro e w4 ⟨rfl, hk4⟩; have K4' := Lib.hid (Kp.trans K3.out hk4); clear hk4) | (go_at_call 17; (with_reducible refine (HNUM.out _ K4'.out).mono ?_); rintro e w5 ⟨rfl, hk5⟩; have K4 := Lib.hid (Kp.trans K4'.out hk5); clear hk5))
  go_ret
  exact ⟨rfl, K4.out⟩
end Go.Proofs.YtdcbmajmhfhaaaaDoor
