/-
  CheckSums' WALKS (own work).
-/
import Derived.Test.YtdcbmajmhfhaaaaDoorLaidK
namespace Go.Proofs.YtdcbmajmhfhaaaaDoor
open Go.RowKit Go.ChangeShapes Go.WideShapes

set_option maxRecDepth 20000 in
/-- append behind a guard -/
theorem wpList_append_slbg (w : World) {ops : Array Oper} {rest : List Oper} {o : Oper} {a : Act} {Q : Exit → Act → World → Prop} (hgd : Region.wanted o (yielded ops a.tmps) = true) (s x : Operand)
    (ho : o.op = .call { callee := .builtin .append, args := #[s, x], argTypes := #[24, 24] })
    (base : Nat) (v : Value) (n : Nat) (xs : List Value) (hs : a.eval s = v) (hown : w.ownsRow base 5 1 v n xs)
    (ad : Addr) (m c : Nat) (bs : List Int) (hx : a.eval x = .slice (some ad) m c) (hb : SlB (.slice (some ad) m c) bs w) (h63 : n + m ≤ 1000000) (hbase : base ≤ w.heap.size)
    (h : ∀ v' w', w'.ownsRow base 5 1 v' (n + m) (xs ++ bs.map (Value.int .u8)) → w.grownBy w' v.ownBlock → wpList Tryd.prog ops Q rest (a.put o.dst v') w') : wpList Tryd.prog ops Q (o :: rest) a w := by
  obtain ⟨i0, hi, hz0, hz1, hz2⟩ := info_parts info_byte
  have hlen := hb.len
  refine wpList_step fun K hK => ?_
  rw [if_pos hgd]
  exact wp_append_own w s x 24 ho base 5 i0 (.int .u8 0) 1 1 Tryd.underlying24 hi hz0 hz1 hz2 rfl (by decide) v n xs hs hown ad m c (bs.map (Value.int .u8)) hx (by rw [List.length_map, hlen, Nat.mul_one]) (hb.app.2 ad rfl) (bytes_one bs) (by unfold maxLen; omega) (by omega) hbase fun v' w' h2 h3 _ => hK _ _ (h v' w' h2 h3)

theorem one_slb (w : World) (x : Int) (t : TypeId) : SlB (.slice (some ⟨w.heap.size, 0, none⟩) 1 1) [x] (w.alloc (.cells #[.int .u8 x] t)) :=
  .inr ⟨w.heap.size, 0, 1, by simp, rfl, fun j hj => by
    obtain rfl : j = 0 := by simpa using hj
    exact box_cell w _ t⟩

theorem sums_long (a : Option Addr) (n cap : Nat) (more : Int) (hn : 20 < n) (w : World) (ht : Tb w) :
    Calls Tryd.prog 3 #[.slice a n cap, .int .u8 more] w fun e w' => e = .returned (.bool true) ∧ Kp w w' := by
  have HA := Lib.hid (alive_any w ht)
  obtain ⟨ll, hll⟩ : ∃ ll : Int, (n : Int) = ll := ⟨_, rfl⟩
  have h : ll > 20 := by omega
  clear ht
  go_enter Tryd.func3, Tryd.ntmps3
  go_wp2_with (go_at_call 8; (with_reducible refine HA.out.mono ?_); rintro e w1 ⟨rfl, hw1⟩; have K1 := Lib.hid hw1; clear hw1)
  go_ret
  exact ⟨rfl, K1.out⟩

set_option maxRecDepth 100000 in
set_option maxHeartbeats 2000000 in
theorem sums_ok (v : Value) (bss : List (List Int)) (hm : bss.length ≤ 20) (mo : Nat) (hmo : mo < 256) (more : Int) (hmore : (mo : Int) = more) (w : World) (ht : Tb w) (hs : SlBB v bss w) :
    Calls Tryd.prog 3 #[v, .int .u8 more] w fun e w' => e = .returned (.bool true) ∧ Kp w w' := by
  have HA := Lib.hid (alive_any w ht)
  obtain ⟨a, cap, rfl⟩ := hs.form
  obtain ⟨n, hn⟩ : ∃ n, bss.length = n := ⟨_, rfl⟩
  rw [hn] at hs hm ⊢
  have hel : ∀ w1, Kp w w1 → ∀ (j : Nat) (hj : j < bss.length), ∃ b off, a = some ⟨b, off, none⟩ ∧ ∃ a' c, w1.cell? ⟨b, off + j, none⟩ = some (.slice a' bss[j].length c) ∧ SlB (.slice a' bss[j].length c) bss[j] w1 := fun w1 hk j hj => by
    obtain ⟨b, off, h1, a', c, h2, h3, _⟩ := (hs.kp hk).at j hj
    exact ⟨b, off, h1, a', c, h2, h3⟩
  have hfin : InB bss.flatten := flat_in fun j hj => by
    obtain ⟨_, _, _, _, _, _, _, h⟩ := hs.at j hj
    exact h
  have hnx : ∀ j (hj : j < bss.length), (bss.take (j + 1)).flatten = (bss.take j).flatten ++ bss[j] := fun j hj => by
    rw [List.take_succ_eq_append_getElem hj, List.flatten_append]; simp
  have HEL := Lib.hid hel
  have HNX := Lib.hid hnx
  have HN := Lib.hid hn
  have HS := Lib.hid hs
  have HT := Lib.hid ht
  have HFI := Lib.hid hfin
  have HMO := Lib.hid (And.intro hmore hmo)
  obtain ⟨nn, hnn⟩ : ∃ nn : Int, (n : Int) = nn := ⟨_, rfl⟩
  have hg : ¬ nn > 20 := by omega
  clear hel hnx hn hs ht hfin hmo hmore
  go_enter Tryd.func3, Tryd.ntmps3
  go_wp2_with (go_at_call 8; (with_reducible refine HA.out.mono ?_); rintro e w1 ⟨rfl, hw1⟩; have K1 := Lib.hid hw1; clear hw1)
  have OW0 := Lib.hid (own_empty w1 5)
  go_loopw [5, 17] (fun g i wr => ∃ k : Nat, k ≤ n ∧ i = .int .i64 k ∧ Kp w1 wr ∧ wr.ownsRow w1.heap.size 5 1 g (bss.take k).flatten.length ((bss.take k).flatten.map (Value.int .u8)) ∧ (bss.take k).flatten.length ≤ 200 * k ∧ ∀ i (h : i < bss.length), i < k → bss[i].length ≤ 200) (fun _ i _ => n - (intOf i).toNat)
  case atStart => exact ⟨0, Nat.zero_le _, rfl, kp_alloc _ _, by simpa using OW0.out, by simp, fun i _ h => by omega⟩
  case round =>
    obtain ⟨k, hk, rfl, hkp, hown, hsz, hall⟩ := hrel
    obtain ⟨kk, hkk⟩ : ∃ kk : Int, (k : Int) = kk := ⟨_, rfl⟩
    rw [hkk]
    have hnl := HN.out
    have HK := Lib.hid hkp
    have HO := Lib.hid hown
    have HALL := Lib.hid hall
    clear hkp hown hall
    by_cases hlt : k < n
    · have hkl : k < bss.length := by omega
      obtain ⟨b, off, rfl, a', c, hc, hsl⟩ := HEL.out wr (Kp.trans K1.out HK.out) k hkl
      have ek : kk.toNat = k := by omega
      have hk0 : 0 ≤ kk := by omega
      have hltk : kk < nn := by omega
      obtain ⟨m, hmm⟩ : ∃ m, bss[k].length = m := ⟨_, rfl⟩
      obtain ⟨mm, hmi⟩ : ∃ mm : Int, (m : Int) = mm := ⟨_, rfl⟩
      rw [hmm] at hc hsl
      rw [← ek] at hc
      by_cases h200 : 200 < m
      · have hgt : mm > 200 := by omega
        clear hsl hkk ek hlt hkl hnl hmm
        go_wp2
        go_ret
        exact ⟨rfl, Kp.trans K1.out HK.out⟩
      · have hgt : ¬ mm > 200 := by omega
        have hnx := HNX.out k hkl
        have hnl2 : (bss.take (k + 1)).flatten.length = (bss.take k).flatten.length + m := by rw [hnx, List.length_append, hmm]
        have hall2 : ∀ i (h : i < bss.length), i < k + 1 → bss[i].length ≤ 200 := fun i h hi => by
          by_cases e : i = k
          · subst e; omega
          · exact HALL.out i h (by omega)
        obtain ⟨p, hp⟩ : ∃ p, bss[k] = p := ⟨_, rfl⟩
        obtain ⟨A, hA⟩ : ∃ A, (bss.take k).flatten = A := ⟨_, rfl⟩
        rw [hp] at hsl hnx
        rw [hA] at hnx hsz hnl2 HO
        obtain ⟨A1, hA1⟩ : ∃ m, A.length = m := ⟨_, rfl⟩
        rw [hA1] at hsz hnl2 HO
        have HSL := Lib.hid hsl
        have HX := Lib.hid hnx
        have HX2 := Lib.hid hnl2
        have HKK := Lib.hid hkk
        have HA2 := Lib.hid hall2
        have hsum : A1 + m ≤ 200 * (k + 1) := by omega
        have hsum2 : A1 + m ≤ 1000000 := by omega
        clear hsl hnx hnl2 hkk hp hA hmm hA1 hsz ek hlt hkl hnl hall2
        go_wp2_with (at_builtin; refine wpList_append_slb _ rfl (.tmp 24) (.tmp 25) rfl w1.heap.size _ _ _ rfl HO.out _ _ _ _ rfl HSL.out ?d1 ?d2 ?_)
        case d2 => exact Below.size HK.out
        rintro v5 w5 hown5 hgr5 -
        have kp5 : Kp w1 w5 := row_kp HO.out hgr5 HK.out
        have HO5 := Lib.hid hown5
        have HK5 := Lib.hid kp5
        clear hown5 hgr5 kp5
        go_wp2
        have hkk := HKK.out
        go_roundw
        case rel => exact ⟨k + 1, by omega, by congr 1; omega, HK5.out, by rw [HX2.out, HX.out, List.map_append]; exact HO5.out, by rw [HX2.out]; exact hsum, HA2.out⟩
        case measure => simp [intOf]; omega
    · obtain rfl : k = n := by omega
      have hex : ¬ kk < nn := by omega
      have hful : bss.take k = bss := by rw [List.take_of_length_le]; omega
      rw [hful] at HO hsz
      obtain ⟨F, hF⟩ : ∃ F, bss.flatten = F := ⟨_, rfl⟩
      have hFi := HFI.out
      have KW := Lib.hid (Kp.trans K1.out HK.out)
      have HSUM := sum_any _ bss (by omega) (fun l hl => by obtain ⟨i, hi, rfl⟩ := List.getElem_of_mem hl; have := HALL.out i hi (by omega); omega) wr (HT.out.kp KW.out) (HS.out.kp KW.out)
      rw [hF] at HO hsz hFi HSUM
      obtain ⟨fl, hfl⟩ : ∃ fl, F.length = fl := ⟨_, rfl⟩
      rw [hfl] at HO hsz
      obtain ⟨aF, cF, rfl, hcF⟩ := own_len HO.out
      have SF := own_slb HO.out
      have HR1 := rsum_any aF cF F fl hfl (by omega) hFi wr SF
      have HNE := next_any (crc F) mo (crc_lt hFi) HMO.out.2 wr (HT.out.kp KW.out)
      rw [HMO.out.1] at HNE
      have e2 : crc (F ++ [more]) = nxt (crc F) mo := by rw [crc_next]; congr 1; have := HMO.out.1; omega
      have hb3 : InB (F ++ [more]) := in_append hFi (fun z hz => by have h1 := HMO.out.1; have h2 := HMO.out.2; rw [List.mem_singleton.1 hz]; omega)
      have hl3 : (F ++ [more]).length = fl + 1 := by rw [List.length_append, hfl]; rfl
      have HR2 := fun a2 c2 w2 (hs2 : SlB (.slice a2 (fl + 1) c2) (F ++ [more]) w2) => rsum_any a2 c2 (F ++ [more]) (fl + 1) hl3 (by omega) hb3 w2 hs2
      rw [e2] at HR2
      obtain ⟨x1, hx1⟩ : ∃ x : Int, ((crc F : Nat) : Int) = x := ⟨_, rfl⟩
      obtain ⟨x2, hx2⟩ : ∃ x : Int, ((nxt (crc F) mo : Nat) : Int) = x := ⟨_, rfl⟩
      rw [hx1] at HSUM HR1 HNE
      rw [hx2] at HNE
      simp only [hx2] at HR2
      have HSUM := Lib.hid HSUM
      have HR1 := Lib.hid HR1
      have HNE := Lib.hid HNE
      have HR2 := Lib.hid HR2
      have OWA := Lib.hid (own_kp HO.out (kp_alloc wr (.cells #[.int .u8 more] 5)))
      have KA := Lib.hid (Kp.trans HK.out (kp_alloc wr (.cells #[.int .u8 more] 5)))
      have hszf : fl + 1 ≤ 1000000 := by omega
      have q1 : (x1 == x1) = true := by simp
      have q2 : (x2 == x2) = true := by simp
      clear hkk hful hnl hlt hF hsz hFi hfl hcF SF e2 hb3 hl3 hx1 hx2
      go_wp2_with (first | (go_at_call 9; (with_reducible refine HSUM.out.mono ?_); rintro e w3 ⟨rfl, rfl⟩) | (go_at_call 10; (with_reducible refine HR1.out.mono ?_); rintro e w4 ⟨rfl, rfl⟩) | (go_at_call 11; (with_reducible refine HNE.out.mono ?_); rintro e w5 ⟨rfl, rfl⟩) | (at_builtin; go_loud (refine wpList_append_slbg _ (by kernel_rfl) (.tmp 38) (.tmp 40) rfl w1.heap.size _ _ _ rfl OWA.out _ _ _ _ rfl (one_slb _ _ _) ?f1 ?f2 ?_)))
      case f1 => exact hszf
      case f2 => exact Below.size KA.out
      rintro v6 w6 hown6 hgr6
      have kp6 : Kp w1 w6 := row_kp OWA.out hgr6 KA.out
      have K6 := Lib.hid (Kp.trans K1.out kp6)
      obtain ⟨a6, c6, rfl, -⟩ := own_len hown6
      have S6 : SlB (.slice a6 (fl + 1) c6) (F ++ [more]) w6 := own_slb (by rw [List.map_append]; exact hown6)
      have H6 := Lib.hid (HR2.out a6 c6 w6 S6)
      clear hown6 hgr6 kp6 S6
      go_wp2_with (go_at_call 10; (with_reducible refine H6.out.mono ?_); rintro e w7 ⟨rfl, rfl⟩)
      go_ret
      exact ⟨rfl, K6.out⟩
end Go.Proofs.YtdcbmajmhfhaaaaDoor
