/-
  THE DOCUMENT's NUMBERS (own work): liaisonref03.ToNumber, liaisonref03.Number.
-/
import Derived.Test.YtfealdllicicnaaDoorSlB
namespace Go.Proofs.YtfealdllicicnaaDoor
open Go.RowKit Go.ChangeShapes Go.WideShapes

/-- bytes as a number, the high one first -/
def beNum (bs : List Int) : Int := bs.foldl (fun u c => 256 * u + c) 0
theorem beNum_next {bs : List Int} {j : Nat} (h : j < bs.length) : beNum (bs.take (j + 1)) = 256 * beNum (bs.take j) + bs[j] := by
  rw [List.take_add_one, List.getElem?_eq_getElem h]
  unfold beNum
  rw [List.foldl_append]
  rfl
theorem beNum_range {bs : List Int} (h : InB bs) : ∀ j, j ≤ bs.length → 0 ≤ beNum (bs.take j) ∧ beNum (bs.take j) < 256 ^ j
  | 0, _ => by simp [beNum]
  | j + 1, hj => by
    rw [beNum_next (by omega)]
    have h1 := beNum_range h j (by omega)
    have h2 := h bs[j] (List.getElem_mem _)
    have e : (256 : Int) ^ (j + 1) = 256 * 256 ^ j := by rw [Int.pow_succ, Int.mul_comm]
    rw [e]
    generalize (256 : Int) ^ j = p at *
    omega

theorem p256_pos : ∀ j : Nat, 0 < (256 : Int) ^ j
  | 0 => by decide
  | j + 1 => by
    have := p256_pos j
    rw [Int.pow_succ]
    omega
theorem p256_le {j k : Nat} (h : j ≤ k) : (256 : Int) ^ j ≤ 256 ^ k := by
  induction h with
  | refl => exact Int.le_refl _
  | step _ ih =>
    rename_i m _
    have := p256_pos m
    rw [Int.pow_succ]
    omega

/-- WHAT ToNumber ANSWERS: the number, the error's number. -/
def toNum (bs : List Int) : Int × Int :=
  if 0 < bs.length ∧ bs.getD 0 0 = 0 then (0, 4) else if 8 < bs.length then (0, 1) else if 9223372036854775807 < beNum bs then (0, 1) else (beNum bs, 0)

set_option maxRecDepth 100000 in
theorem refToNumber_any (a : Option Addr) (cap : Nat) (bs : List Int) (len : Nat) (hlen : bs.length = len) (hl : len ≤ 100000) (hb : InB bs) (w : World) (hs : SlB (.slice a len cap) bs w) :
    Calls Tryd.prog 25 #[.slice a len cap] w fun e w' => e = .returned (.tuple #[.int .i64 (toNum bs).1, .int .i64 (toNum bs).2]) ∧ w = w' := by
  have hel : ∀ j (hj : j < bs.length), ∃ b off, a = some ⟨b, off, none⟩ ∧ w.cell? ⟨b, off + j, none⟩ = some (.int .u8 (bs.getD j 0)) := fun j hj => hs.at j hj
  by_cases h0 : 0 < bs.length ∧ bs.getD 0 0 = 0
  · have e : toNum bs = (0, 4) := by unfold toNum; rw [if_pos h0]
    rw [e]
    obtain ⟨b, off, rfl, hc⟩ := hel 0 h0.1
    rw [h0.2, Nat.add_zero] at hc
    have hp : 0 < len := by omega
    clear e hel hs h0
    go_enter Tryd.func25, Tryd.ntmps25
    go_wp2
    go_ret2
    exact ⟨rfl, rfl⟩
  · have e0 : toNum bs = if 8 < bs.length then (0, 1) else if 9223372036854775807 < beNum bs then (0, 1) else (beNum bs, 0) := by unfold toNum; rw [if_neg h0]
    have hd : len = 0 ∨ ∃ b off x, a = some ⟨b, off, none⟩ ∧ w.cell? ⟨b, off, none⟩ = some (.int .u8 x) ∧ x ≠ 0 := by
      rcases Nat.eq_zero_or_pos len with q | q
      · exact .inl q
      · obtain ⟨b, off, h1, h2⟩ := hel 0 (by omega)
        rw [Nat.add_zero] at h2
        exact .inr ⟨b, off, _, h1, h2, fun h => h0 ⟨by omega, h⟩⟩
    by_cases h8 : 8 < bs.length
    · have e : toNum bs = (0, 1) := by rw [e0, if_pos h8]
      rw [e]
      rcases hd with q | ⟨b, off, x, rfl, hc, hx⟩
      · omega
      have hp : 0 < len := by omega
      have h8' : ¬ len ≤ 8 := by omega
      have h8b : 8 < len := by omega
      have hx' : (x == 0) = false := by simp; exact hx
      clear e e0 hel hs h0 h8
      go_enter Tryd.func25, Tryd.ntmps25
      go_wp2
      go_ret2
      exact ⟨rfl, rfl⟩
    · obtain ⟨F, hF⟩ : ∃ F, beNum bs = F := ⟨_, rfl⟩
      have e : toNum bs = if 9223372036854775807 < F then (0, 1) else (F, 0) := by rw [e0, if_neg h8, hF]
      have h8' : ¬ 8 < len := by omega
      have hr := beNum_range hb
      have hn := fun j (h : j < bs.length) => beNum_next h
      have HEL := Lib.hid hel
      have HR := Lib.hid hr
      have HNX := Lib.hid hn
      have HB := Lib.hid hb
      have HF := Lib.hid hF
      have HL := Lib.hid hlen
      rw [e]
      clear e e0 hel hs h0 h8 hr hn hb hF hlen
      rcases Nat.eq_zero_or_pos len with rfl | hp
      · have hF0 : F = 0 := by
          have : bs = [] := List.length_eq_zero_iff.1 HL.out
          rw [← HF.out, this]; rfl
        subst hF0
        rw [if_neg (by decide)]
        go_enter Tryd.func25, Tryd.ntmps25
        go_wp2
        refine wp_loop_rounds 1 ?_
        rw [rounds_succ]
        go_wp2
        go_ret2
        exact ⟨rfl, rfl⟩
      · obtain ⟨b, off, x, rfl, hc, hx⟩ := hd.resolve_left (by omega)
        clear hd
        have hx' : (x == 0) = false := by simp; exact hx
        have hF64 : 0 ≤ F ∧ F < 18446744073709551616 := by
          have h := HR.out bs.length (Nat.le_refl _)
          rw [List.take_length, HF.out] at h
          have hp8 : (256 : Int) ^ bs.length ≤ 256 ^ 8 := p256_le (by have := HL.out; omega)
          have e8 : (256 : Int) ^ 8 = 18446744073709551616 := by decide
          omega
        obtain ⟨ret, hret⟩ : ∃ ret : Int × Int, (if 9223372036854775807 < F then ((0 : Int), (1 : Int)) else (F, 0)) = ret := ⟨_, rfl⟩
        rw [hret]
        have HRET := Lib.hid hret
        clear hret
        go_enter Tryd.func25, Tryd.ntmps25
        go_wp2
        go_loop [4, 21] (fun u i => ∃ j : Nat, j ≤ len ∧ i = .int .i64 j ∧ u = .int .u64 (beNum (bs.take j))) (fun _ i => len - (intOf i).toNat)
        case atStart => exact ⟨0, Nat.zero_le _, rfl, rfl⟩
        case round =>
          obtain ⟨j, hj, rfl, rfl⟩ := hrel
          obtain ⟨jj, hjj⟩ : ∃ jj : Int, (j : Int) = jj := ⟨_, rfl⟩
          obtain ⟨uu, huu⟩ : ∃ uu, beNum (bs.take j) = uu := ⟨_, rfl⟩
          rw [hjj, huu]
          have hl := HL.out
          by_cases hlt : j < len
          · have hjl : j < bs.length := by omega
            obtain ⟨b2, off2, hb2, hc2⟩ := HEL.out j hjl
            injection hb2 with hb2
            injection hb2 with h1 h2
            subst h1 h2
            have hnx := HNX.out j hjl
            have hbb := HB.out bs[j] (List.getElem_mem _)
            have hru := HR.out j (by omega)
            obtain ⟨y, hy⟩ : ∃ y, bs[j] = y := ⟨_, rfl⟩
            have hy2 : bs.getD j 0 = y := by simp [List.getD, hjl, hy]
            rw [hy2] at hc2
            rw [hy] at hnx hbb
            rw [huu] at hnx hru
            have hp7 : (256 : Int) ^ j ≤ 256 ^ 7 := p256_le (by omega)
            have e7 : (256 : Int) ^ 7 = 72057594037927936 := by decide
            have hub : 0 ≤ uu ∧ uu < 72057594037927936 := by omega
            have ej : jj.toNat = j := by omega
            rw [← ej] at hc2
            have hj0 : 0 ≤ jj := by omega
            have hltj : jj < len := by omega
            have HJ := Lib.hid hjj
            have HNXT := Lib.hid hnx
            clear hjj huu hnx hru hp7 e7 hy hy2 ej hlt hjl hl
            go_wp2
            have hjj := HJ.out
            go_round
            case rel =>
              refine ⟨j + 1, by omega, by congr 1; omega, ?_⟩
              rw [HNXT.out]
            case measure => simp [intOf]; omega
          · obtain rfl : j = len := by omega
            have hex : ¬ jj < j := by omega
            have hful : bs.take j = bs := by rw [List.take_of_length_le]; omega
            rw [hful, HF.out] at huu
            subst huu
            clear hjj hful hl
            by_cases hbig : 9223372036854775807 < F
            · obtain rfl : ret = (0, 1) := by rw [← HRET.out, if_pos hbig]
              go_wp2
              go_ret2
              exact ⟨rfl, rfl⟩
            · obtain rfl : ret = (F, 0) := by rw [← HRET.out, if_neg hbig]
              go_wp2
              go_ret2
              exact ⟨rfl, rfl⟩

/-! ### Number -/
/-- the bytes of a number, the high one first; k: as many as may be needed -/
def beF : Nat → Nat → List Int
  | 0, _ => []
  | k + 1, n => if n = 0 then [] else beF k (n / 256) ++ [((n % 256 : Nat) : Int)]
theorem beF_len : ∀ k n, (beF k n).length ≤ k
  | 0, _ => by simp [beF]
  | k + 1, n => by
    unfold beF
    split
    · simp
    · have := beF_len k (n / 256)
      simp
      omega
theorem beF_inB : ∀ k n, InB (beF k n)
  | 0, _ => by intro x hx; cases hx
  | k + 1, n => by
    unfold beF
    split
    · intro x hx; cases hx
    · intro x hx
      rcases List.mem_append.1 hx with h | h
      · exact beF_inB k _ x h
      · simp at h
        omega

set_option maxRecDepth 20000 in
theorem refNumber_any (k : Nat) (hk : k ≤ 8) : ∀ (n : Nat), n < 256 ^ k → ∀ (nn : Int), (n : Int) = nn → ∀ (w : World),
    Calls Tryd.prog 24 #[.int .i64 nn] w fun e w' => ∃ v, e = .returned v ∧ w'.ownsRow w.heap.size 5 1 v (beF k n).length ((beF k n).map (Value.int .u8)) ∧ Kp w w' := by
  induction k with
  | zero =>
    intro n hn nn hnn w
    obtain rfl : n = 0 := by simpa using hn
    subst hnn
    go_enter Tryd.func24, Tryd.ntmps24
    go_wp2
    go_ret
    exact ⟨_, rfl, ⟨by simp [beF], .inl ⟨rfl, rfl⟩⟩, Kp.refl _⟩
  | succ k ih =>
    intro n hn nn hnn w
    by_cases h0 : n = 0
    · subst h0
      subst hnn
      go_enter Tryd.func24, Tryd.ntmps24
      go_wp2
      go_ret
      exact ⟨_, rfl, ⟨by simp [beF], .inl ⟨rfl, rfl⟩⟩, Kp.refl _⟩
    · obtain ⟨i0, hi, hz0, hz1, hz2⟩ := info_parts info_byte
      have hn63 : n < 18446744073709551616 := by
        have h8 : 256 ^ (k + 1) ≤ 256 ^ 8 := Nat.pow_le_pow_right (by decide) hk
        have e8 : 256 ^ 8 = 18446744073709551616 := by decide
        omega
      have hq : n / 256 < 256 ^ k := by
        rw [Nat.pow_succ] at hn
        omega
      have hb : beF (k + 1) n = beF k (n / 256) ++ [((n % 256 : Nat) : Int)] := by rw [beF, if_neg h0]
      obtain ⟨qq, hqq⟩ : ∃ qq : Int, ((n / 256 : Nat) : Int) = qq := ⟨_, rfl⟩
      obtain ⟨rr, hrr⟩ : ∃ rr : Int, ((n % 256 : Nat) : Int) = rr := ⟨_, rfl⟩
      have IH := Lib.hid (ih (by omega) (n / 256) hq qq hqq w)
      have h1 : nn.tdiv 256 = qq := by rw [Int.tdiv_eq_ediv_of_nonneg (by omega)]; omega
      have h2 : nn.tmod 256 = rr := by rw [Int.tmod_eq_emod_of_nonneg (by omega)]; omega
      have hq0 : 0 ≤ qq ∧ qq < 72057594037927937 := by omega
      have hr0 : 0 ≤ rr ∧ rr < 256 := by omega
      have hne : (nn == 0) = false := by simp; omega
      rw [hrr] at hb
      rw [hb]
      have HL := Lib.hid (beF_len k (n / 256))
      have HI := Lib.hid (And.intro hz1 hz2)
      have HI2 := Lib.hid hi
      have HI3 := Lib.hid hz0
      obtain ⟨bl, hbl⟩ : ∃ bl, beF k (n / 256) = bl := ⟨_, rfl⟩
      rw [hbl] at IH HL ⊢
      clear ih hn hn63 hq hb hqq hrr hnn h0 hbl hz1 hz2 hi hz0
      go_enter Tryd.func24, Tryd.ntmps24
      go_wp2_with (first | (go_at_call 24; (with_reducible refine IH.out.mono ?_); rintro e w1 ⟨v1, rfl, hown1, hk1⟩; have OW1 := Lib.hid hown1; have HK1 := Lib.hid hk1; clear hown1 hk1) | (at_builtin; refine wpList_append_own _ rfl _ _ 25 rfl w.heap.size 5 i0 (.int .u8 0) 1 1 Tryd.underlying25 HI2.out HI3.out HI.out.1 HI.out.2 rfl (by decide) _ _ _ rfl (own_kp OW1.out (kp_alloc w1 _)) ⟨w1.heap.size, 0, none⟩ 1 1 [.int .u8 rr] rfl ?c1 ?c2 ?c3 ?c4 ?c5 ?c6 ?_))
      case c1 => rfl
      case c2 =>
        intro i u hi
        match i, hi with
        | 0, hi => simp at hi; subst hi; rw [add_plain]; exact box_cell _ _ _
      case c3 => intro u hu; simp at hu; subst hu; rfl
      case c4 => have := HL.out; unfold maxLen; omega
      case c5 => have := HL.out; omega
      case c6 => have := Below.size HK1.out; simp; omega
      rintro v2 w2 hown2 hgr2 -
      have kp2 : Kp w w2 := row_kp (own_kp OW1.out (kp_alloc w1 _)) hgr2 (Kp.trans HK1.out (kp_alloc w1 _))
      have OW2 := Lib.hid hown2
      have HK2 := Lib.hid kp2
      clear hown2 hgr2 kp2
      go_wp2
      go_ret
      exact ⟨_, rfl, by simpa using OW2.out, HK2.out⟩
end Go.Proofs.YtfealdllicicnaaDoor
