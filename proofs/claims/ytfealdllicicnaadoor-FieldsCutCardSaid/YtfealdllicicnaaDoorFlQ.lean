/-
  THE DOCUMENT's FLOATS AS BYTES (own work): liaisonref03.Float, liaisonref03.ToFloat.
-/
import Derived.Test.YtfealdllicicnaaDoorFlB
import Derived.Test.YtfealdllicicnaaDoorRefN
namespace Go.Proofs.YtfealdllicicnaaDoor
open Go.RowKit Go.ChangeShapes Go.WideShapes

/-- the i-th byte of a number from the low end; the eight of a word, the high one first -/
def fb (n i : Nat) : Int := ((n / 256 ^ i % 256 : Nat) : Int)
def f8 (n : Nat) : List Int := [fb n 7, fb n 6, fb n 5, fb n 4, fb n 3, fb n 2, fb n 1, fb n 0]

set_option maxRecDepth 100000 in
set_option maxHeartbeats 2000000 in
theorem refFloat_any (b : Nat) (hb : b < 18446744073709551616) (w : World) :
    Calls Tryd.prog 28 #[.float .f64 b] w fun e w' => ∃ v, e = .returned v ∧ SlB v (f8 (Fl.plain b)) w' ∧ Kp w w' := by
  obtain ⟨i0, hi, hz0, hz1, hz2⟩ := info_parts info_byte
  obtain ⟨p, hp⟩ : ∃ p, Fl.plain b = p := ⟨_, rfl⟩
  obtain ⟨pp, hpp⟩ : ∃ pp : Int, (p : Int) = pp := ⟨_, rfl⟩
  have RB : ∀ w, Calls Tryd.prog 30 #[.float .f64 b] w fun e w' => e = .returned (.int .u64 pp) ∧ w = w' := by
    intro w; rw [← hpp, ← hp]; exact refBits_any b w hb
  rw [hp]
  have HR := Lib.hid RB
  have HP := Lib.hid hpp
  have HI := Lib.hid (And.intro hz1 hz2)
  have HI2 := Lib.hid hi
  have HI3 := Lib.hid hz0
  have OW0 := Lib.hid (own_empty w 5)
  have K0 := Lib.hid (kp_alloc w (.cells #[] 5))
  clear RB hb hp hpp hi hz0 hz1 hz2
  go_enter Tryd.func28, Tryd.ntmps28
  go_wp2_with (go_at_call 30; (with_reducible refine (HR.out _).mono ?_); rintro e w' ⟨rfl, rfl⟩)
  refine wp_loop_rounds 9 ?_
  rw [rounds_succ]
  go_wp2_with (at_builtin; refine wpList_append_own _ rfl (.tmp 13) (.tmp 20) 25 rfl w.heap.size 5 i0 (.int .u8 0) 1 1 Tryd.underlying25 HI2.out HI3.out HI.out.1 HI.out.2 rfl (by decide) _ _ _ rfl (own_kp OW0.out (kp_alloc (w.alloc (.cells #[] 5)) (.cells #[.int .u8 (pp / 72057594037927936 % 256)] 5))) ⟨w.heap.size + 1, 0, none⟩ 1 1 [.int .u8 (pp / 72057594037927936 % 256)] rfl ?a1 ?a2 ?a3 ?a4 ?a5 ?a6 ?_)
  case a1 => rfl
  case a2 =>
    intro i u hi
    match i, hi with
    | 0, hi => simp at hi; subst hi; rw [add_plain]; simp
  case a3 => intro u hu; simp at hu; subst hu; rfl
  case a4 => unfold maxLen; omega
  case a5 => omega
  case a6 => have := Below.size K0.out; simp at this ⊢; omega
  rintro v1 w1 ho hg -
  have K1 := Lib.hid (row_kp (own_kp OW0.out (kp_alloc (w.alloc (.cells #[] 5)) (.cells #[.int .u8 (pp / 72057594037927936 % 256)] 5))) hg (Kp.trans K0.out (kp_alloc (w.alloc (.cells #[] 5)) (.cells #[.int .u8 (pp / 72057594037927936 % 256)] 5))))
  have OW1 := Lib.hid ho
  clear ho hg
  go_wp2
  rw [rounds_succ]
  go_wp2_with (at_builtin; refine wpList_append_own _ rfl (.tmp 13) (.tmp 20) 25 rfl w.heap.size 5 i0 (.int .u8 0) 1 1 Tryd.underlying25 HI2.out HI3.out HI.out.1 HI.out.2 rfl (by decide) _ _ _ rfl (own_kp OW1.out (kp_alloc w1 (.cells #[.int .u8 (pp / 281474976710656 % 256)] 5))) ⟨w1.heap.size, 0, none⟩ 1 1 [.int .u8 (pp / 281474976710656 % 256)] rfl ?a1 ?a2 ?a3 ?a4 ?a5 ?a6 ?_)
  case a1 => rfl
  case a2 =>
    intro i u hi
    match i, hi with
    | 0, hi => simp at hi; subst hi; rw [add_plain]; exact box_cell _ _ _
  case a3 => intro u hu; simp at hu; subst hu; rfl
  case a4 => unfold maxLen; omega
  case a5 => omega
  case a6 => have := Below.size K1.out; simp at this ⊢; omega
  rintro v2 w2 ho hg -
  have K2 := Lib.hid (row_kp (own_kp OW1.out (kp_alloc w1 (.cells #[.int .u8 (pp / 281474976710656 % 256)] 5))) hg (Kp.trans K1.out (kp_alloc w1 (.cells #[.int .u8 (pp / 281474976710656 % 256)] 5))))
  have OW2 := Lib.hid ho
  clear ho hg
  go_wp2
  rw [rounds_succ]
  go_wp2_with (at_builtin; refine wpList_append_own _ rfl (.tmp 13) (.tmp 20) 25 rfl w.heap.size 5 i0 (.int .u8 0) 1 1 Tryd.underlying25 HI2.out HI3.out HI.out.1 HI.out.2 rfl (by decide) _ _ _ rfl (own_kp OW2.out (kp_alloc w2 (.cells #[.int .u8 (pp / 1099511627776 % 256)] 5))) ⟨w2.heap.size, 0, none⟩ 1 1 [.int .u8 (pp / 1099511627776 % 256)] rfl ?a1 ?a2 ?a3 ?a4 ?a5 ?a6 ?_)
  case a1 => rfl
  case a2 =>
    intro i u hi
    match i, hi with
    | 0, hi => simp at hi; subst hi; rw [add_plain]; exact box_cell _ _ _
  case a3 => intro u hu; simp at hu; subst hu; rfl
  case a4 => unfold maxLen; omega
  case a5 => omega
  case a6 => have := Below.size K2.out; simp at this ⊢; omega
  rintro v3 w3 ho hg -
  have K3 := Lib.hid (row_kp (own_kp OW2.out (kp_alloc w2 (.cells #[.int .u8 (pp / 1099511627776 % 256)] 5))) hg (Kp.trans K2.out (kp_alloc w2 (.cells #[.int .u8 (pp / 1099511627776 % 256)] 5))))
  have OW3 := Lib.hid ho
  clear ho hg
  go_wp2
  rw [rounds_succ]
  go_wp2_with (at_builtin; refine wpList_append_own _ rfl (.tmp 13) (.tmp 20) 25 rfl w.heap.size 5 i0 (.int .u8 0) 1 1 Tryd.underlying25 HI2.out HI3.out HI.out.1 HI.out.2 rfl (by decide) _ _ _ rfl (own_kp OW3.out (kp_alloc w3 (.cells #[.int .u8 (pp / 4294967296 % 256)] 5))) ⟨w3.heap.size, 0, none⟩ 1 1 [.int .u8 (pp / 4294967296 % 256)] rfl ?a1 ?a2 ?a3 ?a4 ?a5 ?a6 ?_)
  case a1 => rfl
  case a2 =>
    intro i u hi
    match i, hi with
    | 0, hi => simp at hi; subst hi; rw [add_plain]; exact box_cell _ _ _
  case a3 => intro u hu; simp at hu; subst hu; rfl
  case a4 => unfold maxLen; omega
  case a5 => omega
  case a6 => have := Below.size K3.out; simp at this ⊢; omega
  rintro v4 w4 ho hg -
  have K4 := Lib.hid (row_kp (own_kp OW3.out (kp_alloc w3 (.cells #[.int .u8 (pp / 4294967296 % 256)] 5))) hg (Kp.trans K3.out (kp_alloc w3 (.cells #[.int .u8 (pp / 4294967296 % 256)] 5))))
  have OW4 := Lib.hid ho
  clear ho hg
  go_wp2
  rw [rounds_succ]
  go_wp2_with (at_builtin; refine wpList_append_own _ rfl (.tmp 13) (.tmp 20) 25 rfl w.heap.size 5 i0 (.int .u8 0) 1 1 Tryd.underlying25 HI2.out HI3.out HI.out.1 HI.out.2 rfl (by decide) _ _ _ rfl (own_kp OW4.out (kp_alloc w4 (.cells #[.int .u8 (pp / 16777216 % 256)] 5))) ⟨w4.heap.size, 0, none⟩ 1 1 [.int .u8 (pp / 16777216 % 256)] rfl ?a1 ?a2 ?a3 ?a4 ?a5 ?a6 ?_)
  case a1 => rfl
  case a2 =>
    intro i u hi
    match i, hi with
    | 0, hi => simp at hi; subst hi; rw [add_plain]; exact box_cell _ _ _
  case a3 => intro u hu; simp at hu; subst hu; rfl
  case a4 => unfold maxLen; omega
  case a5 => omega
  case a6 => have := Below.size K4.out; simp at this ⊢; omega
  rintro v5 w5 ho hg -
  have K5 := Lib.hid (row_kp (own_kp OW4.out (kp_alloc w4 (.cells #[.int .u8 (pp / 16777216 % 256)] 5))) hg (Kp.trans K4.out (kp_alloc w4 (.cells #[.int .u8 (pp / 16777216 % 256)] 5))))
  have OW5 := Lib.hid ho
  clear ho hg
  go_wp2
  rw [rounds_succ]
  go_wp2_with (at_builtin; refine wpList_append_own _ rfl (.tmp 13) (.tmp 20) 25 rfl w.heap.size 5 i0 (.int .u8 0) 1 1 Tryd.underlying25 HI2.out HI3.out HI.out.1 HI.out.2 rfl (by decide) _ _ _ rfl (own_kp OW5.out (kp_alloc w5 (.cells #[.int .u8 (pp / 65536 % 256)] 5))) ⟨w5.heap.size, 0, none⟩ 1 1 [.int .u8 (pp / 65536 % 256)] rfl ?a1 ?a2 ?a3 ?a4 ?a5 ?a6 ?_)
  case a1 => rfl
  case a2 =>
    intro i u hi
    match i, hi with
    | 0, hi => simp at hi; subst hi; rw [add_plain]; exact box_cell _ _ _
  case a3 => intro u hu; simp at hu; subst hu; rfl
  case a4 => unfold maxLen; omega
  case a5 => omega
  case a6 => have := Below.size K5.out; simp at this ⊢; omega
  rintro v6 w6 ho hg -
  have K6 := Lib.hid (row_kp (own_kp OW5.out (kp_alloc w5 (.cells #[.int .u8 (pp / 65536 % 256)] 5))) hg (Kp.trans K5.out (kp_alloc w5 (.cells #[.int .u8 (pp / 65536 % 256)] 5))))
  have OW6 := Lib.hid ho
  clear ho hg
  go_wp2
  rw [rounds_succ]
  go_wp2_with (at_builtin; refine wpList_append_own _ rfl (.tmp 13) (.tmp 20) 25 rfl w.heap.size 5 i0 (.int .u8 0) 1 1 Tryd.underlying25 HI2.out HI3.out HI.out.1 HI.out.2 rfl (by decide) _ _ _ rfl (own_kp OW6.out (kp_alloc w6 (.cells #[.int .u8 (pp / 256 % 256)] 5))) ⟨w6.heap.size, 0, none⟩ 1 1 [.int .u8 (pp / 256 % 256)] rfl ?a1 ?a2 ?a3 ?a4 ?a5 ?a6 ?_)
  case a1 => rfl
  case a2 =>
    intro i u hi
    match i, hi with
    | 0, hi => simp at hi; subst hi; rw [add_plain]; exact box_cell _ _ _
  case a3 => intro u hu; simp at hu; subst hu; rfl
  case a4 => unfold maxLen; omega
  case a5 => omega
  case a6 => have := Below.size K6.out; simp at this ⊢; omega
  rintro v7 w7 ho hg -
  have K7 := Lib.hid (row_kp (own_kp OW6.out (kp_alloc w6 (.cells #[.int .u8 (pp / 256 % 256)] 5))) hg (Kp.trans K6.out (kp_alloc w6 (.cells #[.int .u8 (pp / 256 % 256)] 5))))
  have OW7 := Lib.hid ho
  clear ho hg
  go_wp2
  rw [rounds_succ]
  go_wp2_with (at_builtin; refine wpList_append_own _ rfl (.tmp 13) (.tmp 20) 25 rfl w.heap.size 5 i0 (.int .u8 0) 1 1 Tryd.underlying25 HI2.out HI3.out HI.out.1 HI.out.2 rfl (by decide) _ _ _ rfl (own_kp OW7.out (kp_alloc w7 (.cells #[.int .u8 (pp % 256)] 5))) ⟨w7.heap.size, 0, none⟩ 1 1 [.int .u8 (pp % 256)] rfl ?a1 ?a2 ?a3 ?a4 ?a5 ?a6 ?_)
  case a1 => rfl
  case a2 =>
    intro i u hi
    match i, hi with
    | 0, hi => simp at hi; subst hi; rw [add_plain]; exact box_cell _ _ _
  case a3 => intro u hu; simp at hu; subst hu; rfl
  case a4 => unfold maxLen; omega
  case a5 => omega
  case a6 => have := Below.size K7.out; simp at this ⊢; omega
  rintro v8 w8 ho hg -
  have K8 := Lib.hid (row_kp (own_kp OW7.out (kp_alloc w7 (.cells #[.int .u8 (pp % 256)] 5))) hg (Kp.trans K7.out (kp_alloc w7 (.cells #[.int .u8 (pp % 256)] 5))))
  have OW8 := Lib.hid ho
  clear ho hg
  go_wp2
  rw [rounds_succ]
  go_wp2
  go_ret
  refine ⟨_, rfl, ?_, K8.out⟩
  have h := own_slb (bs := [pp / 72057594037927936 % 256, pp / 281474976710656 % 256, pp / 1099511627776 % 256, pp / 4294967296 % 256, pp / 16777216 % 256, pp / 65536 % 256, pp / 256 % 256, pp % 256]) OW8.out
  have e : f8 p = [pp / 72057594037927936 % 256, pp / 281474976710656 % 256, pp / 1099511627776 % 256, pp / 4294967296 % 256, pp / 16777216 % 256, pp / 65536 % 256, pp / 256 % 256, pp % 256] := by
    have := HP.out
    subst this
    simp [f8, fb]
  rw [e]
  exact h

/-- WHAT ToFloat ANSWERS: the word, the error's number. -/
def toFl (bs : List Int) : Nat × Int := if bs.length = 8 ∧ Fl.plain (beNum bs).toNat = (beNum bs).toNat then ((beNum bs).toNat, 0) else (0, 4)

set_option maxRecDepth 100000 in
set_option maxHeartbeats 1000000 in
theorem refToFloat_any (a : Option Addr) (cap : Nat) (bs : List Int) (len : Nat) (hlen : bs.length = len) (hl : len ≤ 100000) (hb : InB bs) (w : World) (hs : SlB (.slice a len cap) bs w) :
    Calls Tryd.prog 31 #[.slice a len cap] w fun e w' => e = .returned (.tuple #[.float .f64 (toFl bs).1, .int .i64 (toFl bs).2]) ∧ w = w' := by
  by_cases h8 : len = 8
  · subst h8
    have hel : ∀ j (hj : j < bs.length), ∃ b off, a = some ⟨b, off, none⟩ ∧ w.cell? ⟨b, off + j, none⟩ = some (.int .u8 (bs.getD j 0)) := fun j hj => hs.at j hj
    have hr := beNum_range hb
    have hn := fun j (h : j < bs.length) => beNum_next h
    obtain ⟨F, hF⟩ : ∃ F, beNum bs = F := ⟨_, rfl⟩
    have hF64 : 0 ≤ F ∧ F < 18446744073709551616 := by
      have h := hr bs.length (Nat.le_refl _)
      rw [List.take_length, hF] at h
      have hp8 : (256 : Int) ^ bs.length ≤ 256 ^ 8 := p256_le (by omega)
      have e8 : (256 : Int) ^ 8 = 18446744073709551616 := by decide
      omega
    obtain ⟨N, hN⟩ : ∃ N, F.toNat = N := ⟨_, rfl⟩
    have hN64 : N < 18446744073709551616 := by omega
    obtain ⟨PP, hPP⟩ : ∃ PP : Int, ((Fl.plain N : Nat) : Int) = PP := ⟨_, rfl⟩
    have RB : ∀ w, Calls Tryd.prog 30 #[.float .f64 N] w fun e w' => e = .returned (.int .u64 PP) ∧ w = w' := by
      intro w; rw [← hPP]; exact refBits_any N w hN64
    have hret : toFl bs = if PP = F then (N, 0) else (0, 4) := by
      unfold toFl
      rw [hF, hN]
      by_cases q : PP = F
      · rw [if_pos q, if_pos ⟨hlen, by omega⟩]
      · rw [if_neg q, if_neg (fun h => q (by have := h.2; omega))]
    obtain ⟨ret, hr2⟩ : ∃ ret, toFl bs = ret := ⟨_, rfl⟩
    rw [hr2] at hret ⊢
    have e1 : ∀ w, (callFunc 55 #[.int .u64 F]).run Tryd.prog w = .ok (.value (.float .f64 N)) w := by
      intro w; rw [← hN]; exact ext_fromI F w
    have HEL := Lib.hid hel
    have HR := Lib.hid hr
    have HNX := Lib.hid hn
    have HB := Lib.hid hb
    have HF := Lib.hid hF
    have HL := Lib.hid hlen
    have HRET := Lib.hid hret
    have HRB := Lib.hid RB
    clear hel hs hr hn hb hF hlen hN hN64 hPP RB hret hr2
    go_enter Tryd.func31, Tryd.ntmps31
    go_wp2
    go_loop [4, 13] (fun u i => ∃ j : Nat, j ≤ 8 ∧ i = .int .i64 j ∧ u = .int .u64 (beNum (bs.take j))) (fun _ i => 8 - (intOf i).toNat)
    case atStart => exact ⟨0, Nat.zero_le _, rfl, rfl⟩
    case round =>
      obtain ⟨j, hj, rfl, rfl⟩ := hrel
      obtain ⟨jj, hjj⟩ : ∃ jj : Int, (j : Int) = jj := ⟨_, rfl⟩
      obtain ⟨uu, huu⟩ : ∃ uu, beNum (bs.take j) = uu := ⟨_, rfl⟩
      rw [hjj, huu]
      have hl := HL.out
      by_cases hlt : j < 8
      · have hjl : j < bs.length := by omega
        obtain ⟨b2, off2, rfl, hc2⟩ := HEL.out j hjl
        have hnx := HNX.out j hjl
        have hbb := HB.out bs[j] (List.getElem_mem _)
        have hru := HR.out j (by omega)
        obtain ⟨y, hy⟩ : ∃ y, bs[j] = y := ⟨_, rfl⟩
        have hy2 : bs.getD j 0 = y := by simp [List.getD, hjl, hy]
        rw [hy2] at hc2
        rw [hy] at hnx hbb
        rw [huu] at hnx hru
        have hp7 : (256 : Int) ^ j ≤ 256 ^ 7 := p256_le (by omega)
        have e7 : (256 : Int) ^ 7 = 72057594037927936 := by decide
        have hub : 0 ≤ uu ∧ uu < 72057594037927936 := by omega
        have ej : jj.toNat = j := by omega
        rw [← ej] at hc2
        have hj0 : 0 ≤ jj := by omega
        have hltj : jj < 8 := by omega
        have HJ := Lib.hid hjj
        have HNXT := Lib.hid hnx
        clear hjj huu hnx hru hp7 e7 hy hy2 ej hlt hjl hl
        go_wp2
        have hjj := HJ.out
        go_round
        case rel =>
          refine ⟨j + 1, by omega, by congr 1; omega, ?_⟩
          rw [HNXT.out]
        case measure => simp [intOf]; omega
      · obtain rfl : j = 8 := by omega
        have hex : ¬ jj < 8 := by omega
        have hful : bs.take 8 = bs := by rw [List.take_of_length_le]; omega
        rw [hful, HF.out] at huu
        subst huu
        clear hful hl
        by_cases hq : PP = F
        · obtain rfl : ret = (N, 0) := by rw [HRET.out, if_pos hq]
          have hb : (PP != F) = false := by simp; exact hq
          clear hq
          go_wp2_with (go_at_call 30; (with_reducible refine (HRB.out _).mono ?_); rintro e w' ⟨rfl, rfl⟩)
          go_ret2
          exact ⟨rfl, rfl⟩
        · obtain rfl : ret = (0, 4) := by rw [HRET.out, if_neg hq]
          have hb : (PP != F) = true := by simp; exact hq
          go_wp2_with (go_at_call 30; (with_reducible refine (HRB.out _).mono ?_); rintro e w' ⟨rfl, rfl⟩)
          go_ret2
          exact ⟨rfl, rfl⟩
  · have e : toFl bs = (0, 4) := by unfold toFl; rw [if_neg (fun h => h8 (by omega))]
    rw [e]
    obtain ⟨ll, hll⟩ : ∃ ll : Int, (len : Int) = ll := ⟨_, rfl⟩
    have hne : (ll != 8) = true := by simp; omega
    clear e hs hb
    go_enter Tryd.func31, Tryd.ntmps31
    go_wp2
    go_ret2
    exact ⟨rfl, rfl⟩
end Go.Proofs.YtfealdllicicnaaDoor
