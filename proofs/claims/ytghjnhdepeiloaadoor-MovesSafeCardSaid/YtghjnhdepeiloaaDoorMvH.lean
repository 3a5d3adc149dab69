/-
  MovesSafe's WALK (own work).
-/
import Derived.Test.YtghjnhdepeiloaaDoorMvE
import Derived.LoopTactic
import Derived.LoopN
namespace Go.Proofs.YtghjnhdepeiloaaDoor
open Go.RowKit Go.ChangeShapes Go.WideShapes
variable {ads : List Addr} {J : Nat → PairM → (Nat → Prop) → World → Prop}

set_option maxRecDepth 100000 in
theorem safe_long (p : Int) (a : Option Addr) (n cap : Nat) (w : World) (hl : 200 < n) (C : MovC ads w J) : Calls Tryd.prog 5 #[.int .i64 p, .slice a n cap] w fun r w' => r = .returned (.bool true) ∧ Kp w w' := by
  have HAL := Lib.hid (alive11_any C w (Kp.refl w))
  obtain ⟨nn, hnn⟩ : ∃ x : Int, (n : Int) = x := ⟨_, rfl⟩
  have d1 : decide (nn > 200) = true := decide_eq_true (by omega)
  clear C hl
  go_enter Tryd.func5, Tryd.ntmps5
  go_wp2_with (go_at_call 9; (with_reducible refine HAL.out.mono ?_); rintro e' w1 ⟨rfl, hk⟩; have K1 := Lib.hid hk; clear hk)
  go_ret
  exact ⟨rfl, K1.out⟩
set_option maxRecDepth 100000 in
theorem safe_bad (p : Int) (ip : i64M p) (hp : ¬ (p = 1 ∨ p = 2)) (a : Option Addr) (n cap : Nat) (w : World) (hl : ¬ 200 < n) (C : MovC ads w J) : Calls Tryd.prog 5 #[.int .i64 p, .slice a n cap] w fun r w' => r = .returned (.bool true) ∧ Kp w w' := by
  have HAL := Lib.hid (alive11_any C w (Kp.refl w))
  obtain ⟨nn, hnn⟩ : ∃ x : Int, (n : Int) = x := ⟨_, rfl⟩
  have d1 : decide (nn > 200) = false := decide_eq_false (by omega)
  obtain ⟨q, hq⟩ : ∃ q, errI ads 14 = .iface 128 (.pointer q) := ⟨_, if_neg (by decide)⟩
  have HNW := Lib.hid (fun w1 (hk : Kp w w1) => hq ▸ C.pnew_no w1 hk p hp ip)
  clear C hl hq
  go_enter Tryd.func5, Tryd.ntmps5
  go_wp2_with (first | (go_at_call 9; (with_reducible refine HAL.out.mono ?_); rintro e' w1 ⟨rfl, hk⟩; have K1 := Lib.hid hk; clear hk) | (go_at_call 21; (with_reducible refine (HNW.out _ K1.out).mono ?_); rintro e' w2 ⟨rfl, hk⟩; have K2 := Lib.hid (Kp.trans K1.out hk); clear hk))
  go_ret
  exact ⟨rfl, K2.out⟩
set_option maxRecDepth 100000 in
set_option maxHeartbeats 8000000 in
theorem safe_in (p : Int) (hp : p = 1 ∨ p = 2) (a : Option Addr) (cap n : Nat) (os : List OpD) (hm : os.length = n) (w : World) (hel : ∀ (j : Nat) (h : j < os.length), ∃ b off, a = some ⟨b, off, none⟩ ∧ OpM os[j] b (off + j * 5) w) (hl : ¬ 200 < n) (C : MovC ads w J) : Calls Tryd.prog 5 #[.int .i64 p, .slice a n cap] w fun r w' => r = .returned (.bool true) ∧ Kp w w' := by
  have HAL := Lib.hid (alive11_any C w (Kp.refl w))
  have HCC := Lib.hid C
  have HNW := Lib.hid (fun w1 (hk : Kp w w1) => at_new C (Kp.refl w) hk p hp)
  have HE := Lib.hid hel
  have HM := Lib.hid hm
  obtain ⟨nn, hnn⟩ : ∃ x : Int, (n : Int) = x := ⟨_, rfl⟩
  have HNN := Lib.hid hnn
  have d1 : decide (nn > 200) = false := decide_eq_false (by omega)
  have l1 : nn ≤ 200 := by omega
  clear C hel hm hl hp
  go_enter Tryd.func5, Tryd.ntmps5
  go_wp2_with (first | (go_at_call 9; (with_reducible refine HAL.out.mono ?_); rintro e' w1 ⟨rfl, hk⟩; have K1 := Lib.hid hk; clear hk) | (go_at_call 21; (with_reducible refine (HNW.out _ K1.out).mono ?_); rintro e' w2 ⟨g, rfl, ha, -⟩; have A2 := Lib.hid ha; clear ha))
  go_loopw [26] (fun i wr => ∃ j : Nat, j ≤ n ∧ i = .int .i64 j ∧ ∃ mj, At J w w (fun _ : Nat => False) g mj wr) (fun i _ => n - (intOf i).toNat)
  case atStart => exact ⟨0, Nat.zero_le _, rfl, _, A2.out⟩
  case round =>
    obtain ⟨j, hj, rfl, mj, hat⟩ := hrel
    have A := Lib.hid hat
    clear hat
    obtain ⟨jj, hjj⟩ : ∃ jj : Int, (j : Int) = jj := ⟨_, rfl⟩
    rw [hjj]
    have HJ := Lib.hid hjj
    have hnn := HNN.out
    by_cases hlt : j < n
    · have hjl : jj < nn := by omega
      have hj0 : 0 ≤ jj := by omega
      have htn : jj.toNat = j := by omega
      have hjo : j < os.length := by rw [HM.out]; exact hlt
      obtain ⟨b, off, rfl, hc0⟩ := HE.out j hjo
      have hc := hc0.kp (A.out.base)
      obtain ⟨⟨oa, oe, ok, oi, oc⟩, hod⟩ : ∃ o, os[j] = o := ⟨_, rfl⟩
      rw [hod] at hc
      have f0 : wr.cell? ⟨b, off + jj.toNat * 5, none⟩ = some (.int .i64 oa) := by rw [htn]; exact hc.a
      have f1 : wr.cell? ⟨b, off + jj.toNat * 5 + 1, none⟩ = some (.int .i64 oe) := by rw [htn]; exact hc.e
      have f2 : wr.cell? ⟨b, off + jj.toNat * 5 + 2, none⟩ = some (.int .i64 ok) := by rw [htn]; exact hc.k
      have f3 : wr.cell? ⟨b, off + jj.toNat * 5 + 3, none⟩ = some (.int .i64 oi) := by rw [htn]; exact hc.i
      have f4 : wr.cell? ⟨b, off + jj.toNat * 5 + 4, none⟩ = some (.bool oc) := by rw [htn]; exact hc.c
      have hook : OpD.ok ⟨oa, oe, ok, oi, oc⟩ := ⟨hc.wa, hc.we, hc.wk, hc.wi⟩
      have k9 := kp_alloc wr (.cells #[.int .i64 oa, .int .i64 oe, .int .i64 ok, .int .i64 oi, .bool oc] 47)
      have r9 := (MapKept.heap_alloc wr (.cells #[.int .i64 oa, .int .i64 oe, .int .i64 ok, .int .i64 oi, .bool oc] 47)).1
      obtain ⟨t0, t1, t2, t3, t4⟩ := cells_5 r9
      have A9 := A.out.kp HCC.out k9
      have hdo := at_doL HCC.out A9 ⟨oa, oe, ok, oi, oc⟩ hook
      obtain ⟨⟨⟨⟨a0, a1, a2, a3⟩, b1, b2, b3, b4⟩, m'⟩, hm'⟩ : ∃ y, doM mj ⟨oa, oe, ok, oi, oc⟩ = y := ⟨_, rfl⟩
      rw [hm'] at hdo
      dsimp only [opV, effV] at hdo
      have HDO := Lib.hid hdo
      have HLT := Lib.hid hlt
      have hpk := hm' ▸ pok_do A.out.pok ⟨oa, oe, ok, oi, oc⟩
      obtain ⟨⟨cp, ce, cs, ch⟩, ⟨xp, xe, xs, xh⟩, f⟩ := m'
      obtain ⟨⟨pp, r, hpp, R⟩, -⟩ := hpk
      obtain ⟨sf1, sf2, sf3, -⟩ := rep_safe hpp R
      dsimp only at sf1 sf2 sf3
      have HF1 := Lib.hid sf1
      have HF2 := Lib.hid sf2
      have HF3 := Lib.hid sf3
      have HS1 := Lib.hid (fun w1 (h : At J w w (fun _ : Nat => False) g ⟨⟨cp, ce, cs, ch⟩, ⟨xp, xe, xs, xh⟩, f⟩ w1) => (show Calls Tryd.prog 24 #[.pointer (some ⟨g, 0, none⟩), .int .i64 1] w1 fun r w' => r = .returned (.agg #[.int .i64 cp, .int .i64 ce, .int .i64 cs, .int .i64 ch]) ∧ Kp w1 w' from at_seat HCC.out h 1 (by decide)))
      have HS2 := Lib.hid (fun w1 (h : At J w w (fun _ : Nat => False) g ⟨⟨cp, ce, cs, ch⟩, ⟨xp, xe, xs, xh⟩, f⟩ w1) => (show Calls Tryd.prog 24 #[.pointer (some ⟨g, 0, none⟩), .int .i64 2] w1 fun r w' => r = .returned (.agg #[.int .i64 xp, .int .i64 xe, .int .i64 xs, .int .i64 xh]) ∧ Kp w1 w' from at_seat HCC.out h 2 (by decide)))
      clear sf1 sf2 sf3 R hpp hm'
      clear hc hc0 hod k9 r9 A9 hdo hjj hj hlt hnn hook htn hjo
      by_cases hc14 : cs = 14
      · subst hc14
        have HON1 := Lib.hid (fun w1 => (show Calls Tryd.prog 27 #[.agg #[.int .i64 xp, .int .i64 xe, .int .i64 xs, .int .i64 xh], .int .i64 ch] w1 fun r w' => r = .returned (.bool true) ∧ Kp w1 w' from HF1.out rfl ▸ onS_any ⟨xp, xe, xs, xh⟩ ch w1))
        by_cases hx5 : xs = 5
        · subst hx5
          go_wp2_with (first | (go_at_call 26; (with_reducible refine HDO.out.mono ?_); rintro e' w4 ⟨rfl, ha, -⟩; have A4 := Lib.hid ha; clear ha) | (go_at_call 24; (with_reducible refine (HS1.out _ A4.out).mono ?_); rintro e' w5 ⟨rfl, hk⟩; have A5 := Lib.hid (A4.out.kp HCC.out hk); clear hk) | (go_at_call 24; (with_reducible refine (HS2.out _ A5.out).mono ?_); rintro e' w6 ⟨rfl, hk⟩; have hk2 := Kp.trans (kp_alloc w6 (.cells #[.int .i64 cp, .int .i64 ce, .int .i64 14, .int .i64 ch] 23)) (kp_alloc (w6.alloc (.cells #[.int .i64 cp, .int .i64 ce, .int .i64 14, .int .i64 ch] 23)) (.cells #[.int .i64 xp, .int .i64 xe, .int .i64 5, .int .i64 xh] 23)); have A6 := Lib.hid (A5.out.kp HCC.out (Kp.trans hk hk2)); have Q1 := Lib.hid (kp_row (kp_alloc (w6.alloc (.cells #[.int .i64 cp, .int .i64 ce, .int .i64 14, .int .i64 ch] 23)) (.cells #[.int .i64 xp, .int .i64 xe, .int .i64 5, .int .i64 xh] 23)) (MapKept.heap_alloc w6 (.cells #[.int .i64 cp, .int .i64 ce, .int .i64 14, .int .i64 ch] 23)).1); have q2 := (MapKept.heap_alloc (w6.alloc (.cells #[.int .i64 cp, .int .i64 ce, .int .i64 14, .int .i64 ch] 23)) (.cells #[.int .i64 xp, .int .i64 xe, .int .i64 5, .int .i64 xh] 23)).1; rw [show (w6.alloc (.cells #[.int .i64 cp, .int .i64 ce, .int .i64 14, .int .i64 ch] 23)).heap.size = w6.heap.size + 1 by simp] at q2; have Q2 := Lib.hid q2; obtain ⟨u0, u1, u2, u3⟩ := cells_4 Q1.out; obtain ⟨v0, v1, v2, v3⟩ := cells_4 Q2.out; clear hk hk2 q2) | (go_at_call 27; (with_reducible refine (HON1.out _).mono ?_); rintro e' w7 ⟨rfl, hk⟩; have A7 := Lib.hid (A6.out.kp HCC.out hk); have Q17 := Lib.hid (kp_row hk Q1.out); have Q27 := Lib.hid (kp_row hk Q2.out); obtain ⟨u60, u61, u62, u63⟩ := cells_4 Q17.out; obtain ⟨v60, v61, v62, v63⟩ := cells_4 Q27.out; clear hk))
          have hj1 : (j : Int) = jj := HJ.out
          have hlt1 : j < n := HLT.out
          go_roundw
          case rel => exact ⟨j + 1, hlt1, by rw [← hj1]; rfl, _, A7.out⟩
          case measure => simp [intOf]; omega
        by_cases hx6 : xs = 6
        · subst hx6
          go_wp2_with (first | (go_at_call 26; (with_reducible refine HDO.out.mono ?_); rintro e' w4 ⟨rfl, ha, -⟩; have A4 := Lib.hid ha; clear ha) | (go_at_call 24; (with_reducible refine (HS1.out _ A4.out).mono ?_); rintro e' w5 ⟨rfl, hk⟩; have A5 := Lib.hid (A4.out.kp HCC.out hk); clear hk) | (go_at_call 24; (with_reducible refine (HS2.out _ A5.out).mono ?_); rintro e' w6 ⟨rfl, hk⟩; have hk2 := Kp.trans (kp_alloc w6 (.cells #[.int .i64 cp, .int .i64 ce, .int .i64 14, .int .i64 ch] 23)) (kp_alloc (w6.alloc (.cells #[.int .i64 cp, .int .i64 ce, .int .i64 14, .int .i64 ch] 23)) (.cells #[.int .i64 xp, .int .i64 xe, .int .i64 6, .int .i64 xh] 23)); have A6 := Lib.hid (A5.out.kp HCC.out (Kp.trans hk hk2)); have Q1 := Lib.hid (kp_row (kp_alloc (w6.alloc (.cells #[.int .i64 cp, .int .i64 ce, .int .i64 14, .int .i64 ch] 23)) (.cells #[.int .i64 xp, .int .i64 xe, .int .i64 6, .int .i64 xh] 23)) (MapKept.heap_alloc w6 (.cells #[.int .i64 cp, .int .i64 ce, .int .i64 14, .int .i64 ch] 23)).1); have q2 := (MapKept.heap_alloc (w6.alloc (.cells #[.int .i64 cp, .int .i64 ce, .int .i64 14, .int .i64 ch] 23)) (.cells #[.int .i64 xp, .int .i64 xe, .int .i64 6, .int .i64 xh] 23)).1; rw [show (w6.alloc (.cells #[.int .i64 cp, .int .i64 ce, .int .i64 14, .int .i64 ch] 23)).heap.size = w6.heap.size + 1 by simp] at q2; have Q2 := Lib.hid q2; obtain ⟨u0, u1, u2, u3⟩ := cells_4 Q1.out; obtain ⟨v0, v1, v2, v3⟩ := cells_4 Q2.out; clear hk hk2 q2) | (go_at_call 27; (with_reducible refine (HON1.out _).mono ?_); rintro e' w7 ⟨rfl, hk⟩; have A7 := Lib.hid (A6.out.kp HCC.out hk); have Q17 := Lib.hid (kp_row hk Q1.out); have Q27 := Lib.hid (kp_row hk Q2.out); obtain ⟨u60, u61, u62, u63⟩ := cells_4 Q17.out; obtain ⟨v60, v61, v62, v63⟩ := cells_4 Q27.out; clear hk))
          have hj1 : (j : Int) = jj := HJ.out
          have hlt1 : j < n := HLT.out
          go_roundw
          case rel => exact ⟨j + 1, hlt1, by rw [← hj1]; rfl, _, A7.out⟩
          case measure => simp [intOf]; omega
        by_cases hx7 : xs = 7
        · subst hx7
          go_wp2_with (first | (go_at_call 26; (with_reducible refine HDO.out.mono ?_); rintro e' w4 ⟨rfl, ha, -⟩; have A4 := Lib.hid ha; clear ha) | (go_at_call 24; (with_reducible refine (HS1.out _ A4.out).mono ?_); rintro e' w5 ⟨rfl, hk⟩; have A5 := Lib.hid (A4.out.kp HCC.out hk); clear hk) | (go_at_call 24; (with_reducible refine (HS2.out _ A5.out).mono ?_); rintro e' w6 ⟨rfl, hk⟩; have hk2 := Kp.trans (kp_alloc w6 (.cells #[.int .i64 cp, .int .i64 ce, .int .i64 14, .int .i64 ch] 23)) (kp_alloc (w6.alloc (.cells #[.int .i64 cp, .int .i64 ce, .int .i64 14, .int .i64 ch] 23)) (.cells #[.int .i64 xp, .int .i64 xe, .int .i64 7, .int .i64 xh] 23)); have A6 := Lib.hid (A5.out.kp HCC.out (Kp.trans hk hk2)); have Q1 := Lib.hid (kp_row (kp_alloc (w6.alloc (.cells #[.int .i64 cp, .int .i64 ce, .int .i64 14, .int .i64 ch] 23)) (.cells #[.int .i64 xp, .int .i64 xe, .int .i64 7, .int .i64 xh] 23)) (MapKept.heap_alloc w6 (.cells #[.int .i64 cp, .int .i64 ce, .int .i64 14, .int .i64 ch] 23)).1); have q2 := (MapKept.heap_alloc (w6.alloc (.cells #[.int .i64 cp, .int .i64 ce, .int .i64 14, .int .i64 ch] 23)) (.cells #[.int .i64 xp, .int .i64 xe, .int .i64 7, .int .i64 xh] 23)).1; rw [show (w6.alloc (.cells #[.int .i64 cp, .int .i64 ce, .int .i64 14, .int .i64 ch] 23)).heap.size = w6.heap.size + 1 by simp] at q2; have Q2 := Lib.hid q2; obtain ⟨u0, u1, u2, u3⟩ := cells_4 Q1.out; obtain ⟨v0, v1, v2, v3⟩ := cells_4 Q2.out; clear hk hk2 q2) | (go_at_call 27; (with_reducible refine (HON1.out _).mono ?_); rintro e' w7 ⟨rfl, hk⟩; have A7 := Lib.hid (A6.out.kp HCC.out hk); have Q17 := Lib.hid (kp_row hk Q1.out); have Q27 := Lib.hid (kp_row hk Q2.out); obtain ⟨u60, u61, u62, u63⟩ := cells_4 Q17.out; obtain ⟨v60, v61, v62, v63⟩ := cells_4 Q27.out; clear hk))
          have hj1 : (j : Int) = jj := HJ.out
          have hlt1 : j < n := HLT.out
          go_roundw
          case rel => exact ⟨j + 1, hlt1, by rw [← hj1]; rfl, _, A7.out⟩
          case measure => simp [intOf]; omega
        by_cases hx11 : xs = 11
        · subst hx11
          go_wp2_with (first | (go_at_call 26; (with_reducible refine HDO.out.mono ?_); rintro e' w4 ⟨rfl, ha, -⟩; have A4 := Lib.hid ha; clear ha) | (go_at_call 24; (with_reducible refine (HS1.out _ A4.out).mono ?_); rintro e' w5 ⟨rfl, hk⟩; have A5 := Lib.hid (A4.out.kp HCC.out hk); clear hk) | (go_at_call 24; (with_reducible refine (HS2.out _ A5.out).mono ?_); rintro e' w6 ⟨rfl, hk⟩; have hk2 := Kp.trans (kp_alloc w6 (.cells #[.int .i64 cp, .int .i64 ce, .int .i64 14, .int .i64 ch] 23)) (kp_alloc (w6.alloc (.cells #[.int .i64 cp, .int .i64 ce, .int .i64 14, .int .i64 ch] 23)) (.cells #[.int .i64 xp, .int .i64 xe, .int .i64 11, .int .i64 xh] 23)); have A6 := Lib.hid (A5.out.kp HCC.out (Kp.trans hk hk2)); have Q1 := Lib.hid (kp_row (kp_alloc (w6.alloc (.cells #[.int .i64 cp, .int .i64 ce, .int .i64 14, .int .i64 ch] 23)) (.cells #[.int .i64 xp, .int .i64 xe, .int .i64 11, .int .i64 xh] 23)) (MapKept.heap_alloc w6 (.cells #[.int .i64 cp, .int .i64 ce, .int .i64 14, .int .i64 ch] 23)).1); have q2 := (MapKept.heap_alloc (w6.alloc (.cells #[.int .i64 cp, .int .i64 ce, .int .i64 14, .int .i64 ch] 23)) (.cells #[.int .i64 xp, .int .i64 xe, .int .i64 11, .int .i64 xh] 23)).1; rw [show (w6.alloc (.cells #[.int .i64 cp, .int .i64 ce, .int .i64 14, .int .i64 ch] 23)).heap.size = w6.heap.size + 1 by simp] at q2; have Q2 := Lib.hid q2; obtain ⟨u0, u1, u2, u3⟩ := cells_4 Q1.out; obtain ⟨v0, v1, v2, v3⟩ := cells_4 Q2.out; clear hk hk2 q2) | (go_at_call 27; (with_reducible refine (HON1.out _).mono ?_); rintro e' w7 ⟨rfl, hk⟩; have A7 := Lib.hid (A6.out.kp HCC.out hk); have Q17 := Lib.hid (kp_row hk Q1.out); have Q27 := Lib.hid (kp_row hk Q2.out); obtain ⟨u60, u61, u62, u63⟩ := cells_4 Q17.out; obtain ⟨v60, v61, v62, v63⟩ := cells_4 Q27.out; clear hk))
          have hj1 : (j : Int) = jj := HJ.out
          have hlt1 : j < n := HLT.out
          go_roundw
          case rel => exact ⟨j + 1, hlt1, by rw [← hj1]; rfl, _, A7.out⟩
          case measure => simp [intOf]; omega
        by_cases hx14 : xs = 14
        · subst hx14
          have HON2 := Lib.hid (fun w1 => (show Calls Tryd.prog 27 #[.agg #[.int .i64 cp, .int .i64 ce, .int .i64 14, .int .i64 ch], .int .i64 xh] w1 fun r w' => r = .returned (.bool true) ∧ Kp w1 w' from HF2.out rfl ▸ onS_any ⟨cp, ce, 14, ch⟩ xh w1))
          go_wp2_with (first | (go_at_call 26; (with_reducible refine HDO.out.mono ?_); rintro e' w4 ⟨rfl, ha, -⟩; have A4 := Lib.hid ha; clear ha) | (go_at_call 24; (with_reducible refine (HS1.out _ A4.out).mono ?_); rintro e' w5 ⟨rfl, hk⟩; have A5 := Lib.hid (A4.out.kp HCC.out hk); clear hk) | (go_at_call 24; (with_reducible refine (HS2.out _ A5.out).mono ?_); rintro e' w6 ⟨rfl, hk⟩; have hk2 := Kp.trans (kp_alloc w6 (.cells #[.int .i64 cp, .int .i64 ce, .int .i64 14, .int .i64 ch] 23)) (kp_alloc (w6.alloc (.cells #[.int .i64 cp, .int .i64 ce, .int .i64 14, .int .i64 ch] 23)) (.cells #[.int .i64 xp, .int .i64 xe, .int .i64 14, .int .i64 xh] 23)); have A6 := Lib.hid (A5.out.kp HCC.out (Kp.trans hk hk2)); have Q1 := Lib.hid (kp_row (kp_alloc (w6.alloc (.cells #[.int .i64 cp, .int .i64 ce, .int .i64 14, .int .i64 ch] 23)) (.cells #[.int .i64 xp, .int .i64 xe, .int .i64 14, .int .i64 xh] 23)) (MapKept.heap_alloc w6 (.cells #[.int .i64 cp, .int .i64 ce, .int .i64 14, .int .i64 ch] 23)).1); have q2 := (MapKept.heap_alloc (w6.alloc (.cells #[.int .i64 cp, .int .i64 ce, .int .i64 14, .int .i64 ch] 23)) (.cells #[.int .i64 xp, .int .i64 xe, .int .i64 14, .int .i64 xh] 23)).1; rw [show (w6.alloc (.cells #[.int .i64 cp, .int .i64 ce, .int .i64 14, .int .i64 ch] 23)).heap.size = w6.heap.size + 1 by simp] at q2; have Q2 := Lib.hid q2; obtain ⟨u0, u1, u2, u3⟩ := cells_4 Q1.out; obtain ⟨v0, v1, v2, v3⟩ := cells_4 Q2.out; clear hk hk2 q2) | (go_at_call 27; (with_reducible refine (HON1.out _).mono ?_); rintro e' w7 ⟨rfl, hk⟩; have A7 := Lib.hid (A6.out.kp HCC.out hk); have Q17 := Lib.hid (kp_row hk Q1.out); have Q27 := Lib.hid (kp_row hk Q2.out); obtain ⟨u60, u61, u62, u63⟩ := cells_4 Q17.out; obtain ⟨v60, v61, v62, v63⟩ := cells_4 Q27.out; clear hk) | (go_at_call 27; (with_reducible refine (HON2.out _).mono ?_); rintro e' w8 ⟨rfl, hk⟩; have A8 := Lib.hid (A7.out.kp HCC.out hk); have Q18 := Lib.hid (kp_row hk Q17.out); have Q28 := Lib.hid (kp_row hk Q27.out); obtain ⟨u70, u71, u72, u73⟩ := cells_4 Q18.out; obtain ⟨v70, v71, v72, v73⟩ := cells_4 Q28.out; clear hk))
          have hj1 : (j : Int) = jj := HJ.out
          have hlt1 : j < n := HLT.out
          go_roundw
          case rel => exact ⟨j + 1, hlt1, by rw [← hj1]; rfl, _, A8.out⟩
          case measure => simp [intOf]; omega
        have bx5 : (xs == 5) = false := by simpa using hx5
        have bx6 : (xs == 6) = false := by simpa using hx6
        have bx7 : (xs == 7) = false := by simpa using hx7
        have bx11 : (xs == 11) = false := by simpa using hx11
        have bx14 : (xs == 14) = false := by simpa using hx14
        clear hx5 hx6 hx7 hx11 hx14
        go_wp2_with (first | (go_at_call 26; (with_reducible refine HDO.out.mono ?_); rintro e' w4 ⟨rfl, ha, -⟩; have A4 := Lib.hid ha; clear ha) | (go_at_call 24; (with_reducible refine (HS1.out _ A4.out).mono ?_); rintro e' w5 ⟨rfl, hk⟩; have A5 := Lib.hid (A4.out.kp HCC.out hk); clear hk) | (go_at_call 24; (with_reducible refine (HS2.out _ A5.out).mono ?_); rintro e' w6 ⟨rfl, hk⟩; have hk2 := Kp.trans (kp_alloc w6 (.cells #[.int .i64 cp, .int .i64 ce, .int .i64 14, .int .i64 ch] 23)) (kp_alloc (w6.alloc (.cells #[.int .i64 cp, .int .i64 ce, .int .i64 14, .int .i64 ch] 23)) (.cells #[.int .i64 xp, .int .i64 xe, .int .i64 xs, .int .i64 xh] 23)); have A6 := Lib.hid (A5.out.kp HCC.out (Kp.trans hk hk2)); have Q1 := Lib.hid (kp_row (kp_alloc (w6.alloc (.cells #[.int .i64 cp, .int .i64 ce, .int .i64 14, .int .i64 ch] 23)) (.cells #[.int .i64 xp, .int .i64 xe, .int .i64 xs, .int .i64 xh] 23)) (MapKept.heap_alloc w6 (.cells #[.int .i64 cp, .int .i64 ce, .int .i64 14, .int .i64 ch] 23)).1); have q2 := (MapKept.heap_alloc (w6.alloc (.cells #[.int .i64 cp, .int .i64 ce, .int .i64 14, .int .i64 ch] 23)) (.cells #[.int .i64 xp, .int .i64 xe, .int .i64 xs, .int .i64 xh] 23)).1; rw [show (w6.alloc (.cells #[.int .i64 cp, .int .i64 ce, .int .i64 14, .int .i64 ch] 23)).heap.size = w6.heap.size + 1 by simp] at q2; have Q2 := Lib.hid q2; obtain ⟨u0, u1, u2, u3⟩ := cells_4 Q1.out; obtain ⟨v0, v1, v2, v3⟩ := cells_4 Q2.out; clear hk hk2 q2) | (go_at_call 27; (with_reducible refine (HON1.out _).mono ?_); rintro e' w7 ⟨rfl, hk⟩; have A7 := Lib.hid (A6.out.kp HCC.out hk); have Q17 := Lib.hid (kp_row hk Q1.out); have Q27 := Lib.hid (kp_row hk Q2.out); obtain ⟨u60, u61, u62, u63⟩ := cells_4 Q17.out; obtain ⟨v60, v61, v62, v63⟩ := cells_4 Q27.out; clear hk))
        have hj1 : (j : Int) = jj := HJ.out
        have hlt1 : j < n := HLT.out
        go_roundw
        case rel => exact ⟨j + 1, hlt1, by rw [← hj1]; rfl, _, A7.out⟩
        case measure => simp [intOf]; omega
      by_cases hc5 : cs = 5
      · subst hc5
        by_cases hx5 : xs = 5
        · subst hx5
          go_wp2_with (first | (go_at_call 26; (with_reducible refine HDO.out.mono ?_); rintro e' w4 ⟨rfl, ha, -⟩; have A4 := Lib.hid ha; clear ha) | (go_at_call 24; (with_reducible refine (HS1.out _ A4.out).mono ?_); rintro e' w5 ⟨rfl, hk⟩; have A5 := Lib.hid (A4.out.kp HCC.out hk); clear hk) | (go_at_call 24; (with_reducible refine (HS2.out _ A5.out).mono ?_); rintro e' w6 ⟨rfl, hk⟩; have hk2 := Kp.trans (kp_alloc w6 (.cells #[.int .i64 cp, .int .i64 ce, .int .i64 5, .int .i64 ch] 23)) (kp_alloc (w6.alloc (.cells #[.int .i64 cp, .int .i64 ce, .int .i64 5, .int .i64 ch] 23)) (.cells #[.int .i64 xp, .int .i64 xe, .int .i64 5, .int .i64 xh] 23)); have A6 := Lib.hid (A5.out.kp HCC.out (Kp.trans hk hk2)); have Q1 := Lib.hid (kp_row (kp_alloc (w6.alloc (.cells #[.int .i64 cp, .int .i64 ce, .int .i64 5, .int .i64 ch] 23)) (.cells #[.int .i64 xp, .int .i64 xe, .int .i64 5, .int .i64 xh] 23)) (MapKept.heap_alloc w6 (.cells #[.int .i64 cp, .int .i64 ce, .int .i64 5, .int .i64 ch] 23)).1); have q2 := (MapKept.heap_alloc (w6.alloc (.cells #[.int .i64 cp, .int .i64 ce, .int .i64 5, .int .i64 ch] 23)) (.cells #[.int .i64 xp, .int .i64 xe, .int .i64 5, .int .i64 xh] 23)).1; rw [show (w6.alloc (.cells #[.int .i64 cp, .int .i64 ce, .int .i64 5, .int .i64 ch] 23)).heap.size = w6.heap.size + 1 by simp] at q2; have Q2 := Lib.hid q2; obtain ⟨u0, u1, u2, u3⟩ := cells_4 Q1.out; obtain ⟨v0, v1, v2, v3⟩ := cells_4 Q2.out; clear hk hk2 q2))
          have hj1 : (j : Int) = jj := HJ.out
          have hlt1 : j < n := HLT.out
          go_roundw
          case rel => exact ⟨j + 1, hlt1, by rw [← hj1]; rfl, _, A6.out⟩
          case measure => simp [intOf]; omega
        by_cases hx6 : xs = 6
        · subst hx6
          go_wp2_with (first | (go_at_call 26; (with_reducible refine HDO.out.mono ?_); rintro e' w4 ⟨rfl, ha, -⟩; have A4 := Lib.hid ha; clear ha) | (go_at_call 24; (with_reducible refine (HS1.out _ A4.out).mono ?_); rintro e' w5 ⟨rfl, hk⟩; have A5 := Lib.hid (A4.out.kp HCC.out hk); clear hk) | (go_at_call 24; (with_reducible refine (HS2.out _ A5.out).mono ?_); rintro e' w6 ⟨rfl, hk⟩; have hk2 := Kp.trans (kp_alloc w6 (.cells #[.int .i64 cp, .int .i64 ce, .int .i64 5, .int .i64 ch] 23)) (kp_alloc (w6.alloc (.cells #[.int .i64 cp, .int .i64 ce, .int .i64 5, .int .i64 ch] 23)) (.cells #[.int .i64 xp, .int .i64 xe, .int .i64 6, .int .i64 xh] 23)); have A6 := Lib.hid (A5.out.kp HCC.out (Kp.trans hk hk2)); have Q1 := Lib.hid (kp_row (kp_alloc (w6.alloc (.cells #[.int .i64 cp, .int .i64 ce, .int .i64 5, .int .i64 ch] 23)) (.cells #[.int .i64 xp, .int .i64 xe, .int .i64 6, .int .i64 xh] 23)) (MapKept.heap_alloc w6 (.cells #[.int .i64 cp, .int .i64 ce, .int .i64 5, .int .i64 ch] 23)).1); have q2 := (MapKept.heap_alloc (w6.alloc (.cells #[.int .i64 cp, .int .i64 ce, .int .i64 5, .int .i64 ch] 23)) (.cells #[.int .i64 xp, .int .i64 xe, .int .i64 6, .int .i64 xh] 23)).1; rw [show (w6.alloc (.cells #[.int .i64 cp, .int .i64 ce, .int .i64 5, .int .i64 ch] 23)).heap.size = w6.heap.size + 1 by simp] at q2; have Q2 := Lib.hid q2; obtain ⟨u0, u1, u2, u3⟩ := cells_4 Q1.out; obtain ⟨v0, v1, v2, v3⟩ := cells_4 Q2.out; clear hk hk2 q2))
          have hj1 : (j : Int) = jj := HJ.out
          have hlt1 : j < n := HLT.out
          go_roundw
          case rel => exact ⟨j + 1, hlt1, by rw [← hj1]; rfl, _, A6.out⟩
          case measure => simp [intOf]; omega
        by_cases hx7 : xs = 7
        · subst hx7
          go_wp2_with (first | (go_at_call 26; (with_reducible refine HDO.out.mono ?_); rintro e' w4 ⟨rfl, ha, -⟩; have A4 := Lib.hid ha; clear ha) | (go_at_call 24; (with_reducible refine (HS1.out _ A4.out).mono ?_); rintro e' w5 ⟨rfl, hk⟩; have A5 := Lib.hid (A4.out.kp HCC.out hk); clear hk) | (go_at_call 24; (with_reducible refine (HS2.out _ A5.out).mono ?_); rintro e' w6 ⟨rfl, hk⟩; have hk2 := Kp.trans (kp_alloc w6 (.cells #[.int .i64 cp, .int .i64 ce, .int .i64 5, .int .i64 ch] 23)) (kp_alloc (w6.alloc (.cells #[.int .i64 cp, .int .i64 ce, .int .i64 5, .int .i64 ch] 23)) (.cells #[.int .i64 xp, .int .i64 xe, .int .i64 7, .int .i64 xh] 23)); have A6 := Lib.hid (A5.out.kp HCC.out (Kp.trans hk hk2)); have Q1 := Lib.hid (kp_row (kp_alloc (w6.alloc (.cells #[.int .i64 cp, .int .i64 ce, .int .i64 5, .int .i64 ch] 23)) (.cells #[.int .i64 xp, .int .i64 xe, .int .i64 7, .int .i64 xh] 23)) (MapKept.heap_alloc w6 (.cells #[.int .i64 cp, .int .i64 ce, .int .i64 5, .int .i64 ch] 23)).1); have q2 := (MapKept.heap_alloc (w6.alloc (.cells #[.int .i64 cp, .int .i64 ce, .int .i64 5, .int .i64 ch] 23)) (.cells #[.int .i64 xp, .int .i64 xe, .int .i64 7, .int .i64 xh] 23)).1; rw [show (w6.alloc (.cells #[.int .i64 cp, .int .i64 ce, .int .i64 5, .int .i64 ch] 23)).heap.size = w6.heap.size + 1 by simp] at q2; have Q2 := Lib.hid q2; obtain ⟨u0, u1, u2, u3⟩ := cells_4 Q1.out; obtain ⟨v0, v1, v2, v3⟩ := cells_4 Q2.out; clear hk hk2 q2))
          have hj1 : (j : Int) = jj := HJ.out
          have hlt1 : j < n := HLT.out
          go_roundw
          case rel => exact ⟨j + 1, hlt1, by rw [← hj1]; rfl, _, A6.out⟩
          case measure => simp [intOf]; omega
        by_cases hx11 : xs = 11
        · subst hx11
          go_wp2_with (first | (go_at_call 26; (with_reducible refine HDO.out.mono ?_); rintro e' w4 ⟨rfl, ha, -⟩; have A4 := Lib.hid ha; clear ha) | (go_at_call 24; (with_reducible refine (HS1.out _ A4.out).mono ?_); rintro e' w5 ⟨rfl, hk⟩; have A5 := Lib.hid (A4.out.kp HCC.out hk); clear hk) | (go_at_call 24; (with_reducible refine (HS2.out _ A5.out).mono ?_); rintro e' w6 ⟨rfl, hk⟩; have hk2 := Kp.trans (kp_alloc w6 (.cells #[.int .i64 cp, .int .i64 ce, .int .i64 5, .int .i64 ch] 23)) (kp_alloc (w6.alloc (.cells #[.int .i64 cp, .int .i64 ce, .int .i64 5, .int .i64 ch] 23)) (.cells #[.int .i64 xp, .int .i64 xe, .int .i64 11, .int .i64 xh] 23)); have A6 := Lib.hid (A5.out.kp HCC.out (Kp.trans hk hk2)); have Q1 := Lib.hid (kp_row (kp_alloc (w6.alloc (.cells #[.int .i64 cp, .int .i64 ce, .int .i64 5, .int .i64 ch] 23)) (.cells #[.int .i64 xp, .int .i64 xe, .int .i64 11, .int .i64 xh] 23)) (MapKept.heap_alloc w6 (.cells #[.int .i64 cp, .int .i64 ce, .int .i64 5, .int .i64 ch] 23)).1); have q2 := (MapKept.heap_alloc (w6.alloc (.cells #[.int .i64 cp, .int .i64 ce, .int .i64 5, .int .i64 ch] 23)) (.cells #[.int .i64 xp, .int .i64 xe, .int .i64 11, .int .i64 xh] 23)).1; rw [show (w6.alloc (.cells #[.int .i64 cp, .int .i64 ce, .int .i64 5, .int .i64 ch] 23)).heap.size = w6.heap.size + 1 by simp] at q2; have Q2 := Lib.hid q2; obtain ⟨u0, u1, u2, u3⟩ := cells_4 Q1.out; obtain ⟨v0, v1, v2, v3⟩ := cells_4 Q2.out; clear hk hk2 q2))
          have hj1 : (j : Int) = jj := HJ.out
          have hlt1 : j < n := HLT.out
          go_roundw
          case rel => exact ⟨j + 1, hlt1, by rw [← hj1]; rfl, _, A6.out⟩
          case measure => simp [intOf]; omega
        by_cases hx14 : xs = 14
        · subst hx14
          have HON2 := Lib.hid (fun w1 => (show Calls Tryd.prog 27 #[.agg #[.int .i64 cp, .int .i64 ce, .int .i64 5, .int .i64 ch], .int .i64 xh] w1 fun r w' => r = .returned (.bool true) ∧ Kp w1 w' from HF2.out rfl ▸ onS_any ⟨cp, ce, 5, ch⟩ xh w1))
          go_wp2_with (first | (go_at_call 26; (with_reducible refine HDO.out.mono ?_); rintro e' w4 ⟨rfl, ha, -⟩; have A4 := Lib.hid ha; clear ha) | (go_at_call 24; (with_reducible refine (HS1.out _ A4.out).mono ?_); rintro e' w5 ⟨rfl, hk⟩; have A5 := Lib.hid (A4.out.kp HCC.out hk); clear hk) | (go_at_call 24; (with_reducible refine (HS2.out _ A5.out).mono ?_); rintro e' w6 ⟨rfl, hk⟩; have hk2 := Kp.trans (kp_alloc w6 (.cells #[.int .i64 cp, .int .i64 ce, .int .i64 5, .int .i64 ch] 23)) (kp_alloc (w6.alloc (.cells #[.int .i64 cp, .int .i64 ce, .int .i64 5, .int .i64 ch] 23)) (.cells #[.int .i64 xp, .int .i64 xe, .int .i64 14, .int .i64 xh] 23)); have A6 := Lib.hid (A5.out.kp HCC.out (Kp.trans hk hk2)); have Q1 := Lib.hid (kp_row (kp_alloc (w6.alloc (.cells #[.int .i64 cp, .int .i64 ce, .int .i64 5, .int .i64 ch] 23)) (.cells #[.int .i64 xp, .int .i64 xe, .int .i64 14, .int .i64 xh] 23)) (MapKept.heap_alloc w6 (.cells #[.int .i64 cp, .int .i64 ce, .int .i64 5, .int .i64 ch] 23)).1); have q2 := (MapKept.heap_alloc (w6.alloc (.cells #[.int .i64 cp, .int .i64 ce, .int .i64 5, .int .i64 ch] 23)) (.cells #[.int .i64 xp, .int .i64 xe, .int .i64 14, .int .i64 xh] 23)).1; rw [show (w6.alloc (.cells #[.int .i64 cp, .int .i64 ce, .int .i64 5, .int .i64 ch] 23)).heap.size = w6.heap.size + 1 by simp] at q2; have Q2 := Lib.hid q2; obtain ⟨u0, u1, u2, u3⟩ := cells_4 Q1.out; obtain ⟨v0, v1, v2, v3⟩ := cells_4 Q2.out; clear hk hk2 q2) | (go_at_call 27; (with_reducible refine (HON2.out _).mono ?_); rintro e' w7 ⟨rfl, hk⟩; have A7 := Lib.hid (A6.out.kp HCC.out hk); have Q17 := Lib.hid (kp_row hk Q1.out); have Q27 := Lib.hid (kp_row hk Q2.out); obtain ⟨u60, u61, u62, u63⟩ := cells_4 Q17.out; obtain ⟨v60, v61, v62, v63⟩ := cells_4 Q27.out; clear hk))
          have hj1 : (j : Int) = jj := HJ.out
          have hlt1 : j < n := HLT.out
          go_roundw
          case rel => exact ⟨j + 1, hlt1, by rw [← hj1]; rfl, _, A7.out⟩
          case measure => simp [intOf]; omega
        exact absurd (HF3.out (by decide)) (by omega)
      by_cases hc6 : cs = 6
      · subst hc6
        by_cases hx5 : xs = 5
        · subst hx5
          go_wp2_with (first | (go_at_call 26; (with_reducible refine HDO.out.mono ?_); rintro e' w4 ⟨rfl, ha, -⟩; have A4 := Lib.hid ha; clear ha) | (go_at_call 24; (with_reducible refine (HS1.out _ A4.out).mono ?_); rintro e' w5 ⟨rfl, hk⟩; have A5 := Lib.hid (A4.out.kp HCC.out hk); clear hk) | (go_at_call 24; (with_reducible refine (HS2.out _ A5.out).mono ?_); rintro e' w6 ⟨rfl, hk⟩; have hk2 := Kp.trans (kp_alloc w6 (.cells #[.int .i64 cp, .int .i64 ce, .int .i64 6, .int .i64 ch] 23)) (kp_alloc (w6.alloc (.cells #[.int .i64 cp, .int .i64 ce, .int .i64 6, .int .i64 ch] 23)) (.cells #[.int .i64 xp, .int .i64 xe, .int .i64 5, .int .i64 xh] 23)); have A6 := Lib.hid (A5.out.kp HCC.out (Kp.trans hk hk2)); have Q1 := Lib.hid (kp_row (kp_alloc (w6.alloc (.cells #[.int .i64 cp, .int .i64 ce, .int .i64 6, .int .i64 ch] 23)) (.cells #[.int .i64 xp, .int .i64 xe, .int .i64 5, .int .i64 xh] 23)) (MapKept.heap_alloc w6 (.cells #[.int .i64 cp, .int .i64 ce, .int .i64 6, .int .i64 ch] 23)).1); have q2 := (MapKept.heap_alloc (w6.alloc (.cells #[.int .i64 cp, .int .i64 ce, .int .i64 6, .int .i64 ch] 23)) (.cells #[.int .i64 xp, .int .i64 xe, .int .i64 5, .int .i64 xh] 23)).1; rw [show (w6.alloc (.cells #[.int .i64 cp, .int .i64 ce, .int .i64 6, .int .i64 ch] 23)).heap.size = w6.heap.size + 1 by simp] at q2; have Q2 := Lib.hid q2; obtain ⟨u0, u1, u2, u3⟩ := cells_4 Q1.out; obtain ⟨v0, v1, v2, v3⟩ := cells_4 Q2.out; clear hk hk2 q2))
          have hj1 : (j : Int) = jj := HJ.out
          have hlt1 : j < n := HLT.out
          go_roundw
          case rel => exact ⟨j + 1, hlt1, by rw [← hj1]; rfl, _, A6.out⟩
          case measure => simp [intOf]; omega
        by_cases hx6 : xs = 6
        · subst hx6
          go_wp2_with (first | (go_at_call 26; (with_reducible refine HDO.out.mono ?_); rintro e' w4 ⟨rfl, ha, -⟩; have A4 := Lib.hid ha; clear ha) | (go_at_call 24; (with_reducible refine (HS1.out _ A4.out).mono ?_); rintro e' w5 ⟨rfl, hk⟩; have A5 := Lib.hid (A4.out.kp HCC.out hk); clear hk) | (go_at_call 24; (with_reducible refine (HS2.out _ A5.out).mono ?_); rintro e' w6 ⟨rfl, hk⟩; have hk2 := Kp.trans (kp_alloc w6 (.cells #[.int .i64 cp, .int .i64 ce, .int .i64 6, .int .i64 ch] 23)) (kp_alloc (w6.alloc (.cells #[.int .i64 cp, .int .i64 ce, .int .i64 6, .int .i64 ch] 23)) (.cells #[.int .i64 xp, .int .i64 xe, .int .i64 6, .int .i64 xh] 23)); have A6 := Lib.hid (A5.out.kp HCC.out (Kp.trans hk hk2)); have Q1 := Lib.hid (kp_row (kp_alloc (w6.alloc (.cells #[.int .i64 cp, .int .i64 ce, .int .i64 6, .int .i64 ch] 23)) (.cells #[.int .i64 xp, .int .i64 xe, .int .i64 6, .int .i64 xh] 23)) (MapKept.heap_alloc w6 (.cells #[.int .i64 cp, .int .i64 ce, .int .i64 6, .int .i64 ch] 23)).1); have q2 := (MapKept.heap_alloc (w6.alloc (.cells #[.int .i64 cp, .int .i64 ce, .int .i64 6, .int .i64 ch] 23)) (.cells #[.int .i64 xp, .int .i64 xe, .int .i64 6, .int .i64 xh] 23)).1; rw [show (w6.alloc (.cells #[.int .i64 cp, .int .i64 ce, .int .i64 6, .int .i64 ch] 23)).heap.size = w6.heap.size + 1 by simp] at q2; have Q2 := Lib.hid q2; obtain ⟨u0, u1, u2, u3⟩ := cells_4 Q1.out; obtain ⟨v0, v1, v2, v3⟩ := cells_4 Q2.out; clear hk hk2 q2))
          have hj1 : (j : Int) = jj := HJ.out
          have hlt1 : j < n := HLT.out
          go_roundw
          case rel => exact ⟨j + 1, hlt1, by rw [← hj1]; rfl, _, A6.out⟩
          case measure => simp [intOf]; omega
        by_cases hx7 : xs = 7
        · subst hx7
          go_wp2_with (first | (go_at_call 26; (with_reducible refine HDO.out.mono ?_); rintro e' w4 ⟨rfl, ha, -⟩; have A4 := Lib.hid ha; clear ha) | (go_at_call 24; (with_reducible refine (HS1.out _ A4.out).mono ?_); rintro e' w5 ⟨rfl, hk⟩; have A5 := Lib.hid (A4.out.kp HCC.out hk); clear hk) | (go_at_call 24; (with_reducible refine (HS2.out _ A5.out).mono ?_); rintro e' w6 ⟨rfl, hk⟩; have hk2 := Kp.trans (kp_alloc w6 (.cells #[.int .i64 cp, .int .i64 ce, .int .i64 6, .int .i64 ch] 23)) (kp_alloc (w6.alloc (.cells #[.int .i64 cp, .int .i64 ce, .int .i64 6, .int .i64 ch] 23)) (.cells #[.int .i64 xp, .int .i64 xe, .int .i64 7, .int .i64 xh] 23)); have A6 := Lib.hid (A5.out.kp HCC.out (Kp.trans hk hk2)); have Q1 := Lib.hid (kp_row (kp_alloc (w6.alloc (.cells #[.int .i64 cp, .int .i64 ce, .int .i64 6, .int .i64 ch] 23)) (.cells #[.int .i64 xp, .int .i64 xe, .int .i64 7, .int .i64 xh] 23)) (MapKept.heap_alloc w6 (.cells #[.int .i64 cp, .int .i64 ce, .int .i64 6, .int .i64 ch] 23)).1); have q2 := (MapKept.heap_alloc (w6.alloc (.cells #[.int .i64 cp, .int .i64 ce, .int .i64 6, .int .i64 ch] 23)) (.cells #[.int .i64 xp, .int .i64 xe, .int .i64 7, .int .i64 xh] 23)).1; rw [show (w6.alloc (.cells #[.int .i64 cp, .int .i64 ce, .int .i64 6, .int .i64 ch] 23)).heap.size = w6.heap.size + 1 by simp] at q2; have Q2 := Lib.hid q2; obtain ⟨u0, u1, u2, u3⟩ := cells_4 Q1.out; obtain ⟨v0, v1, v2, v3⟩ := cells_4 Q2.out; clear hk hk2 q2))
          have hj1 : (j : Int) = jj := HJ.out
          have hlt1 : j < n := HLT.out
          go_roundw
          case rel => exact ⟨j + 1, hlt1, by rw [← hj1]; rfl, _, A6.out⟩
          case measure => simp [intOf]; omega
        by_cases hx11 : xs = 11
        · subst hx11
          go_wp2_with (first | (go_at_call 26; (with_reducible refine HDO.out.mono ?_); rintro e' w4 ⟨rfl, ha, -⟩; have A4 := Lib.hid ha; clear ha) | (go_at_call 24; (with_reducible refine (HS1.out _ A4.out).mono ?_); rintro e' w5 ⟨rfl, hk⟩; have A5 := Lib.hid (A4.out.kp HCC.out hk); clear hk) | (go_at_call 24; (with_reducible refine (HS2.out _ A5.out).mono ?_); rintro e' w6 ⟨rfl, hk⟩; have hk2 := Kp.trans (kp_alloc w6 (.cells #[.int .i64 cp, .int .i64 ce, .int .i64 6, .int .i64 ch] 23)) (kp_alloc (w6.alloc (.cells #[.int .i64 cp, .int .i64 ce, .int .i64 6, .int .i64 ch] 23)) (.cells #[.int .i64 xp, .int .i64 xe, .int .i64 11, .int .i64 xh] 23)); have A6 := Lib.hid (A5.out.kp HCC.out (Kp.trans hk hk2)); have Q1 := Lib.hid (kp_row (kp_alloc (w6.alloc (.cells #[.int .i64 cp, .int .i64 ce, .int .i64 6, .int .i64 ch] 23)) (.cells #[.int .i64 xp, .int .i64 xe, .int .i64 11, .int .i64 xh] 23)) (MapKept.heap_alloc w6 (.cells #[.int .i64 cp, .int .i64 ce, .int .i64 6, .int .i64 ch] 23)).1); have q2 := (MapKept.heap_alloc (w6.alloc (.cells #[.int .i64 cp, .int .i64 ce, .int .i64 6, .int .i64 ch] 23)) (.cells #[.int .i64 xp, .int .i64 xe, .int .i64 11, .int .i64 xh] 23)).1; rw [show (w6.alloc (.cells #[.int .i64 cp, .int .i64 ce, .int .i64 6, .int .i64 ch] 23)).heap.size = w6.heap.size + 1 by simp] at q2; have Q2 := Lib.hid q2; obtain ⟨u0, u1, u2, u3⟩ := cells_4 Q1.out; obtain ⟨v0, v1, v2, v3⟩ := cells_4 Q2.out; clear hk hk2 q2))
          have hj1 : (j : Int) = jj := HJ.out
          have hlt1 : j < n := HLT.out
          go_roundw
          case rel => exact ⟨j + 1, hlt1, by rw [← hj1]; rfl, _, A6.out⟩
          case measure => simp [intOf]; omega
        by_cases hx14 : xs = 14
        · subst hx14
          have HON2 := Lib.hid (fun w1 => (show Calls Tryd.prog 27 #[.agg #[.int .i64 cp, .int .i64 ce, .int .i64 6, .int .i64 ch], .int .i64 xh] w1 fun r w' => r = .returned (.bool true) ∧ Kp w1 w' from HF2.out rfl ▸ onS_any ⟨cp, ce, 6, ch⟩ xh w1))
          go_wp2_with (first | (go_at_call 26; (with_reducible refine HDO.out.mono ?_); rintro e' w4 ⟨rfl, ha, -⟩; have A4 := Lib.hid ha; clear ha) | (go_at_call 24; (with_reducible refine (HS1.out _ A4.out).mono ?_); rintro e' w5 ⟨rfl, hk⟩; have A5 := Lib.hid (A4.out.kp HCC.out hk); clear hk) | (go_at_call 24; (with_reducible refine (HS2.out _ A5.out).mono ?_); rintro e' w6 ⟨rfl, hk⟩; have hk2 := Kp.trans (kp_alloc w6 (.cells #[.int .i64 cp, .int .i64 ce, .int .i64 6, .int .i64 ch] 23)) (kp_alloc (w6.alloc (.cells #[.int .i64 cp, .int .i64 ce, .int .i64 6, .int .i64 ch] 23)) (.cells #[.int .i64 xp, .int .i64 xe, .int .i64 14, .int .i64 xh] 23)); have A6 := Lib.hid (A5.out.kp HCC.out (Kp.trans hk hk2)); have Q1 := Lib.hid (kp_row (kp_alloc (w6.alloc (.cells #[.int .i64 cp, .int .i64 ce, .int .i64 6, .int .i64 ch] 23)) (.cells #[.int .i64 xp, .int .i64 xe, .int .i64 14, .int .i64 xh] 23)) (MapKept.heap_alloc w6 (.cells #[.int .i64 cp, .int .i64 ce, .int .i64 6, .int .i64 ch] 23)).1); have q2 := (MapKept.heap_alloc (w6.alloc (.cells #[.int .i64 cp, .int .i64 ce, .int .i64 6, .int .i64 ch] 23)) (.cells #[.int .i64 xp, .int .i64 xe, .int .i64 14, .int .i64 xh] 23)).1; rw [show (w6.alloc (.cells #[.int .i64 cp, .int .i64 ce, .int .i64 6, .int .i64 ch] 23)).heap.size = w6.heap.size + 1 by simp] at q2; have Q2 := Lib.hid q2; obtain ⟨u0, u1, u2, u3⟩ := cells_4 Q1.out; obtain ⟨v0, v1, v2, v3⟩ := cells_4 Q2.out; clear hk hk2 q2) | (go_at_call 27; (with_reducible refine (HON2.out _).mono ?_); rintro e' w7 ⟨rfl, hk⟩; have A7 := Lib.hid (A6.out.kp HCC.out hk); have Q17 := Lib.hid (kp_row hk Q1.out); have Q27 := Lib.hid (kp_row hk Q2.out); obtain ⟨u60, u61, u62, u63⟩ := cells_4 Q17.out; obtain ⟨v60, v61, v62, v63⟩ := cells_4 Q27.out; clear hk))
          have hj1 : (j : Int) = jj := HJ.out
          have hlt1 : j < n := HLT.out
          go_roundw
          case rel => exact ⟨j + 1, hlt1, by rw [← hj1]; rfl, _, A7.out⟩
          case measure => simp [intOf]; omega
        exact absurd (HF3.out (by decide)) (by omega)
      by_cases hc7 : cs = 7
      · subst hc7
        by_cases hx5 : xs = 5
        · subst hx5
          go_wp2_with (first | (go_at_call 26; (with_reducible refine HDO.out.mono ?_); rintro e' w4 ⟨rfl, ha, -⟩; have A4 := Lib.hid ha; clear ha) | (go_at_call 24; (with_reducible refine (HS1.out _ A4.out).mono ?_); rintro e' w5 ⟨rfl, hk⟩; have A5 := Lib.hid (A4.out.kp HCC.out hk); clear hk) | (go_at_call 24; (with_reducible refine (HS2.out _ A5.out).mono ?_); rintro e' w6 ⟨rfl, hk⟩; have hk2 := Kp.trans (kp_alloc w6 (.cells #[.int .i64 cp, .int .i64 ce, .int .i64 7, .int .i64 ch] 23)) (kp_alloc (w6.alloc (.cells #[.int .i64 cp, .int .i64 ce, .int .i64 7, .int .i64 ch] 23)) (.cells #[.int .i64 xp, .int .i64 xe, .int .i64 5, .int .i64 xh] 23)); have A6 := Lib.hid (A5.out.kp HCC.out (Kp.trans hk hk2)); have Q1 := Lib.hid (kp_row (kp_alloc (w6.alloc (.cells #[.int .i64 cp, .int .i64 ce, .int .i64 7, .int .i64 ch] 23)) (.cells #[.int .i64 xp, .int .i64 xe, .int .i64 5, .int .i64 xh] 23)) (MapKept.heap_alloc w6 (.cells #[.int .i64 cp, .int .i64 ce, .int .i64 7, .int .i64 ch] 23)).1); have q2 := (MapKept.heap_alloc (w6.alloc (.cells #[.int .i64 cp, .int .i64 ce, .int .i64 7, .int .i64 ch] 23)) (.cells #[.int .i64 xp, .int .i64 xe, .int .i64 5, .int .i64 xh] 23)).1; rw [show (w6.alloc (.cells #[.int .i64 cp, .int .i64 ce, .int .i64 7, .int .i64 ch] 23)).heap.size = w6.heap.size + 1 by simp] at q2; have Q2 := Lib.hid q2; obtain ⟨u0, u1, u2, u3⟩ := cells_4 Q1.out; obtain ⟨v0, v1, v2, v3⟩ := cells_4 Q2.out; clear hk hk2 q2))
          have hj1 : (j : Int) = jj := HJ.out
          have hlt1 : j < n := HLT.out
          go_roundw
          case rel => exact ⟨j + 1, hlt1, by rw [← hj1]; rfl, _, A6.out⟩
          case measure => simp [intOf]; omega
        by_cases hx6 : xs = 6
        · subst hx6
          go_wp2_with (first | (go_at_call 26; (with_reducible refine HDO.out.mono ?_); rintro e' w4 ⟨rfl, ha, -⟩; have A4 := Lib.hid ha; clear ha) | (go_at_call 24; (with_reducible refine (HS1.out _ A4.out).mono ?_); rintro e' w5 ⟨rfl, hk⟩; have A5 := Lib.hid (A4.out.kp HCC.out hk); clear hk) | (go_at_call 24; (with_reducible refine (HS2.out _ A5.out).mono ?_); rintro e' w6 ⟨rfl, hk⟩; have hk2 := Kp.trans (kp_alloc w6 (.cells #[.int .i64 cp, .int .i64 ce, .int .i64 7, .int .i64 ch] 23)) (kp_alloc (w6.alloc (.cells #[.int .i64 cp, .int .i64 ce, .int .i64 7, .int .i64 ch] 23)) (.cells #[.int .i64 xp, .int .i64 xe, .int .i64 6, .int .i64 xh] 23)); have A6 := Lib.hid (A5.out.kp HCC.out (Kp.trans hk hk2)); have Q1 := Lib.hid (kp_row (kp_alloc (w6.alloc (.cells #[.int .i64 cp, .int .i64 ce, .int .i64 7, .int .i64 ch] 23)) (.cells #[.int .i64 xp, .int .i64 xe, .int .i64 6, .int .i64 xh] 23)) (MapKept.heap_alloc w6 (.cells #[.int .i64 cp, .int .i64 ce, .int .i64 7, .int .i64 ch] 23)).1); have q2 := (MapKept.heap_alloc (w6.alloc (.cells #[.int .i64 cp, .int .i64 ce, .int .i64 7, .int .i64 ch] 23)) (.cells #[.int .i64 xp, .int .i64 xe, .int .i64 6, .int .i64 xh] 23)).1; rw [show (w6.alloc (.cells #[.int .i64 cp, .int .i64 ce, .int .i64 7, .int .i64 ch] 23)).heap.size = w6.heap.size + 1 by simp] at q2; have Q2 := Lib.hid q2; obtain ⟨u0, u1, u2, u3⟩ := cells_4 Q1.out; obtain ⟨v0, v1, v2, v3⟩ := cells_4 Q2.out; clear hk hk2 q2))
          have hj1 : (j : Int) = jj := HJ.out
          have hlt1 : j < n := HLT.out
          go_roundw
          case rel => exact ⟨j + 1, hlt1, by rw [← hj1]; rfl, _, A6.out⟩
          case measure => simp [intOf]; omega
        by_cases hx7 : xs = 7
        · subst hx7
          go_wp2_with (first | (go_at_call 26; (with_reducible refine HDO.out.mono ?_); rintro e' w4 ⟨rfl, ha, -⟩; have A4 := Lib.hid ha; clear ha) | (go_at_call 24; (with_reducible refine (HS1.out _ A4.out).mono ?_); rintro e' w5 ⟨rfl, hk⟩; have A5 := Lib.hid (A4.out.kp HCC.out hk); clear hk) | (go_at_call 24; (with_reducible refine (HS2.out _ A5.out).mono ?_); rintro e' w6 ⟨rfl, hk⟩; have hk2 := Kp.trans (kp_alloc w6 (.cells #[.int .i64 cp, .int .i64 ce, .int .i64 7, .int .i64 ch] 23)) (kp_alloc (w6.alloc (.cells #[.int .i64 cp, .int .i64 ce, .int .i64 7, .int .i64 ch] 23)) (.cells #[.int .i64 xp, .int .i64 xe, .int .i64 7, .int .i64 xh] 23)); have A6 := Lib.hid (A5.out.kp HCC.out (Kp.trans hk hk2)); have Q1 := Lib.hid (kp_row (kp_alloc (w6.alloc (.cells #[.int .i64 cp, .int .i64 ce, .int .i64 7, .int .i64 ch] 23)) (.cells #[.int .i64 xp, .int .i64 xe, .int .i64 7, .int .i64 xh] 23)) (MapKept.heap_alloc w6 (.cells #[.int .i64 cp, .int .i64 ce, .int .i64 7, .int .i64 ch] 23)).1); have q2 := (MapKept.heap_alloc (w6.alloc (.cells #[.int .i64 cp, .int .i64 ce, .int .i64 7, .int .i64 ch] 23)) (.cells #[.int .i64 xp, .int .i64 xe, .int .i64 7, .int .i64 xh] 23)).1; rw [show (w6.alloc (.cells #[.int .i64 cp, .int .i64 ce, .int .i64 7, .int .i64 ch] 23)).heap.size = w6.heap.size + 1 by simp] at q2; have Q2 := Lib.hid q2; obtain ⟨u0, u1, u2, u3⟩ := cells_4 Q1.out; obtain ⟨v0, v1, v2, v3⟩ := cells_4 Q2.out; clear hk hk2 q2))
          have hj1 : (j : Int) = jj := HJ.out
          have hlt1 : j < n := HLT.out
          go_roundw
          case rel => exact ⟨j + 1, hlt1, by rw [← hj1]; rfl, _, A6.out⟩
          case measure => simp [intOf]; omega
        by_cases hx11 : xs = 11
        · subst hx11
          go_wp2_with (first | (go_at_call 26; (with_reducible refine HDO.out.mono ?_); rintro e' w4 ⟨rfl, ha, -⟩; have A4 := Lib.hid ha; clear ha) | (go_at_call 24; (with_reducible refine (HS1.out _ A4.out).mono ?_); rintro e' w5 ⟨rfl, hk⟩; have A5 := Lib.hid (A4.out.kp HCC.out hk); clear hk) | (go_at_call 24; (with_reducible refine (HS2.out _ A5.out).mono ?_); rintro e' w6 ⟨rfl, hk⟩; have hk2 := Kp.trans (kp_alloc w6 (.cells #[.int .i64 cp, .int .i64 ce, .int .i64 7, .int .i64 ch] 23)) (kp_alloc (w6.alloc (.cells #[.int .i64 cp, .int .i64 ce, .int .i64 7, .int .i64 ch] 23)) (.cells #[.int .i64 xp, .int .i64 xe, .int .i64 11, .int .i64 xh] 23)); have A6 := Lib.hid (A5.out.kp HCC.out (Kp.trans hk hk2)); have Q1 := Lib.hid (kp_row (kp_alloc (w6.alloc (.cells #[.int .i64 cp, .int .i64 ce, .int .i64 7, .int .i64 ch] 23)) (.cells #[.int .i64 xp, .int .i64 xe, .int .i64 11, .int .i64 xh] 23)) (MapKept.heap_alloc w6 (.cells #[.int .i64 cp, .int .i64 ce, .int .i64 7, .int .i64 ch] 23)).1); have q2 := (MapKept.heap_alloc (w6.alloc (.cells #[.int .i64 cp, .int .i64 ce, .int .i64 7, .int .i64 ch] 23)) (.cells #[.int .i64 xp, .int .i64 xe, .int .i64 11, .int .i64 xh] 23)).1; rw [show (w6.alloc (.cells #[.int .i64 cp, .int .i64 ce, .int .i64 7, .int .i64 ch] 23)).heap.size = w6.heap.size + 1 by simp] at q2; have Q2 := Lib.hid q2; obtain ⟨u0, u1, u2, u3⟩ := cells_4 Q1.out; obtain ⟨v0, v1, v2, v3⟩ := cells_4 Q2.out; clear hk hk2 q2))
          have hj1 : (j : Int) = jj := HJ.out
          have hlt1 : j < n := HLT.out
          go_roundw
          case rel => exact ⟨j + 1, hlt1, by rw [← hj1]; rfl, _, A6.out⟩
          case measure => simp [intOf]; omega
        by_cases hx14 : xs = 14
        · subst hx14
          have HON2 := Lib.hid (fun w1 => (show Calls Tryd.prog 27 #[.agg #[.int .i64 cp, .int .i64 ce, .int .i64 7, .int .i64 ch], .int .i64 xh] w1 fun r w' => r = .returned (.bool true) ∧ Kp w1 w' from HF2.out rfl ▸ onS_any ⟨cp, ce, 7, ch⟩ xh w1))
          go_wp2_with (first | (go_at_call 26; (with_reducible refine HDO.out.mono ?_); rintro e' w4 ⟨rfl, ha, -⟩; have A4 := Lib.hid ha; clear ha) | (go_at_call 24; (with_reducible refine (HS1.out _ A4.out).mono ?_); rintro e' w5 ⟨rfl, hk⟩; have A5 := Lib.hid (A4.out.kp HCC.out hk); clear hk) | (go_at_call 24; (with_reducible refine (HS2.out _ A5.out).mono ?_); rintro e' w6 ⟨rfl, hk⟩; have hk2 := Kp.trans (kp_alloc w6 (.cells #[.int .i64 cp, .int .i64 ce, .int .i64 7, .int .i64 ch] 23)) (kp_alloc (w6.alloc (.cells #[.int .i64 cp, .int .i64 ce, .int .i64 7, .int .i64 ch] 23)) (.cells #[.int .i64 xp, .int .i64 xe, .int .i64 14, .int .i64 xh] 23)); have A6 := Lib.hid (A5.out.kp HCC.out (Kp.trans hk hk2)); have Q1 := Lib.hid (kp_row (kp_alloc (w6.alloc (.cells #[.int .i64 cp, .int .i64 ce, .int .i64 7, .int .i64 ch] 23)) (.cells #[.int .i64 xp, .int .i64 xe, .int .i64 14, .int .i64 xh] 23)) (MapKept.heap_alloc w6 (.cells #[.int .i64 cp, .int .i64 ce, .int .i64 7, .int .i64 ch] 23)).1); have q2 := (MapKept.heap_alloc (w6.alloc (.cells #[.int .i64 cp, .int .i64 ce, .int .i64 7, .int .i64 ch] 23)) (.cells #[.int .i64 xp, .int .i64 xe, .int .i64 14, .int .i64 xh] 23)).1; rw [show (w6.alloc (.cells #[.int .i64 cp, .int .i64 ce, .int .i64 7, .int .i64 ch] 23)).heap.size = w6.heap.size + 1 by simp] at q2; have Q2 := Lib.hid q2; obtain ⟨u0, u1, u2, u3⟩ := cells_4 Q1.out; obtain ⟨v0, v1, v2, v3⟩ := cells_4 Q2.out; clear hk hk2 q2) | (go_at_call 27; (with_reducible refine (HON2.out _).mono ?_); rintro e' w7 ⟨rfl, hk⟩; have A7 := Lib.hid (A6.out.kp HCC.out hk); have Q17 := Lib.hid (kp_row hk Q1.out); have Q27 := Lib.hid (kp_row hk Q2.out); obtain ⟨u60, u61, u62, u63⟩ := cells_4 Q17.out; obtain ⟨v60, v61, v62, v63⟩ := cells_4 Q27.out; clear hk))
          have hj1 : (j : Int) = jj := HJ.out
          have hlt1 : j < n := HLT.out
          go_roundw
          case rel => exact ⟨j + 1, hlt1, by rw [← hj1]; rfl, _, A7.out⟩
          case measure => simp [intOf]; omega
        exact absurd (HF3.out (by decide)) (by omega)
      have bc14 : (cs == 14) = false := by simpa using hc14
      have bc5 : (cs == 5) = false := by simpa using hc5
      have bc6 : (cs == 6) = false := by simpa using hc6
      have bc7 : (cs == 7) = false := by simpa using hc7
      clear hc14 hc5 hc6 hc7
      by_cases hx5 : xs = 5
      · subst hx5
        go_wp2_with (first | (go_at_call 26; (with_reducible refine HDO.out.mono ?_); rintro e' w4 ⟨rfl, ha, -⟩; have A4 := Lib.hid ha; clear ha) | (go_at_call 24; (with_reducible refine (HS1.out _ A4.out).mono ?_); rintro e' w5 ⟨rfl, hk⟩; have A5 := Lib.hid (A4.out.kp HCC.out hk); clear hk) | (go_at_call 24; (with_reducible refine (HS2.out _ A5.out).mono ?_); rintro e' w6 ⟨rfl, hk⟩; have hk2 := Kp.trans (kp_alloc w6 (.cells #[.int .i64 cp, .int .i64 ce, .int .i64 cs, .int .i64 ch] 23)) (kp_alloc (w6.alloc (.cells #[.int .i64 cp, .int .i64 ce, .int .i64 cs, .int .i64 ch] 23)) (.cells #[.int .i64 xp, .int .i64 xe, .int .i64 5, .int .i64 xh] 23)); have A6 := Lib.hid (A5.out.kp HCC.out (Kp.trans hk hk2)); have Q1 := Lib.hid (kp_row (kp_alloc (w6.alloc (.cells #[.int .i64 cp, .int .i64 ce, .int .i64 cs, .int .i64 ch] 23)) (.cells #[.int .i64 xp, .int .i64 xe, .int .i64 5, .int .i64 xh] 23)) (MapKept.heap_alloc w6 (.cells #[.int .i64 cp, .int .i64 ce, .int .i64 cs, .int .i64 ch] 23)).1); have q2 := (MapKept.heap_alloc (w6.alloc (.cells #[.int .i64 cp, .int .i64 ce, .int .i64 cs, .int .i64 ch] 23)) (.cells #[.int .i64 xp, .int .i64 xe, .int .i64 5, .int .i64 xh] 23)).1; rw [show (w6.alloc (.cells #[.int .i64 cp, .int .i64 ce, .int .i64 cs, .int .i64 ch] 23)).heap.size = w6.heap.size + 1 by simp] at q2; have Q2 := Lib.hid q2; obtain ⟨u0, u1, u2, u3⟩ := cells_4 Q1.out; obtain ⟨v0, v1, v2, v3⟩ := cells_4 Q2.out; clear hk hk2 q2))
        have hj1 : (j : Int) = jj := HJ.out
        have hlt1 : j < n := HLT.out
        go_roundw
        case rel => exact ⟨j + 1, hlt1, by rw [← hj1]; rfl, _, A6.out⟩
        case measure => simp [intOf]; omega
      by_cases hx6 : xs = 6
      · subst hx6
        go_wp2_with (first | (go_at_call 26; (with_reducible refine HDO.out.mono ?_); rintro e' w4 ⟨rfl, ha, -⟩; have A4 := Lib.hid ha; clear ha) | (go_at_call 24; (with_reducible refine (HS1.out _ A4.out).mono ?_); rintro e' w5 ⟨rfl, hk⟩; have A5 := Lib.hid (A4.out.kp HCC.out hk); clear hk) | (go_at_call 24; (with_reducible refine (HS2.out _ A5.out).mono ?_); rintro e' w6 ⟨rfl, hk⟩; have hk2 := Kp.trans (kp_alloc w6 (.cells #[.int .i64 cp, .int .i64 ce, .int .i64 cs, .int .i64 ch] 23)) (kp_alloc (w6.alloc (.cells #[.int .i64 cp, .int .i64 ce, .int .i64 cs, .int .i64 ch] 23)) (.cells #[.int .i64 xp, .int .i64 xe, .int .i64 6, .int .i64 xh] 23)); have A6 := Lib.hid (A5.out.kp HCC.out (Kp.trans hk hk2)); have Q1 := Lib.hid (kp_row (kp_alloc (w6.alloc (.cells #[.int .i64 cp, .int .i64 ce, .int .i64 cs, .int .i64 ch] 23)) (.cells #[.int .i64 xp, .int .i64 xe, .int .i64 6, .int .i64 xh] 23)) (MapKept.heap_alloc w6 (.cells #[.int .i64 cp, .int .i64 ce, .int .i64 cs, .int .i64 ch] 23)).1); have q2 := (MapKept.heap_alloc (w6.alloc (.cells #[.int .i64 cp, .int .i64 ce, .int .i64 cs, .int .i64 ch] 23)) (.cells #[.int .i64 xp, .int .i64 xe, .int .i64 6, .int .i64 xh] 23)).1; rw [show (w6.alloc (.cells #[.int .i64 cp, .int .i64 ce, .int .i64 cs, .int .i64 ch] 23)).heap.size = w6.heap.size + 1 by simp] at q2; have Q2 := Lib.hid q2; obtain ⟨u0, u1, u2, u3⟩ := cells_4 Q1.out; obtain ⟨v0, v1, v2, v3⟩ := cells_4 Q2.out; clear hk hk2 q2))
        have hj1 : (j : Int) = jj := HJ.out
        have hlt1 : j < n := HLT.out
        go_roundw
        case rel => exact ⟨j + 1, hlt1, by rw [← hj1]; rfl, _, A6.out⟩
        case measure => simp [intOf]; omega
      by_cases hx7 : xs = 7
      · subst hx7
        go_wp2_with (first | (go_at_call 26; (with_reducible refine HDO.out.mono ?_); rintro e' w4 ⟨rfl, ha, -⟩; have A4 := Lib.hid ha; clear ha) | (go_at_call 24; (with_reducible refine (HS1.out _ A4.out).mono ?_); rintro e' w5 ⟨rfl, hk⟩; have A5 := Lib.hid (A4.out.kp HCC.out hk); clear hk) | (go_at_call 24; (with_reducible refine (HS2.out _ A5.out).mono ?_); rintro e' w6 ⟨rfl, hk⟩; have hk2 := Kp.trans (kp_alloc w6 (.cells #[.int .i64 cp, .int .i64 ce, .int .i64 cs, .int .i64 ch] 23)) (kp_alloc (w6.alloc (.cells #[.int .i64 cp, .int .i64 ce, .int .i64 cs, .int .i64 ch] 23)) (.cells #[.int .i64 xp, .int .i64 xe, .int .i64 7, .int .i64 xh] 23)); have A6 := Lib.hid (A5.out.kp HCC.out (Kp.trans hk hk2)); have Q1 := Lib.hid (kp_row (kp_alloc (w6.alloc (.cells #[.int .i64 cp, .int .i64 ce, .int .i64 cs, .int .i64 ch] 23)) (.cells #[.int .i64 xp, .int .i64 xe, .int .i64 7, .int .i64 xh] 23)) (MapKept.heap_alloc w6 (.cells #[.int .i64 cp, .int .i64 ce, .int .i64 cs, .int .i64 ch] 23)).1); have q2 := (MapKept.heap_alloc (w6.alloc (.cells #[.int .i64 cp, .int .i64 ce, .int .i64 cs, .int .i64 ch] 23)) (.cells #[.int .i64 xp, .int .i64 xe, .int .i64 7, .int .i64 xh] 23)).1; rw [show (w6.alloc (.cells #[.int .i64 cp, .int .i64 ce, .int .i64 cs, .int .i64 ch] 23)).heap.size = w6.heap.size + 1 by simp] at q2; have Q2 := Lib.hid q2; obtain ⟨u0, u1, u2, u3⟩ := cells_4 Q1.out; obtain ⟨v0, v1, v2, v3⟩ := cells_4 Q2.out; clear hk hk2 q2))
        have hj1 : (j : Int) = jj := HJ.out
        have hlt1 : j < n := HLT.out
        go_roundw
        case rel => exact ⟨j + 1, hlt1, by rw [← hj1]; rfl, _, A6.out⟩
        case measure => simp [intOf]; omega
      by_cases hx11 : xs = 11
      · subst hx11
        go_wp2_with (first | (go_at_call 26; (with_reducible refine HDO.out.mono ?_); rintro e' w4 ⟨rfl, ha, -⟩; have A4 := Lib.hid ha; clear ha) | (go_at_call 24; (with_reducible refine (HS1.out _ A4.out).mono ?_); rintro e' w5 ⟨rfl, hk⟩; have A5 := Lib.hid (A4.out.kp HCC.out hk); clear hk) | (go_at_call 24; (with_reducible refine (HS2.out _ A5.out).mono ?_); rintro e' w6 ⟨rfl, hk⟩; have hk2 := Kp.trans (kp_alloc w6 (.cells #[.int .i64 cp, .int .i64 ce, .int .i64 cs, .int .i64 ch] 23)) (kp_alloc (w6.alloc (.cells #[.int .i64 cp, .int .i64 ce, .int .i64 cs, .int .i64 ch] 23)) (.cells #[.int .i64 xp, .int .i64 xe, .int .i64 11, .int .i64 xh] 23)); have A6 := Lib.hid (A5.out.kp HCC.out (Kp.trans hk hk2)); have Q1 := Lib.hid (kp_row (kp_alloc (w6.alloc (.cells #[.int .i64 cp, .int .i64 ce, .int .i64 cs, .int .i64 ch] 23)) (.cells #[.int .i64 xp, .int .i64 xe, .int .i64 11, .int .i64 xh] 23)) (MapKept.heap_alloc w6 (.cells #[.int .i64 cp, .int .i64 ce, .int .i64 cs, .int .i64 ch] 23)).1); have q2 := (MapKept.heap_alloc (w6.alloc (.cells #[.int .i64 cp, .int .i64 ce, .int .i64 cs, .int .i64 ch] 23)) (.cells #[.int .i64 xp, .int .i64 xe, .int .i64 11, .int .i64 xh] 23)).1; rw [show (w6.alloc (.cells #[.int .i64 cp, .int .i64 ce, .int .i64 cs, .int .i64 ch] 23)).heap.size = w6.heap.size + 1 by simp] at q2; have Q2 := Lib.hid q2; obtain ⟨u0, u1, u2, u3⟩ := cells_4 Q1.out; obtain ⟨v0, v1, v2, v3⟩ := cells_4 Q2.out; clear hk hk2 q2))
        have hj1 : (j : Int) = jj := HJ.out
        have hlt1 : j < n := HLT.out
        go_roundw
        case rel => exact ⟨j + 1, hlt1, by rw [← hj1]; rfl, _, A6.out⟩
        case measure => simp [intOf]; omega
      by_cases hx14 : xs = 14
      · subst hx14
        have HON2 := Lib.hid (fun w1 => (show Calls Tryd.prog 27 #[.agg #[.int .i64 cp, .int .i64 ce, .int .i64 cs, .int .i64 ch], .int .i64 xh] w1 fun r w' => r = .returned (.bool true) ∧ Kp w1 w' from HF2.out rfl ▸ onS_any ⟨cp, ce, cs, ch⟩ xh w1))
        go_wp2_with (first | (go_at_call 26; (with_reducible refine HDO.out.mono ?_); rintro e' w4 ⟨rfl, ha, -⟩; have A4 := Lib.hid ha; clear ha) | (go_at_call 24; (with_reducible refine (HS1.out _ A4.out).mono ?_); rintro e' w5 ⟨rfl, hk⟩; have A5 := Lib.hid (A4.out.kp HCC.out hk); clear hk) | (go_at_call 24; (with_reducible refine (HS2.out _ A5.out).mono ?_); rintro e' w6 ⟨rfl, hk⟩; have hk2 := Kp.trans (kp_alloc w6 (.cells #[.int .i64 cp, .int .i64 ce, .int .i64 cs, .int .i64 ch] 23)) (kp_alloc (w6.alloc (.cells #[.int .i64 cp, .int .i64 ce, .int .i64 cs, .int .i64 ch] 23)) (.cells #[.int .i64 xp, .int .i64 xe, .int .i64 14, .int .i64 xh] 23)); have A6 := Lib.hid (A5.out.kp HCC.out (Kp.trans hk hk2)); have Q1 := Lib.hid (kp_row (kp_alloc (w6.alloc (.cells #[.int .i64 cp, .int .i64 ce, .int .i64 cs, .int .i64 ch] 23)) (.cells #[.int .i64 xp, .int .i64 xe, .int .i64 14, .int .i64 xh] 23)) (MapKept.heap_alloc w6 (.cells #[.int .i64 cp, .int .i64 ce, .int .i64 cs, .int .i64 ch] 23)).1); have q2 := (MapKept.heap_alloc (w6.alloc (.cells #[.int .i64 cp, .int .i64 ce, .int .i64 cs, .int .i64 ch] 23)) (.cells #[.int .i64 xp, .int .i64 xe, .int .i64 14, .int .i64 xh] 23)).1; rw [show (w6.alloc (.cells #[.int .i64 cp, .int .i64 ce, .int .i64 cs, .int .i64 ch] 23)).heap.size = w6.heap.size + 1 by simp] at q2; have Q2 := Lib.hid q2; obtain ⟨u0, u1, u2, u3⟩ := cells_4 Q1.out; obtain ⟨v0, v1, v2, v3⟩ := cells_4 Q2.out; clear hk hk2 q2) | (go_at_call 27; (with_reducible refine (HON2.out _).mono ?_); rintro e' w7 ⟨rfl, hk⟩; have A7 := Lib.hid (A6.out.kp HCC.out hk); have Q17 := Lib.hid (kp_row hk Q1.out); have Q27 := Lib.hid (kp_row hk Q2.out); obtain ⟨u60, u61, u62, u63⟩ := cells_4 Q17.out; obtain ⟨v60, v61, v62, v63⟩ := cells_4 Q27.out; clear hk))
        have hj1 : (j : Int) = jj := HJ.out
        have hlt1 : j < n := HLT.out
        go_roundw
        case rel => exact ⟨j + 1, hlt1, by rw [← hj1]; rfl, _, A7.out⟩
        case measure => simp [intOf]; omega
      have bx5 : (xs == 5) = false := by simpa using hx5
      have bx6 : (xs == 6) = false := by simpa using hx6
      have bx7 : (xs == 7) = false := by simpa using hx7
      have bx11 : (xs == 11) = false := by simpa using hx11
      have bx14 : (xs == 14) = false := by simpa using hx14
      clear hx5 hx6 hx7 hx11 hx14
      go_wp2_with (first | (go_at_call 26; (with_reducible refine HDO.out.mono ?_); rintro e' w4 ⟨rfl, ha, -⟩; have A4 := Lib.hid ha; clear ha) | (go_at_call 24; (with_reducible refine (HS1.out _ A4.out).mono ?_); rintro e' w5 ⟨rfl, hk⟩; have A5 := Lib.hid (A4.out.kp HCC.out hk); clear hk) | (go_at_call 24; (with_reducible refine (HS2.out _ A5.out).mono ?_); rintro e' w6 ⟨rfl, hk⟩; have hk2 := Kp.trans (kp_alloc w6 (.cells #[.int .i64 cp, .int .i64 ce, .int .i64 cs, .int .i64 ch] 23)) (kp_alloc (w6.alloc (.cells #[.int .i64 cp, .int .i64 ce, .int .i64 cs, .int .i64 ch] 23)) (.cells #[.int .i64 xp, .int .i64 xe, .int .i64 xs, .int .i64 xh] 23)); have A6 := Lib.hid (A5.out.kp HCC.out (Kp.trans hk hk2)); have Q1 := Lib.hid (kp_row (kp_alloc (w6.alloc (.cells #[.int .i64 cp, .int .i64 ce, .int .i64 cs, .int .i64 ch] 23)) (.cells #[.int .i64 xp, .int .i64 xe, .int .i64 xs, .int .i64 xh] 23)) (MapKept.heap_alloc w6 (.cells #[.int .i64 cp, .int .i64 ce, .int .i64 cs, .int .i64 ch] 23)).1); have q2 := (MapKept.heap_alloc (w6.alloc (.cells #[.int .i64 cp, .int .i64 ce, .int .i64 cs, .int .i64 ch] 23)) (.cells #[.int .i64 xp, .int .i64 xe, .int .i64 xs, .int .i64 xh] 23)).1; rw [show (w6.alloc (.cells #[.int .i64 cp, .int .i64 ce, .int .i64 cs, .int .i64 ch] 23)).heap.size = w6.heap.size + 1 by simp] at q2; have Q2 := Lib.hid q2; obtain ⟨u0, u1, u2, u3⟩ := cells_4 Q1.out; obtain ⟨v0, v1, v2, v3⟩ := cells_4 Q2.out; clear hk hk2 q2))
      have hj1 : (j : Int) = jj := HJ.out
      have hlt1 : j < n := HLT.out
      go_roundw
      case rel => exact ⟨j + 1, hlt1, by rw [← hj1]; rfl, _, A6.out⟩
      case measure => simp [intOf]; omega
    · have hex : ¬ jj < nn := by omega
      clear hjj hj hlt hnn
      go_wp2
      go_ret
      exact ⟨rfl, A.out.base⟩
theorem safe_any (p : Int) (v : Value) (os : List OpD) (w : World) (ip : i64M p) (hs : SlM v os w) (C : MovC ads w J) : Calls Tryd.prog 5 #[.int .i64 p, v] w fun r w' => r = .returned (.bool true) ∧ Kp w w' := by
  obtain ⟨a, cap, rfl, hel⟩ := hs
  by_cases hl : 200 < os.length
  · exact safe_long p a _ cap w hl C
  by_cases hp : p = 1 ∨ p = 2
  · exact safe_in p hp a cap _ os rfl w hel hl C
  · exact safe_bad p ip hp a _ cap w hl C
end Go.Proofs.YtghjnhdepeiloaaDoor
