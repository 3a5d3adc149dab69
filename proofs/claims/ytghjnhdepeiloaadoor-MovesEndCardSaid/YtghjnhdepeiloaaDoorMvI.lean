/-
  MovesEnd's WALK (own work).
-/
import Derived.Test.YtghjnhdepeiloaaDoorMvE
import Derived.Test.YtghjnhdepeiloaaDoorMvK
import Derived.LoopTactic
import Derived.LoopN
namespace Go.Proofs.YtghjnhdepeiloaaDoor
open Go.RowKit Go.ChangeShapes Go.WideShapes
variable {ads : List Addr} {J : Nat → PairM → (Nat → Prop) → World → Prop}

theorem exists_least (S : Nat → Prop) : ∀ n, S n → ∃ k, S k ∧ ∀ j, S j → k ≤ j := by
  intro n
  induction n using Nat.strongRecOn with
  | _ n ih =>
    intro hn
    rcases Classical.em (∃ j, j < n ∧ S j) with ⟨j, hj, hs⟩ | h
    · exact ih j hj hs
    · exact ⟨n, hn, fun j hs => Nat.le_of_not_lt fun q => h ⟨j, q, hs⟩⟩
noncomputable def leastM (S : Nat → Prop) : Nat := open Classical in if h : ∃ n, S n then (exists_least S h.choose h.choose_spec).choose else 0
theorem leastM_spec {S : Nat → Prop} (h : ∃ n, S n) : S (leastM S) ∧ ∀ j, S j → leastM S ≤ j := by
  unfold leastM
  rw [dif_pos h]
  exact (exists_least S h.choose h.choose_spec).choose_spec
theorem leastM_le {S : Nat → Prop} {j : Nat} (h : S j) : leastM S ≤ j := (leastM_spec ⟨j, h⟩).2 j h
/-- a pair that is drained to X -/
def Drn (X m : PairM) : Prop := ∃ n, muM m ≤ n ∧ drainM n m = X
theorem drn_end {X m : PairM} (h : Drn X m) (hf : m.f = []) : m = X := by
  obtain ⟨n, _, h2⟩ := h
  cases n with
  | zero => exact h2
  | succ n =>
    rw [drainM, if_pos (by rw [hf]; rfl)] at h2
    exact h2
theorem drn_next {X m : PairM} (hk : Pok m) (h : Drn X m) (hf : m.f ≠ []) : Drn X m.next ∧ muM m.next < muM m := by
  obtain ⟨⟨p, r, hp, R⟩, hl⟩ := hk
  have h3 := (next_mu hp R hf hl).1
  obtain ⟨n, h1, h2⟩ := h
  refine ⟨?_, h3⟩
  cases n with
  | zero => omega
  | succ n =>
    rw [drainM, if_neg (by cases hm : m.f with | nil => exact absurd hm hf | cons q t => simp)] at h2
    exact ⟨n, by omega, h2⟩
theorem deliver0_ok {m : PairM} (hk : Pok m) (hf : m.f ≠ []) : (m.deliver 0 false).1.1 = 0 := by
  obtain ⟨⟨p, r, hp, R⟩, hl⟩ := hk
  have hlt : 0 < m.f.length := List.length_pos_iff.2 hf
  unfold PairM.deliver
  rw [if_neg (by omega), if_neg (by simp)]
  have hq : m.f.getD 0 (0, 0) ∈ m.f := by
    have : m.f.getD 0 (0, 0) = m.f[0] := by simp [List.getD, hlt]
    rw [this]; exact List.getElem_mem hlt
  obtain ⟨h1, h2, -⟩ := closed_q hp R.mem (R.f _ hq)
  rw [show (0 : Int).toNat = 0 from rfl, seat_e R h1, if_neg (by simpa using h2)]
theorem act_err {m : PairM} {e k : Int} (h : (m.act e k).1 ≠ 0) : (m.act e k).2 = m := by
  unfold PairM.act at h ⊢
  split
  · rfl
  · split
    · rfl
    · split
      · rfl
      · rename_i h1 h2 h3
        rw [if_neg h1, if_neg h2, if_neg h3] at h
        exact absurd rfl h
theorem over_c {m : PairM} (h : m.over = true) : m.c.s = 14 ∧ m.x.s = 14 ∧ m.c.h = m.x.h := by
  unfold PairM.over at h
  simp only [Bool.and_eq_true, decide_eq_true_eq] at h
  exact ⟨h.1.1, h.1.2, h.2⟩
set_option maxRecDepth 100000 in
theorem end_long (p : Int) (c : Bool) (a : Option Addr) (n cap : Nat) (w : World) (hl : 200 < n) (C : MovC ads w J) : Calls Tryd.prog 7 #[.int .i64 p, .slice a n cap, .bool c] w fun r w' => r = .returned (.bool true) ∧ Kp w w' := by
  have HAL := Lib.hid (alive11_any C w (Kp.refl w))
  obtain ⟨nn, hnn⟩ : ∃ x : Int, (n : Int) = x := ⟨_, rfl⟩
  have d1 : decide (nn > 200) = true := decide_eq_true (by omega)
  clear C hl
  go_enter Tryd.func7, Tryd.ntmps7
  go_wp2_with (go_at_call 9; (with_reducible refine HAL.out.mono ?_); rintro e' w1 ⟨rfl, hk⟩; have K1 := Lib.hid hk; clear hk)
  go_ret
  exact ⟨rfl, K1.out⟩
set_option maxRecDepth 100000 in
theorem end_bad (p : Int) (c : Bool) (ip : i64M p) (hp : ¬ (p = 1 ∨ p = 2)) (a : Option Addr) (n cap : Nat) (w : World) (hl : ¬ 200 < n) (C : MovC ads w J) : Calls Tryd.prog 7 #[.int .i64 p, .slice a n cap, .bool c] w fun r w' => r = .returned (.bool true) ∧ Kp w w' := by
  have HAL := Lib.hid (alive11_any C w (Kp.refl w))
  obtain ⟨nn, hnn⟩ : ∃ x : Int, (n : Int) = x := ⟨_, rfl⟩
  have d1 : decide (nn > 200) = false := decide_eq_false (by omega)
  obtain ⟨q, hq⟩ : ∃ q, errI ads 14 = .iface 128 (.pointer q) := ⟨_, if_neg (by decide)⟩
  have HNW := Lib.hid (fun w1 (hk : Kp w w1) => hq ▸ C.pnew_no w1 hk p hp ip)
  clear C hl hq
  go_enter Tryd.func7, Tryd.ntmps7
  go_wp2_with (first | (go_at_call 9; (with_reducible refine HAL.out.mono ?_); rintro e' w1 ⟨rfl, hk⟩; have K1 := Lib.hid hk; clear hk) | (go_at_call 21; (with_reducible refine (HNW.out _ K1.out).mono ?_); rintro e' w2 ⟨rfl, hk⟩; have K2 := Lib.hid (Kp.trans K1.out hk); clear hk))
  go_ret
  exact ⟨rfl, K2.out⟩
set_option maxRecDepth 100000 in
set_option maxHeartbeats 16000000 in
theorem end_in (p : Int) (c : Bool) (hp : p = 1 ∨ p = 2) (a : Option Addr) (cap n : Nat) (os : List OpD) (hm : os.length = n) (w : World) (hel : ∀ (j : Nat) (h : j < os.length), ∃ b off, a = some ⟨b, off, none⟩ ∧ OpM os[j] b (off + j * 5) w) (hl : ¬ 200 < n) (C : MovC ads w J) : Calls Tryd.prog 7 #[.int .i64 p, .slice a n cap, .bool c] w fun r w' => r = .returned (.bool true) ∧ Kp w w' := by
  have HAL := Lib.hid (alive11_any C w (Kp.refl w))
  have HCC := Lib.hid C
  have HNW := Lib.hid (fun w1 (hk : Kp w w1) => at_new C (Kp.refl w) hk p hp)
  have HE := Lib.hid hel
  have HM := Lib.hid hm
  obtain ⟨nn, hnn⟩ : ∃ x : Int, (n : Int) = x := ⟨_, rfl⟩
  have HNN := Lib.hid hnn
  have d1 : decide (nn > 200) = false := decide_eq_false (by omega)
  have l1 : nn ≤ 200 := by omega
  clear C hel hm hl hp
  go_enter Tryd.func7, Tryd.ntmps7
  go_wp2_with (first | (go_at_call 9; (with_reducible refine HAL.out.mono ?_); rintro e' w1 ⟨rfl, hk⟩; have K1 := Lib.hid hk; clear hk) | (go_at_call 21; (with_reducible refine (HNW.out _ K1.out).mono ?_); rintro e' w2 ⟨g, rfl, ha, -⟩; have A2 := Lib.hid ha; clear ha))
  go_loopw [29] (fun i wr => ∃ j : Nat, j ≤ n ∧ i = .int .i64 j ∧ ∃ mj, At J w w (fun _ : Nat => False) g mj wr) (fun i _ => n - (intOf i).toNat)
  case atStart => exact ⟨0, Nat.zero_le _, rfl, _, A2.out⟩
  case round =>
    obtain ⟨j, hj, rfl, mj, hat⟩ := hrel
    have A := Lib.hid hat
    clear hat
    obtain ⟨jj, hjj⟩ : ∃ jj : Int, (j : Int) = jj := ⟨_, rfl⟩
    rw [hjj]
    have HJ := Lib.hid hjj
    have hnn := HNN.out
    by_cases hlt : j < n
    · have hjl : jj < nn := by omega
      have hj0 : 0 ≤ jj := by omega
      have htn : jj.toNat = j := by omega
      have hjo : j < os.length := by rw [HM.out]; exact hlt
      obtain ⟨b, off, rfl, hc0⟩ := HE.out j hjo
      have hc := hc0.kp (A.out.base)
      obtain ⟨⟨oa, oe, ok, oi, oc⟩, hod⟩ : ∃ o, os[j] = o := ⟨_, rfl⟩
      rw [hod] at hc
      have f0 : wr.cell? ⟨b, off + jj.toNat * 5, none⟩ = some (.int .i64 oa) := by rw [htn]; exact hc.a
      have f1 : wr.cell? ⟨b, off + jj.toNat * 5 + 1, none⟩ = some (.int .i64 oe) := by rw [htn]; exact hc.e
      have f2 : wr.cell? ⟨b, off + jj.toNat * 5 + 2, none⟩ = some (.int .i64 ok) := by rw [htn]; exact hc.k
      have f3 : wr.cell? ⟨b, off + jj.toNat * 5 + 3, none⟩ = some (.int .i64 oi) := by rw [htn]; exact hc.i
      have f4 : wr.cell? ⟨b, off + jj.toNat * 5 + 4, none⟩ = some (.bool oc) := by rw [htn]; exact hc.c
      have hook : OpD.ok ⟨oa, oe, ok, oi, oc⟩ := ⟨hc.wa, hc.we, hc.wk, hc.wi⟩
      have k9 := kp_alloc wr (.cells #[.int .i64 oa, .int .i64 oe, .int .i64 ok, .int .i64 oi, .bool oc] 47)
      have r9 := (MapKept.heap_alloc wr (.cells #[.int .i64 oa, .int .i64 oe, .int .i64 ok, .int .i64 oi, .bool oc] 47)).1
      obtain ⟨t0, t1, t2, t3, t4⟩ := cells_5 r9
      have A9 := A.out.kp HCC.out k9
      have hdo := at_doL HCC.out A9 ⟨oa, oe, ok, oi, oc⟩ hook
      obtain ⟨⟨⟨⟨a0, a1, a2, a3⟩, b1, b2, b3, b4⟩, m'⟩, hm'⟩ : ∃ y, doM mj ⟨oa, oe, ok, oi, oc⟩ = y := ⟨_, rfl⟩
      rw [hm'] at hdo
      dsimp only [opV, effV] at hdo
      have HDO := Lib.hid hdo
      have HLT := Lib.hid hlt
      clear hm'
      clear hc hc0 hod k9 r9 A9 hdo hjj hj hlt hnn hook htn hjo
      go_wp2_with (go_at_call 26; (with_reducible refine HDO.out.mono ?_); rintro e' w4 ⟨rfl, ha, -⟩; have A4 := Lib.hid ha; clear ha)
      have hj1 : (j : Int) = jj := HJ.out
      have hlt1 : j < n := HLT.out
      go_roundw
      case rel => exact ⟨j + 1, hlt1, by rw [← hj1]; rfl, _, A4.out⟩
      case measure => simp [intOf]; omega
    · have hex : ¬ jj < nn := by omega
      clear hjj hj hlt hnn
      go_wp2
      clear HJ hex
      have hov : (roundsM c 6 mj).over = true := by
        obtain ⟨⟨pp, r, hpp, R⟩, hl⟩ := A.out.pok
        exact ends_of hpp R hl c
      obtain ⟨E, hE⟩ : ∃ E, roundsM c 6 mj = E := ⟨_, rfl⟩
      rw [hE] at hov
      have HOV := Lib.hid hov
      have HRE := Lib.hid hE
      clear hov hE
      go_loopw [37] (fun i wr => ∃ j : Nat, j ≤ 6 ∧ i = .int .i64 j ∧ ∃ mk, roundsM c (6 - j) mk = E ∧ At J w w (fun _ : Nat => False) g mk wr) (fun i _ => 6 - (intOf i).toNat)
      case atStart => exact ⟨0, Nat.zero_le _, rfl, mj, HRE.out, A.out⟩
      case round =>
        obtain ⟨j, hj, rfl, mk, hre, hat⟩ := hrel
        have AO := Lib.hid hat
        obtain ⟨jj, hjj⟩ : ∃ jj : Int, (j : Int) = jj := ⟨_, rfl⟩
        rw [hjj]
        have HJ := Lib.hid hjj
        by_cases hlt : j < 6
        · have hjl : jj < 6 := by omega
          have hj0 : 0 ≤ jj := by omega
          have HLT := Lib.hid hlt
          obtain ⟨X, hX⟩ : ∃ X, drainM 20000 mk = X := ⟨_, rfl⟩
          have HNX := Lib.hid (show roundsM c (6 - (j + 1)) (actsM c X) = E by
            rw [← hre, show 6 - j = (6 - (j + 1)) + 1 by omega, roundsM, hX])
          have hdr : Drn X mk := ⟨20000, mu_le mk hat.pok.2, hX⟩
          have HDR := Lib.hid hdr
          clear hre hat hjj hj hlt hX hdr
          obtain ⟨wo, rfl⟩ : ∃ wo, wo = wr := ⟨wr, rfl⟩
          go_wp2
          go_loopw [39] (fun _ wr => ∃ md, At J w w (fun _ : Nat => False) g md wr ∧ Drn X md) (fun _ wr => leastM fun k => ∃ md, At J w w (fun _ : Nat => False) g md wr ∧ Drn X md ∧ muM md = k)
          case atStart => exact ⟨mk, AO.out, HDR.out⟩
          case round =>
            have hls := leastM_spec (S := fun k => ∃ md, At J w w (fun _ : Nat => False) g md wr ∧ Drn X md ∧ muM md = k) (hrel.elim fun md h => ⟨_, md, h.1, h.2, rfl⟩)
            obtain ⟨⟨md, ha, hd, hmu⟩, -⟩ := hls
            have AI := Lib.hid ha
            have HFL := Lib.hid (at_flight HCC.out ha)
            obtain ⟨nf, hnf⟩ : ∃ n, md.f.length = n := ⟨_, rfl⟩
            have hsl : ∀ v w1, SlF v md.f w1 → ∃ a cp, v = .slice a nf cp := fun v w1 h => by obtain ⟨a, cp, h1, -⟩ := h; exact ⟨a, cp, by rw [h1, hnf]⟩
            have HSL := Lib.hid hsl
            by_cases hf : md.f = []
            · have hxe := drn_end hd hf
              subst hxe
              have n0 : nf = 0 := by rw [← hnf, hf]; rfl
              subst n0
              have hpk := ha.pok
              obtain ⟨⟨xp, xe, xs, xh⟩, hx⟩ : ∃ z, seatO md 2 = z := ⟨_, rfl⟩
              have sr := pokM_right hpk (e := 2) (.inr rfl)
              rw [hx] at sr
              have hsx := fun w1 (h : At J w w (fun _ : Nat => False) g md w1) => at_seat HCC.out h 2 (by decide)
              rw [hx] at hsx
              have hwx := fun w1 (hk : Kp w w1) => HCC.out.work w1 hk ⟨xp, xe, xs, xh⟩ sr.2
              rw [sr.1, if_pos rfl] at hwx
              have hxw : md.x.work = SeatM.work ⟨xp, xe, xs, xh⟩ := by rw [← hx]; rfl
              obtain ⟨wk, hwk⟩ : ∃ k, SeatM.work ⟨xp, xe, xs, xh⟩ = k := ⟨_, rfl⟩
              rw [hwk] at hwx hxw
              dsimp only [seatV] at hsx hwx
              have HSX := Lib.hid hsx
              have HWX := Lib.hid hwx
              clear ha hd hmu hf hsl hnf hpk hx sr hsx hwx hwk
              by_cases n2 : wk = 2
              · subst n2
                have hwk := hxw
                clear hxw
                cases c with
                | true =>
                  have hm1 : md.works = (md.act 2 3).2 := by unfold PairM.works; simp [hwk]
                  obtain ⟨q1, hq1⟩ : ∃ q, errI ads (md.act 2 3).1 = q := ⟨_, rfl⟩
                  have HD2 := Lib.hid (fun w1 (h : At J w w (fun _ : Nat => False) g md w1) => (show Calls Tryd.prog 29 #[.pointer (some ⟨g, 0, none⟩), .int .i64 2, .int .i64 3] w1 fun r w' => r = .returned q1 ∧ At J w w (fun _ : Nat => False) g md.works w' from (at_do HCC.out h 2 3 (by decide) (by decide)).mono fun r w' q => ⟨by rw [q.1, hq1], hm1 ▸ q.2.1⟩))
                  obtain ⟨M1, hM1⟩ : ∃ M, md.works = M := ⟨_, rfl⟩
                  have hac : actsM true md = (((M1.decides true).again 1).2.again 2).2 := by unfold actsM; rw [hM1]
                  rw [hM1] at HD2
                  by_cases h0 : (M1.act 1 9).1 = 0
                  · have hdc : M1.decides true = (M1.act 1 9).2 := by unfold PairM.decides; simp [h0]
                    have HD1 := Lib.hid (fun w1 (h : At J w w (fun _ : Nat => False) g M1 w1) => (show Calls Tryd.prog 29 #[.pointer (some ⟨g, 0, none⟩), .int .i64 1, .int .i64 9] w1 fun r w' => r = .returned .nilIface ∧ At J w w (fun _ : Nat => False) g (M1.decides true) w' from (at_do HCC.out h 1 9 (by decide) (by decide)).mono fun r w' q => ⟨by rw [q.1, h0, errI_nil], hdc ▸ q.2.1⟩))
                    obtain ⟨M2, hM2⟩ : ∃ M, M1.decides true = M := ⟨_, rfl⟩
                    rw [hM2] at hac HD1
                    have HG1 := Lib.hid (fun w1 (h : At J w w (fun _ : Nat => False) g M2 w1) => (show Calls Tryd.prog 30 #[.pointer (some ⟨g, 0, none⟩), .int .i64 1] w1 fun r w' => r = .returned (.bool (M2.again 1).1) ∧ At J w w (fun _ : Nat => False) g (M2.again 1).2 w' from (at_again HCC.out h 1 (by decide)).mono fun r w' q => ⟨q.1, q.2.1⟩))
                    obtain ⟨M3, hM3⟩ : ∃ M, (M2.again 1).2 = M := ⟨_, rfl⟩
                    rw [hM3] at hac HG1
                    have HG2 := Lib.hid (fun w1 (h : At J w w (fun _ : Nat => False) g M3 w1) => (show Calls Tryd.prog 30 #[.pointer (some ⟨g, 0, none⟩), .int .i64 2] w1 fun r w' => r = .returned (.bool (M3.again 2).1) ∧ At J w w (fun _ : Nat => False) g (actsM true md) w' from (at_again HCC.out h 2 (by decide)).mono fun r w' q => ⟨q.1, hac ▸ q.2.1⟩))
                    have HAC := Lib.hid hac
                    clear hac hdc hM1 hM2 hM3 h0 hm1 hq1 hwk
                    go_wp2_with (first | (go_at_call 25; (with_reducible refine HFL.out.mono ?_); rintro e' w5 ⟨v5, rfl, hs, hk⟩; obtain ⟨a5, c5, rfl⟩ := HSL.out _ _ hs; have A5 := Lib.hid (AI.out.kp HCC.out hk); clear hk) | (go_at_call 24; (with_reducible refine (HSX.out _ A5.out).mono ?_); rintro e' w7 ⟨rfl, hk⟩; have hk2 := Kp.trans hk (kp_alloc w7 (.cells #[.int .i64 xp, .int .i64 xe, .int .i64 xs, .int .i64 xh] 23)); have A7 := Lib.hid (A5.out.kp HCC.out hk2); have b7 := (MapKept.heap_alloc w7 (.cells #[.int .i64 xp, .int .i64 xe, .int .i64 xs, .int .i64 xh] 23)).1; obtain ⟨g0, g1, g2, g3⟩ := cells_4 b7; clear hk hk2 b7) | (go_at_call 18; (with_reducible refine (HWX.out _ A7.out.base).mono ?_); rintro e' w8 ⟨rfl, hk⟩; have A8 := Lib.hid (A7.out.kp HCC.out hk); clear hk) | (go_at_call 29; (with_reducible refine (HD2.out _ A8.out).mono ?_); rintro e' w9 ⟨rfl, ha⟩; have A9 := Lib.hid ha; clear ha) | (go_at_call 29; (with_reducible refine (HD1.out _ A9.out).mono ?_); rintro e' w10 ⟨rfl, ha⟩; have A10 := Lib.hid ha; clear ha) | (go_at_call 30; (with_reducible refine (HG1.out _ A10.out).mono ?_); rintro e' w12 ⟨rfl, ha⟩; have A12 := Lib.hid ha; clear ha) | (go_at_call 30; (with_reducible refine (HG2.out _ A12.out).mono ?_); rintro e' w13 ⟨rfl, ha⟩; have A13 := Lib.hid ha; clear ha))
                    have hj1 : (j : Int) = jj := HJ.out
                    have hlt1 : j < 6 := HLT.out
                    go_roundw
                    case rel => exact ⟨j + 1, hlt1, by rw [← hj1]; rfl, _, HNX.out, A13.out⟩
                    case measure => simp [intOf]; omega
                  · have hdc : M1.decides true = (M1.act 1 10).2 := by unfold PairM.decides; simp [h0]
                    have hsm := act_err h0
                    obtain ⟨q2, hq2⟩ : ∃ q, errI ads (M1.act 1 9).1 = .iface 128 (.pointer q) := ⟨_, if_neg h0⟩
                    obtain ⟨q3, hq3⟩ : ∃ q, errI ads (M1.act 1 10).1 = q := ⟨_, rfl⟩
                    have HD1 := Lib.hid (fun w1 (h : At J w w (fun _ : Nat => False) g M1 w1) => (show Calls Tryd.prog 29 #[.pointer (some ⟨g, 0, none⟩), .int .i64 1, .int .i64 9] w1 fun r w' => r = .returned (.iface 128 (.pointer q2)) ∧ At J w w (fun _ : Nat => False) g M1 w' from (at_do HCC.out h 1 9 (by decide) (by decide)).mono fun r w' q => ⟨by rw [q.1, hq2], hsm ▸ q.2.1⟩))
                    have HDC := Lib.hid (fun w1 (h : At J w w (fun _ : Nat => False) g M1 w1) => (show Calls Tryd.prog 29 #[.pointer (some ⟨g, 0, none⟩), .int .i64 1, .int .i64 10] w1 fun r w' => r = .returned q3 ∧ At J w w (fun _ : Nat => False) g (M1.decides true) w' from (at_do HCC.out h 1 10 (by decide) (by decide)).mono fun r w' q => ⟨by rw [q.1, hq3], hdc ▸ q.2.1⟩))
                    obtain ⟨M2, hM2⟩ : ∃ M, M1.decides true = M := ⟨_, rfl⟩
                    rw [hM2] at hac HDC
                    have HG1 := Lib.hid (fun w1 (h : At J w w (fun _ : Nat => False) g M2 w1) => (show Calls Tryd.prog 30 #[.pointer (some ⟨g, 0, none⟩), .int .i64 1] w1 fun r w' => r = .returned (.bool (M2.again 1).1) ∧ At J w w (fun _ : Nat => False) g (M2.again 1).2 w' from (at_again HCC.out h 1 (by decide)).mono fun r w' q => ⟨q.1, q.2.1⟩))
                    obtain ⟨M3, hM3⟩ : ∃ M, (M2.again 1).2 = M := ⟨_, rfl⟩
                    rw [hM3] at hac HG1
                    have HG2 := Lib.hid (fun w1 (h : At J w w (fun _ : Nat => False) g M3 w1) => (show Calls Tryd.prog 30 #[.pointer (some ⟨g, 0, none⟩), .int .i64 2] w1 fun r w' => r = .returned (.bool (M3.again 2).1) ∧ At J w w (fun _ : Nat => False) g (actsM true md) w' from (at_again HCC.out h 2 (by decide)).mono fun r w' q => ⟨q.1, hac ▸ q.2.1⟩))
                    have HAC := Lib.hid hac
                    clear hac hdc hM1 hM2 hM3 h0 hm1 hq1 hsm hq2 hq3 hwk
                    go_wp2_with (first | (go_at_call 25; (with_reducible refine HFL.out.mono ?_); rintro e' w5 ⟨v5, rfl, hs, hk⟩; obtain ⟨a5, c5, rfl⟩ := HSL.out _ _ hs; have A5 := Lib.hid (AI.out.kp HCC.out hk); clear hk) | (go_at_call 24; (with_reducible refine (HSX.out _ A5.out).mono ?_); rintro e' w7 ⟨rfl, hk⟩; have hk2 := Kp.trans hk (kp_alloc w7 (.cells #[.int .i64 xp, .int .i64 xe, .int .i64 xs, .int .i64 xh] 23)); have A7 := Lib.hid (A5.out.kp HCC.out hk2); have b7 := (MapKept.heap_alloc w7 (.cells #[.int .i64 xp, .int .i64 xe, .int .i64 xs, .int .i64 xh] 23)).1; obtain ⟨g0, g1, g2, g3⟩ := cells_4 b7; clear hk hk2 b7) | (go_at_call 18; (with_reducible refine (HWX.out _ A7.out.base).mono ?_); rintro e' w8 ⟨rfl, hk⟩; have A8 := Lib.hid (A7.out.kp HCC.out hk); clear hk) | (go_at_call 29; (with_reducible refine (HD2.out _ A8.out).mono ?_); rintro e' w9 ⟨rfl, ha⟩; have A9 := Lib.hid ha; clear ha) | (go_at_call 29; (with_reducible refine (HD1.out _ A9.out).mono ?_); rintro e' w10 ⟨rfl, ha⟩; have A10 := Lib.hid ha; clear ha) | (go_at_call 29; (with_reducible refine (HDC.out _ A10.out).mono ?_); rintro e' w11 ⟨rfl, ha⟩; have A11 := Lib.hid ha; clear ha) | (go_at_call 30; (with_reducible refine (HG1.out _ A11.out).mono ?_); rintro e' w12 ⟨rfl, ha⟩; have A12 := Lib.hid ha; clear ha) | (go_at_call 30; (with_reducible refine (HG2.out _ A12.out).mono ?_); rintro e' w13 ⟨rfl, ha⟩; have A13 := Lib.hid ha; clear ha))
                    have hj1 : (j : Int) = jj := HJ.out
                    have hlt1 : j < 6 := HLT.out
                    go_roundw
                    case rel => exact ⟨j + 1, hlt1, by rw [← hj1]; rfl, _, HNX.out, A13.out⟩
                    case measure => simp [intOf]; omega
                | false =>
                  have hm1 : md.works = (md.act 2 3).2 := by unfold PairM.works; simp [hwk]
                  obtain ⟨q1, hq1⟩ : ∃ q, errI ads (md.act 2 3).1 = q := ⟨_, rfl⟩
                  have HD2 := Lib.hid (fun w1 (h : At J w w (fun _ : Nat => False) g md w1) => (show Calls Tryd.prog 29 #[.pointer (some ⟨g, 0, none⟩), .int .i64 2, .int .i64 3] w1 fun r w' => r = .returned q1 ∧ At J w w (fun _ : Nat => False) g md.works w' from (at_do HCC.out h 2 3 (by decide) (by decide)).mono fun r w' q => ⟨by rw [q.1, hq1], hm1 ▸ q.2.1⟩))
                  obtain ⟨M1, hM1⟩ : ∃ M, md.works = M := ⟨_, rfl⟩
                  have hac : actsM false md = (((M1.decides false).again 1).2.again 2).2 := by unfold actsM; rw [hM1]
                  rw [hM1] at HD2
                  by_cases h0 : (M1.act 1 11).1 = 0
                  · have hdc : M1.decides false = (M1.act 1 11).2 := by unfold PairM.decides; simp [h0]
                    have HD1 := Lib.hid (fun w1 (h : At J w w (fun _ : Nat => False) g M1 w1) => (show Calls Tryd.prog 29 #[.pointer (some ⟨g, 0, none⟩), .int .i64 1, .int .i64 11] w1 fun r w' => r = .returned .nilIface ∧ At J w w (fun _ : Nat => False) g (M1.decides false) w' from (at_do HCC.out h 1 11 (by decide) (by decide)).mono fun r w' q => ⟨by rw [q.1, h0, errI_nil], hdc ▸ q.2.1⟩))
                    obtain ⟨M2, hM2⟩ : ∃ M, M1.decides false = M := ⟨_, rfl⟩
                    rw [hM2] at hac HD1
                    have HG1 := Lib.hid (fun w1 (h : At J w w (fun _ : Nat => False) g M2 w1) => (show Calls Tryd.prog 30 #[.pointer (some ⟨g, 0, none⟩), .int .i64 1] w1 fun r w' => r = .returned (.bool (M2.again 1).1) ∧ At J w w (fun _ : Nat => False) g (M2.again 1).2 w' from (at_again HCC.out h 1 (by decide)).mono fun r w' q => ⟨q.1, q.2.1⟩))
                    obtain ⟨M3, hM3⟩ : ∃ M, (M2.again 1).2 = M := ⟨_, rfl⟩
                    rw [hM3] at hac HG1
                    have HG2 := Lib.hid (fun w1 (h : At J w w (fun _ : Nat => False) g M3 w1) => (show Calls Tryd.prog 30 #[.pointer (some ⟨g, 0, none⟩), .int .i64 2] w1 fun r w' => r = .returned (.bool (M3.again 2).1) ∧ At J w w (fun _ : Nat => False) g (actsM false md) w' from (at_again HCC.out h 2 (by decide)).mono fun r w' q => ⟨q.1, hac ▸ q.2.1⟩))
                    have HAC := Lib.hid hac
                    clear hac hdc hM1 hM2 hM3 h0 hm1 hq1 hwk
                    go_wp2_with (first | (go_at_call 25; (with_reducible refine HFL.out.mono ?_); rintro e' w5 ⟨v5, rfl, hs, hk⟩; obtain ⟨a5, c5, rfl⟩ := HSL.out _ _ hs; have A5 := Lib.hid (AI.out.kp HCC.out hk); clear hk) | (go_at_call 24; (with_reducible refine (HSX.out _ A5.out).mono ?_); rintro e' w7 ⟨rfl, hk⟩; have hk2 := Kp.trans hk (kp_alloc w7 (.cells #[.int .i64 xp, .int .i64 xe, .int .i64 xs, .int .i64 xh] 23)); have A7 := Lib.hid (A5.out.kp HCC.out hk2); have b7 := (MapKept.heap_alloc w7 (.cells #[.int .i64 xp, .int .i64 xe, .int .i64 xs, .int .i64 xh] 23)).1; obtain ⟨g0, g1, g2, g3⟩ := cells_4 b7; clear hk hk2 b7) | (go_at_call 18; (with_reducible refine (HWX.out _ A7.out.base).mono ?_); rintro e' w8 ⟨rfl, hk⟩; have A8 := Lib.hid (A7.out.kp HCC.out hk); clear hk) | (go_at_call 29; (with_reducible refine (HD2.out _ A8.out).mono ?_); rintro e' w9 ⟨rfl, ha⟩; have A9 := Lib.hid ha; clear ha) | (go_at_call 29; (with_reducible refine (HD1.out _ A9.out).mono ?_); rintro e' w10 ⟨rfl, ha⟩; have A10 := Lib.hid ha; clear ha) | (go_at_call 30; (with_reducible refine (HG1.out _ A10.out).mono ?_); rintro e' w12 ⟨rfl, ha⟩; have A12 := Lib.hid ha; clear ha) | (go_at_call 30; (with_reducible refine (HG2.out _ A12.out).mono ?_); rintro e' w13 ⟨rfl, ha⟩; have A13 := Lib.hid ha; clear ha))
                    have hj1 : (j : Int) = jj := HJ.out
                    have hlt1 : j < 6 := HLT.out
                    go_roundw
                    case rel => exact ⟨j + 1, hlt1, by rw [← hj1]; rfl, _, HNX.out, A13.out⟩
                    case measure => simp [intOf]; omega
                  · have hdc : M1.decides false = (M1.act 1 10).2 := by unfold PairM.decides; simp [h0]
                    have hsm := act_err h0
                    obtain ⟨q2, hq2⟩ : ∃ q, errI ads (M1.act 1 11).1 = .iface 128 (.pointer q) := ⟨_, if_neg h0⟩
                    obtain ⟨q3, hq3⟩ : ∃ q, errI ads (M1.act 1 10).1 = q := ⟨_, rfl⟩
                    have HD1 := Lib.hid (fun w1 (h : At J w w (fun _ : Nat => False) g M1 w1) => (show Calls Tryd.prog 29 #[.pointer (some ⟨g, 0, none⟩), .int .i64 1, .int .i64 11] w1 fun r w' => r = .returned (.iface 128 (.pointer q2)) ∧ At J w w (fun _ : Nat => False) g M1 w' from (at_do HCC.out h 1 11 (by decide) (by decide)).mono fun r w' q => ⟨by rw [q.1, hq2], hsm ▸ q.2.1⟩))
                    have HDC := Lib.hid (fun w1 (h : At J w w (fun _ : Nat => False) g M1 w1) => (show Calls Tryd.prog 29 #[.pointer (some ⟨g, 0, none⟩), .int .i64 1, .int .i64 10] w1 fun r w' => r = .returned q3 ∧ At J w w (fun _ : Nat => False) g (M1.decides false) w' from (at_do HCC.out h 1 10 (by decide) (by decide)).mono fun r w' q => ⟨by rw [q.1, hq3], hdc ▸ q.2.1⟩))
                    obtain ⟨M2, hM2⟩ : ∃ M, M1.decides false = M := ⟨_, rfl⟩
                    rw [hM2] at hac HDC
                    have HG1 := Lib.hid (fun w1 (h : At J w w (fun _ : Nat => False) g M2 w1) => (show Calls Tryd.prog 30 #[.pointer (some ⟨g, 0, none⟩), .int .i64 1] w1 fun r w' => r = .returned (.bool (M2.again 1).1) ∧ At J w w (fun _ : Nat => False) g (M2.again 1).2 w' from (at_again HCC.out h 1 (by decide)).mono fun r w' q => ⟨q.1, q.2.1⟩))
                    obtain ⟨M3, hM3⟩ : ∃ M, (M2.again 1).2 = M := ⟨_, rfl⟩
                    rw [hM3] at hac HG1
                    have HG2 := Lib.hid (fun w1 (h : At J w w (fun _ : Nat => False) g M3 w1) => (show Calls Tryd.prog 30 #[.pointer (some ⟨g, 0, none⟩), .int .i64 2] w1 fun r w' => r = .returned (.bool (M3.again 2).1) ∧ At J w w (fun _ : Nat => False) g (actsM false md) w' from (at_again HCC.out h 2 (by decide)).mono fun r w' q => ⟨q.1, hac ▸ q.2.1⟩))
                    have HAC := Lib.hid hac
                    clear hac hdc hM1 hM2 hM3 h0 hm1 hq1 hsm hq2 hq3 hwk
                    go_wp2_with (first | (go_at_call 25; (with_reducible refine HFL.out.mono ?_); rintro e' w5 ⟨v5, rfl, hs, hk⟩; obtain ⟨a5, c5, rfl⟩ := HSL.out _ _ hs; have A5 := Lib.hid (AI.out.kp HCC.out hk); clear hk) | (go_at_call 24; (with_reducible refine (HSX.out _ A5.out).mono ?_); rintro e' w7 ⟨rfl, hk⟩; have hk2 := Kp.trans hk (kp_alloc w7 (.cells #[.int .i64 xp, .int .i64 xe, .int .i64 xs, .int .i64 xh] 23)); have A7 := Lib.hid (A5.out.kp HCC.out hk2); have b7 := (MapKept.heap_alloc w7 (.cells #[.int .i64 xp, .int .i64 xe, .int .i64 xs, .int .i64 xh] 23)).1; obtain ⟨g0, g1, g2, g3⟩ := cells_4 b7; clear hk hk2 b7) | (go_at_call 18; (with_reducible refine (HWX.out _ A7.out.base).mono ?_); rintro e' w8 ⟨rfl, hk⟩; have A8 := Lib.hid (A7.out.kp HCC.out hk); clear hk) | (go_at_call 29; (with_reducible refine (HD2.out _ A8.out).mono ?_); rintro e' w9 ⟨rfl, ha⟩; have A9 := Lib.hid ha; clear ha) | (go_at_call 29; (with_reducible refine (HD1.out _ A9.out).mono ?_); rintro e' w10 ⟨rfl, ha⟩; have A10 := Lib.hid ha; clear ha) | (go_at_call 29; (with_reducible refine (HDC.out _ A10.out).mono ?_); rintro e' w11 ⟨rfl, ha⟩; have A11 := Lib.hid ha; clear ha) | (go_at_call 30; (with_reducible refine (HG1.out _ A11.out).mono ?_); rintro e' w12 ⟨rfl, ha⟩; have A12 := Lib.hid ha; clear ha) | (go_at_call 30; (with_reducible refine (HG2.out _ A12.out).mono ?_); rintro e' w13 ⟨rfl, ha⟩; have A13 := Lib.hid ha; clear ha))
                    have hj1 : (j : Int) = jj := HJ.out
                    have hlt1 : j < 6 := HLT.out
                    go_roundw
                    case rel => exact ⟨j + 1, hlt1, by rw [← hj1]; rfl, _, HNX.out, A13.out⟩
                    case measure => simp [intOf]; omega
              by_cases n9 : wk = 9
              · subst n9
                have hwk := hxw
                clear hxw
                cases c with
                | true =>
                  have hm1 : md.works = (md.act 2 7).2 := by unfold PairM.works; simp [hwk]
                  obtain ⟨q1, hq1⟩ : ∃ q, errI ads (md.act 2 7).1 = q := ⟨_, rfl⟩
                  have HD2 := Lib.hid (fun w1 (h : At J w w (fun _ : Nat => False) g md w1) => (show Calls Tryd.prog 29 #[.pointer (some ⟨g, 0, none⟩), .int .i64 2, .int .i64 7] w1 fun r w' => r = .returned q1 ∧ At J w w (fun _ : Nat => False) g md.works w' from (at_do HCC.out h 2 7 (by decide) (by decide)).mono fun r w' q => ⟨by rw [q.1, hq1], hm1 ▸ q.2.1⟩))
                  obtain ⟨M1, hM1⟩ : ∃ M, md.works = M := ⟨_, rfl⟩
                  have hac : actsM true md = (((M1.decides true).again 1).2.again 2).2 := by unfold actsM; rw [hM1]
                  rw [hM1] at HD2
                  by_cases h0 : (M1.act 1 9).1 = 0
                  · have hdc : M1.decides true = (M1.act 1 9).2 := by unfold PairM.decides; simp [h0]
                    have HD1 := Lib.hid (fun w1 (h : At J w w (fun _ : Nat => False) g M1 w1) => (show Calls Tryd.prog 29 #[.pointer (some ⟨g, 0, none⟩), .int .i64 1, .int .i64 9] w1 fun r w' => r = .returned .nilIface ∧ At J w w (fun _ : Nat => False) g (M1.decides true) w' from (at_do HCC.out h 1 9 (by decide) (by decide)).mono fun r w' q => ⟨by rw [q.1, h0, errI_nil], hdc ▸ q.2.1⟩))
                    obtain ⟨M2, hM2⟩ : ∃ M, M1.decides true = M := ⟨_, rfl⟩
                    rw [hM2] at hac HD1
                    have HG1 := Lib.hid (fun w1 (h : At J w w (fun _ : Nat => False) g M2 w1) => (show Calls Tryd.prog 30 #[.pointer (some ⟨g, 0, none⟩), .int .i64 1] w1 fun r w' => r = .returned (.bool (M2.again 1).1) ∧ At J w w (fun _ : Nat => False) g (M2.again 1).2 w' from (at_again HCC.out h 1 (by decide)).mono fun r w' q => ⟨q.1, q.2.1⟩))
                    obtain ⟨M3, hM3⟩ : ∃ M, (M2.again 1).2 = M := ⟨_, rfl⟩
                    rw [hM3] at hac HG1
                    have HG2 := Lib.hid (fun w1 (h : At J w w (fun _ : Nat => False) g M3 w1) => (show Calls Tryd.prog 30 #[.pointer (some ⟨g, 0, none⟩), .int .i64 2] w1 fun r w' => r = .returned (.bool (M3.again 2).1) ∧ At J w w (fun _ : Nat => False) g (actsM true md) w' from (at_again HCC.out h 2 (by decide)).mono fun r w' q => ⟨q.1, hac ▸ q.2.1⟩))
                    have HAC := Lib.hid hac
                    clear hac hdc hM1 hM2 hM3 h0 hm1 hq1 hwk
                    go_wp2_with (first | (go_at_call 25; (with_reducible refine HFL.out.mono ?_); rintro e' w5 ⟨v5, rfl, hs, hk⟩; obtain ⟨a5, c5, rfl⟩ := HSL.out _ _ hs; have A5 := Lib.hid (AI.out.kp HCC.out hk); clear hk) | (go_at_call 24; (with_reducible refine (HSX.out _ A5.out).mono ?_); rintro e' w7 ⟨rfl, hk⟩; have hk2 := Kp.trans hk (kp_alloc w7 (.cells #[.int .i64 xp, .int .i64 xe, .int .i64 xs, .int .i64 xh] 23)); have A7 := Lib.hid (A5.out.kp HCC.out hk2); have b7 := (MapKept.heap_alloc w7 (.cells #[.int .i64 xp, .int .i64 xe, .int .i64 xs, .int .i64 xh] 23)).1; obtain ⟨g0, g1, g2, g3⟩ := cells_4 b7; clear hk hk2 b7) | (go_at_call 18; (with_reducible refine (HWX.out _ A7.out.base).mono ?_); rintro e' w8 ⟨rfl, hk⟩; have A8 := Lib.hid (A7.out.kp HCC.out hk); clear hk) | (go_at_call 29; (with_reducible refine (HD2.out _ A8.out).mono ?_); rintro e' w9 ⟨rfl, ha⟩; have A9 := Lib.hid ha; clear ha) | (go_at_call 29; (with_reducible refine (HD1.out _ A9.out).mono ?_); rintro e' w10 ⟨rfl, ha⟩; have A10 := Lib.hid ha; clear ha) | (go_at_call 30; (with_reducible refine (HG1.out _ A10.out).mono ?_); rintro e' w12 ⟨rfl, ha⟩; have A12 := Lib.hid ha; clear ha) | (go_at_call 30; (with_reducible refine (HG2.out _ A12.out).mono ?_); rintro e' w13 ⟨rfl, ha⟩; have A13 := Lib.hid ha; clear ha))
                    have hj1 : (j : Int) = jj := HJ.out
                    have hlt1 : j < 6 := HLT.out
                    go_roundw
                    case rel => exact ⟨j + 1, hlt1, by rw [← hj1]; rfl, _, HNX.out, A13.out⟩
                    case measure => simp [intOf]; omega
                  · have hdc : M1.decides true = (M1.act 1 10).2 := by unfold PairM.decides; simp [h0]
                    have hsm := act_err h0
                    obtain ⟨q2, hq2⟩ : ∃ q, errI ads (M1.act 1 9).1 = .iface 128 (.pointer q) := ⟨_, if_neg h0⟩
                    obtain ⟨q3, hq3⟩ : ∃ q, errI ads (M1.act 1 10).1 = q := ⟨_, rfl⟩
                    have HD1 := Lib.hid (fun w1 (h : At J w w (fun _ : Nat => False) g M1 w1) => (show Calls Tryd.prog 29 #[.pointer (some ⟨g, 0, none⟩), .int .i64 1, .int .i64 9] w1 fun r w' => r = .returned (.iface 128 (.pointer q2)) ∧ At J w w (fun _ : Nat => False) g M1 w' from (at_do HCC.out h 1 9 (by decide) (by decide)).mono fun r w' q => ⟨by rw [q.1, hq2], hsm ▸ q.2.1⟩))
                    have HDC := Lib.hid (fun w1 (h : At J w w (fun _ : Nat => False) g M1 w1) => (show Calls Tryd.prog 29 #[.pointer (some ⟨g, 0, none⟩), .int .i64 1, .int .i64 10] w1 fun r w' => r = .returned q3 ∧ At J w w (fun _ : Nat => False) g (M1.decides true) w' from (at_do HCC.out h 1 10 (by decide) (by decide)).mono fun r w' q => ⟨by rw [q.1, hq3], hdc ▸ q.2.1⟩))
                    obtain ⟨M2, hM2⟩ : ∃ M, M1.decides true = M := ⟨_, rfl⟩
                    rw [hM2] at hac HDC
                    have HG1 := Lib.hid (fun w1 (h : At J w w (fun _ : Nat => False) g M2 w1) => (show Calls Tryd.prog 30 #[.pointer (some ⟨g, 0, none⟩), .int .i64 1] w1 fun r w' => r = .returned (.bool (M2.again 1).1) ∧ At J w w (fun _ : Nat => False) g (M2.again 1).2 w' from (at_again HCC.out h 1 (by decide)).mono fun r w' q => ⟨q.1, q.2.1⟩))
                    obtain ⟨M3, hM3⟩ : ∃ M, (M2.again 1).2 = M := ⟨_, rfl⟩
                    rw [hM3] at hac HG1
                    have HG2 := Lib.hid (fun w1 (h : At J w w (fun _ : Nat => False) g M3 w1) => (show Calls Tryd.prog 30 #[.pointer (some ⟨g, 0, none⟩), .int .i64 2] w1 fun r w' => r = .returned (.bool (M3.again 2).1) ∧ At J w w (fun _ : Nat => False) g (actsM true md) w' from (at_again HCC.out h 2 (by decide)).mono fun r w' q => ⟨q.1, hac ▸ q.2.1⟩))
                    have HAC := Lib.hid hac
                    clear hac hdc hM1 hM2 hM3 h0 hm1 hq1 hsm hq2 hq3 hwk
                    go_wp2_with (first | (go_at_call 25; (with_reducible refine HFL.out.mono ?_); rintro e' w5 ⟨v5, rfl, hs, hk⟩; obtain ⟨a5, c5, rfl⟩ := HSL.out _ _ hs; have A5 := Lib.hid (AI.out.kp HCC.out hk); clear hk) | (go_at_call 24; (with_reducible refine (HSX.out _ A5.out).mono ?_); rintro e' w7 ⟨rfl, hk⟩; have hk2 := Kp.trans hk (kp_alloc w7 (.cells #[.int .i64 xp, .int .i64 xe, .int .i64 xs, .int .i64 xh] 23)); have A7 := Lib.hid (A5.out.kp HCC.out hk2); have b7 := (MapKept.heap_alloc w7 (.cells #[.int .i64 xp, .int .i64 xe, .int .i64 xs, .int .i64 xh] 23)).1; obtain ⟨g0, g1, g2, g3⟩ := cells_4 b7; clear hk hk2 b7) | (go_at_call 18; (with_reducible refine (HWX.out _ A7.out.base).mono ?_); rintro e' w8 ⟨rfl, hk⟩; have A8 := Lib.hid (A7.out.kp HCC.out hk); clear hk) | (go_at_call 29; (with_reducible refine (HD2.out _ A8.out).mono ?_); rintro e' w9 ⟨rfl, ha⟩; have A9 := Lib.hid ha; clear ha) | (go_at_call 29; (with_reducible refine (HD1.out _ A9.out).mono ?_); rintro e' w10 ⟨rfl, ha⟩; have A10 := Lib.hid ha; clear ha) | (go_at_call 29; (with_reducible refine (HDC.out _ A10.out).mono ?_); rintro e' w11 ⟨rfl, ha⟩; have A11 := Lib.hid ha; clear ha) | (go_at_call 30; (with_reducible refine (HG1.out _ A11.out).mono ?_); rintro e' w12 ⟨rfl, ha⟩; have A12 := Lib.hid ha; clear ha) | (go_at_call 30; (with_reducible refine (HG2.out _ A12.out).mono ?_); rintro e' w13 ⟨rfl, ha⟩; have A13 := Lib.hid ha; clear ha))
                    have hj1 : (j : Int) = jj := HJ.out
                    have hlt1 : j < 6 := HLT.out
                    go_roundw
                    case rel => exact ⟨j + 1, hlt1, by rw [← hj1]; rfl, _, HNX.out, A13.out⟩
                    case measure => simp [intOf]; omega
                | false =>
                  have hm1 : md.works = (md.act 2 7).2 := by unfold PairM.works; simp [hwk]
                  obtain ⟨q1, hq1⟩ : ∃ q, errI ads (md.act 2 7).1 = q := ⟨_, rfl⟩
                  have HD2 := Lib.hid (fun w1 (h : At J w w (fun _ : Nat => False) g md w1) => (show Calls Tryd.prog 29 #[.pointer (some ⟨g, 0, none⟩), .int .i64 2, .int .i64 7] w1 fun r w' => r = .returned q1 ∧ At J w w (fun _ : Nat => False) g md.works w' from (at_do HCC.out h 2 7 (by decide) (by decide)).mono fun r w' q => ⟨by rw [q.1, hq1], hm1 ▸ q.2.1⟩))
                  obtain ⟨M1, hM1⟩ : ∃ M, md.works = M := ⟨_, rfl⟩
                  have hac : actsM false md = (((M1.decides false).again 1).2.again 2).2 := by unfold actsM; rw [hM1]
                  rw [hM1] at HD2
                  by_cases h0 : (M1.act 1 11).1 = 0
                  · have hdc : M1.decides false = (M1.act 1 11).2 := by unfold PairM.decides; simp [h0]
                    have HD1 := Lib.hid (fun w1 (h : At J w w (fun _ : Nat => False) g M1 w1) => (show Calls Tryd.prog 29 #[.pointer (some ⟨g, 0, none⟩), .int .i64 1, .int .i64 11] w1 fun r w' => r = .returned .nilIface ∧ At J w w (fun _ : Nat => False) g (M1.decides false) w' from (at_do HCC.out h 1 11 (by decide) (by decide)).mono fun r w' q => ⟨by rw [q.1, h0, errI_nil], hdc ▸ q.2.1⟩))
                    obtain ⟨M2, hM2⟩ : ∃ M, M1.decides false = M := ⟨_, rfl⟩
                    rw [hM2] at hac HD1
                    have HG1 := Lib.hid (fun w1 (h : At J w w (fun _ : Nat => False) g M2 w1) => (show Calls Tryd.prog 30 #[.pointer (some ⟨g, 0, none⟩), .int .i64 1] w1 fun r w' => r = .returned (.bool (M2.again 1).1) ∧ At J w w (fun _ : Nat => False) g (M2.again 1).2 w' from (at_again HCC.out h 1 (by decide)).mono fun r w' q => ⟨q.1, q.2.1⟩))
                    obtain ⟨M3, hM3⟩ : ∃ M, (M2.again 1).2 = M := ⟨_, rfl⟩
                    rw [hM3] at hac HG1
                    have HG2 := Lib.hid (fun w1 (h : At J w w (fun _ : Nat => False) g M3 w1) => (show Calls Tryd.prog 30 #[.pointer (some ⟨g, 0, none⟩), .int .i64 2] w1 fun r w' => r = .returned (.bool (M3.again 2).1) ∧ At J w w (fun _ : Nat => False) g (actsM false md) w' from (at_again HCC.out h 2 (by decide)).mono fun r w' q => ⟨q.1, hac ▸ q.2.1⟩))
                    have HAC := Lib.hid hac
                    clear hac hdc hM1 hM2 hM3 h0 hm1 hq1 hwk
                    go_wp2_with (first | (go_at_call 25; (with_reducible refine HFL.out.mono ?_); rintro e' w5 ⟨v5, rfl, hs, hk⟩; obtain ⟨a5, c5, rfl⟩ := HSL.out _ _ hs; have A5 := Lib.hid (AI.out.kp HCC.out hk); clear hk) | (go_at_call 24; (with_reducible refine (HSX.out _ A5.out).mono ?_); rintro e' w7 ⟨rfl, hk⟩; have hk2 := Kp.trans hk (kp_alloc w7 (.cells #[.int .i64 xp, .int .i64 xe, .int .i64 xs, .int .i64 xh] 23)); have A7 := Lib.hid (A5.out.kp HCC.out hk2); have b7 := (MapKept.heap_alloc w7 (.cells #[.int .i64 xp, .int .i64 xe, .int .i64 xs, .int .i64 xh] 23)).1; obtain ⟨g0, g1, g2, g3⟩ := cells_4 b7; clear hk hk2 b7) | (go_at_call 18; (with_reducible refine (HWX.out _ A7.out.base).mono ?_); rintro e' w8 ⟨rfl, hk⟩; have A8 := Lib.hid (A7.out.kp HCC.out hk); clear hk) | (go_at_call 29; (with_reducible refine (HD2.out _ A8.out).mono ?_); rintro e' w9 ⟨rfl, ha⟩; have A9 := Lib.hid ha; clear ha) | (go_at_call 29; (with_reducible refine (HD1.out _ A9.out).mono ?_); rintro e' w10 ⟨rfl, ha⟩; have A10 := Lib.hid ha; clear ha) | (go_at_call 30; (with_reducible refine (HG1.out _ A10.out).mono ?_); rintro e' w12 ⟨rfl, ha⟩; have A12 := Lib.hid ha; clear ha) | (go_at_call 30; (with_reducible refine (HG2.out _ A12.out).mono ?_); rintro e' w13 ⟨rfl, ha⟩; have A13 := Lib.hid ha; clear ha))
                    have hj1 : (j : Int) = jj := HJ.out
                    have hlt1 : j < 6 := HLT.out
                    go_roundw
                    case rel => exact ⟨j + 1, hlt1, by rw [← hj1]; rfl, _, HNX.out, A13.out⟩
                    case measure => simp [intOf]; omega
                  · have hdc : M1.decides false = (M1.act 1 10).2 := by unfold PairM.decides; simp [h0]
                    have hsm := act_err h0
                    obtain ⟨q2, hq2⟩ : ∃ q, errI ads (M1.act 1 11).1 = .iface 128 (.pointer q) := ⟨_, if_neg h0⟩
                    obtain ⟨q3, hq3⟩ : ∃ q, errI ads (M1.act 1 10).1 = q := ⟨_, rfl⟩
                    have HD1 := Lib.hid (fun w1 (h : At J w w (fun _ : Nat => False) g M1 w1) => (show Calls Tryd.prog 29 #[.pointer (some ⟨g, 0, none⟩), .int .i64 1, .int .i64 11] w1 fun r w' => r = .returned (.iface 128 (.pointer q2)) ∧ At J w w (fun _ : Nat => False) g M1 w' from (at_do HCC.out h 1 11 (by decide) (by decide)).mono fun r w' q => ⟨by rw [q.1, hq2], hsm ▸ q.2.1⟩))
                    have HDC := Lib.hid (fun w1 (h : At J w w (fun _ : Nat => False) g M1 w1) => (show Calls Tryd.prog 29 #[.pointer (some ⟨g, 0, none⟩), .int .i64 1, .int .i64 10] w1 fun r w' => r = .returned q3 ∧ At J w w (fun _ : Nat => False) g (M1.decides false) w' from (at_do HCC.out h 1 10 (by decide) (by decide)).mono fun r w' q => ⟨by rw [q.1, hq3], hdc ▸ q.2.1⟩))
                    obtain ⟨M2, hM2⟩ : ∃ M, M1.decides false = M := ⟨_, rfl⟩
                    rw [hM2] at hac HDC
                    have HG1 := Lib.hid (fun w1 (h : At J w w (fun _ : Nat => False) g M2 w1) => (show Calls Tryd.prog 30 #[.pointer (some ⟨g, 0, none⟩), .int .i64 1] w1 fun r w' => r = .returned (.bool (M2.again 1).1) ∧ At J w w (fun _ : Nat => False) g (M2.again 1).2 w' from (at_again HCC.out h 1 (by decide)).mono fun r w' q => ⟨q.1, q.2.1⟩))
                    obtain ⟨M3, hM3⟩ : ∃ M, (M2.again 1).2 = M := ⟨_, rfl⟩
                    rw [hM3] at hac HG1
                    have HG2 := Lib.hid (fun w1 (h : At J w w (fun _ : Nat => False) g M3 w1) => (show Calls Tryd.prog 30 #[.pointer (some ⟨g, 0, none⟩), .int .i64 2] w1 fun r w' => r = .returned (.bool (M3.again 2).1) ∧ At J w w (fun _ : Nat => False) g (actsM false md) w' from (at_again HCC.out h 2 (by decide)).mono fun r w' q => ⟨q.1, hac ▸ q.2.1⟩))
                    have HAC := Lib.hid hac
                    clear hac hdc hM1 hM2 hM3 h0 hm1 hq1 hsm hq2 hq3 hwk
                    go_wp2_with (first | (go_at_call 25; (with_reducible refine HFL.out.mono ?_); rintro e' w5 ⟨v5, rfl, hs, hk⟩; obtain ⟨a5, c5, rfl⟩ := HSL.out _ _ hs; have A5 := Lib.hid (AI.out.kp HCC.out hk); clear hk) | (go_at_call 24; (with_reducible refine (HSX.out _ A5.out).mono ?_); rintro e' w7 ⟨rfl, hk⟩; have hk2 := Kp.trans hk (kp_alloc w7 (.cells #[.int .i64 xp, .int .i64 xe, .int .i64 xs, .int .i64 xh] 23)); have A7 := Lib.hid (A5.out.kp HCC.out hk2); have b7 := (MapKept.heap_alloc w7 (.cells #[.int .i64 xp, .int .i64 xe, .int .i64 xs, .int .i64 xh] 23)).1; obtain ⟨g0, g1, g2, g3⟩ := cells_4 b7; clear hk hk2 b7) | (go_at_call 18; (with_reducible refine (HWX.out _ A7.out.base).mono ?_); rintro e' w8 ⟨rfl, hk⟩; have A8 := Lib.hid (A7.out.kp HCC.out hk); clear hk) | (go_at_call 29; (with_reducible refine (HD2.out _ A8.out).mono ?_); rintro e' w9 ⟨rfl, ha⟩; have A9 := Lib.hid ha; clear ha) | (go_at_call 29; (with_reducible refine (HD1.out _ A9.out).mono ?_); rintro e' w10 ⟨rfl, ha⟩; have A10 := Lib.hid ha; clear ha) | (go_at_call 29; (with_reducible refine (HDC.out _ A10.out).mono ?_); rintro e' w11 ⟨rfl, ha⟩; have A11 := Lib.hid ha; clear ha) | (go_at_call 30; (with_reducible refine (HG1.out _ A11.out).mono ?_); rintro e' w12 ⟨rfl, ha⟩; have A12 := Lib.hid ha; clear ha) | (go_at_call 30; (with_reducible refine (HG2.out _ A12.out).mono ?_); rintro e' w13 ⟨rfl, ha⟩; have A13 := Lib.hid ha; clear ha))
                    have hj1 : (j : Int) = jj := HJ.out
                    have hlt1 : j < 6 := HLT.out
                    go_roundw
                    case rel => exact ⟨j + 1, hlt1, by rw [← hj1]; rfl, _, HNX.out, A13.out⟩
                    case measure => simp [intOf]; omega
              by_cases n10 : wk = 10
              · subst n10
                have hwk := hxw
                clear hxw
                cases c with
                | true =>
                  have hm1 : md.works = (md.act 2 6).2 := by unfold PairM.works; simp [hwk]
                  obtain ⟨q1, hq1⟩ : ∃ q, errI ads (md.act 2 6).1 = q := ⟨_, rfl⟩
                  have HD2 := Lib.hid (fun w1 (h : At J w w (fun _ : Nat => False) g md w1) => (show Calls Tryd.prog 29 #[.pointer (some ⟨g, 0, none⟩), .int .i64 2, .int .i64 6] w1 fun r w' => r = .returned q1 ∧ At J w w (fun _ : Nat => False) g md.works w' from (at_do HCC.out h 2 6 (by decide) (by decide)).mono fun r w' q => ⟨by rw [q.1, hq1], hm1 ▸ q.2.1⟩))
                  obtain ⟨M1, hM1⟩ : ∃ M, md.works = M := ⟨_, rfl⟩
                  have hac : actsM true md = (((M1.decides true).again 1).2.again 2).2 := by unfold actsM; rw [hM1]
                  rw [hM1] at HD2
                  by_cases h0 : (M1.act 1 9).1 = 0
                  · have hdc : M1.decides true = (M1.act 1 9).2 := by unfold PairM.decides; simp [h0]
                    have HD1 := Lib.hid (fun w1 (h : At J w w (fun _ : Nat => False) g M1 w1) => (show Calls Tryd.prog 29 #[.pointer (some ⟨g, 0, none⟩), .int .i64 1, .int .i64 9] w1 fun r w' => r = .returned .nilIface ∧ At J w w (fun _ : Nat => False) g (M1.decides true) w' from (at_do HCC.out h 1 9 (by decide) (by decide)).mono fun r w' q => ⟨by rw [q.1, h0, errI_nil], hdc ▸ q.2.1⟩))
                    obtain ⟨M2, hM2⟩ : ∃ M, M1.decides true = M := ⟨_, rfl⟩
                    rw [hM2] at hac HD1
                    have HG1 := Lib.hid (fun w1 (h : At J w w (fun _ : Nat => False) g M2 w1) => (show Calls Tryd.prog 30 #[.pointer (some ⟨g, 0, none⟩), .int .i64 1] w1 fun r w' => r = .returned (.bool (M2.again 1).1) ∧ At J w w (fun _ : Nat => False) g (M2.again 1).2 w' from (at_again HCC.out h 1 (by decide)).mono fun r w' q => ⟨q.1, q.2.1⟩))
                    obtain ⟨M3, hM3⟩ : ∃ M, (M2.again 1).2 = M := ⟨_, rfl⟩
                    rw [hM3] at hac HG1
                    have HG2 := Lib.hid (fun w1 (h : At J w w (fun _ : Nat => False) g M3 w1) => (show Calls Tryd.prog 30 #[.pointer (some ⟨g, 0, none⟩), .int .i64 2] w1 fun r w' => r = .returned (.bool (M3.again 2).1) ∧ At J w w (fun _ : Nat => False) g (actsM true md) w' from (at_again HCC.out h 2 (by decide)).mono fun r w' q => ⟨q.1, hac ▸ q.2.1⟩))
                    have HAC := Lib.hid hac
                    clear hac hdc hM1 hM2 hM3 h0 hm1 hq1 hwk
                    go_wp2_with (first | (go_at_call 25; (with_reducible refine HFL.out.mono ?_); rintro e' w5 ⟨v5, rfl, hs, hk⟩; obtain ⟨a5, c5, rfl⟩ := HSL.out _ _ hs; have A5 := Lib.hid (AI.out.kp HCC.out hk); clear hk) | (go_at_call 24; (with_reducible refine (HSX.out _ A5.out).mono ?_); rintro e' w7 ⟨rfl, hk⟩; have hk2 := Kp.trans hk (kp_alloc w7 (.cells #[.int .i64 xp, .int .i64 xe, .int .i64 xs, .int .i64 xh] 23)); have A7 := Lib.hid (A5.out.kp HCC.out hk2); have b7 := (MapKept.heap_alloc w7 (.cells #[.int .i64 xp, .int .i64 xe, .int .i64 xs, .int .i64 xh] 23)).1; obtain ⟨g0, g1, g2, g3⟩ := cells_4 b7; clear hk hk2 b7) | (go_at_call 18; (with_reducible refine (HWX.out _ A7.out.base).mono ?_); rintro e' w8 ⟨rfl, hk⟩; have A8 := Lib.hid (A7.out.kp HCC.out hk); clear hk) | (go_at_call 29; (with_reducible refine (HD2.out _ A8.out).mono ?_); rintro e' w9 ⟨rfl, ha⟩; have A9 := Lib.hid ha; clear ha) | (go_at_call 29; (with_reducible refine (HD1.out _ A9.out).mono ?_); rintro e' w10 ⟨rfl, ha⟩; have A10 := Lib.hid ha; clear ha) | (go_at_call 30; (with_reducible refine (HG1.out _ A10.out).mono ?_); rintro e' w12 ⟨rfl, ha⟩; have A12 := Lib.hid ha; clear ha) | (go_at_call 30; (with_reducible refine (HG2.out _ A12.out).mono ?_); rintro e' w13 ⟨rfl, ha⟩; have A13 := Lib.hid ha; clear ha))
                    have hj1 : (j : Int) = jj := HJ.out
                    have hlt1 : j < 6 := HLT.out
                    go_roundw
                    case rel => exact ⟨j + 1, hlt1, by rw [← hj1]; rfl, _, HNX.out, A13.out⟩
                    case measure => simp [intOf]; omega
                  · have hdc : M1.decides true = (M1.act 1 10).2 := by unfold PairM.decides; simp [h0]
                    have hsm := act_err h0
                    obtain ⟨q2, hq2⟩ : ∃ q, errI ads (M1.act 1 9).1 = .iface 128 (.pointer q) := ⟨_, if_neg h0⟩
                    obtain ⟨q3, hq3⟩ : ∃ q, errI ads (M1.act 1 10).1 = q := ⟨_, rfl⟩
                    have HD1 := Lib.hid (fun w1 (h : At J w w (fun _ : Nat => False) g M1 w1) => (show Calls Tryd.prog 29 #[.pointer (some ⟨g, 0, none⟩), .int .i64 1, .int .i64 9] w1 fun r w' => r = .returned (.iface 128 (.pointer q2)) ∧ At J w w (fun _ : Nat => False) g M1 w' from (at_do HCC.out h 1 9 (by decide) (by decide)).mono fun r w' q => ⟨by rw [q.1, hq2], hsm ▸ q.2.1⟩))
                    have HDC := Lib.hid (fun w1 (h : At J w w (fun _ : Nat => False) g M1 w1) => (show Calls Tryd.prog 29 #[.pointer (some ⟨g, 0, none⟩), .int .i64 1, .int .i64 10] w1 fun r w' => r = .returned q3 ∧ At J w w (fun _ : Nat => False) g (M1.decides true) w' from (at_do HCC.out h 1 10 (by decide) (by decide)).mono fun r w' q => ⟨by rw [q.1, hq3], hdc ▸ q.2.1⟩))
                    obtain ⟨M2, hM2⟩ : ∃ M, M1.decides true = M := ⟨_, rfl⟩
                    rw [hM2] at hac HDC
                    have HG1 := Lib.hid (fun w1 (h : At J w w (fun _ : Nat => False) g M2 w1) => (show Calls Tryd.prog 30 #[.pointer (some ⟨g, 0, none⟩), .int .i64 1] w1 fun r w' => r = .returned (.bool (M2.again 1).1) ∧ At J w w (fun _ : Nat => False) g (M2.again 1).2 w' from (at_again HCC.out h 1 (by decide)).mono fun r w' q => ⟨q.1, q.2.1⟩))
                    obtain ⟨M3, hM3⟩ : ∃ M, (M2.again 1).2 = M := ⟨_, rfl⟩
                    rw [hM3] at hac HG1
                    have HG2 := Lib.hid (fun w1 (h : At J w w (fun _ : Nat => False) g M3 w1) => (show Calls Tryd.prog 30 #[.pointer (some ⟨g, 0, none⟩), .int .i64 2] w1 fun r w' => r = .returned (.bool (M3.again 2).1) ∧ At J w w (fun _ : Nat => False) g (actsM true md) w' from (at_again HCC.out h 2 (by decide)).mono fun r w' q => ⟨q.1, hac ▸ q.2.1⟩))
                    have HAC := Lib.hid hac
                    clear hac hdc hM1 hM2 hM3 h0 hm1 hq1 hsm hq2 hq3 hwk
                    go_wp2_with (first | (go_at_call 25; (with_reducible refine HFL.out.mono ?_); rintro e' w5 ⟨v5, rfl, hs, hk⟩; obtain ⟨a5, c5, rfl⟩ := HSL.out _ _ hs; have A5 := Lib.hid (AI.out.kp HCC.out hk); clear hk) | (go_at_call 24; (with_reducible refine (HSX.out _ A5.out).mono ?_); rintro e' w7 ⟨rfl, hk⟩; have hk2 := Kp.trans hk (kp_alloc w7 (.cells #[.int .i64 xp, .int .i64 xe, .int .i64 xs, .int .i64 xh] 23)); have A7 := Lib.hid (A5.out.kp HCC.out hk2); have b7 := (MapKept.heap_alloc w7 (.cells #[.int .i64 xp, .int .i64 xe, .int .i64 xs, .int .i64 xh] 23)).1; obtain ⟨g0, g1, g2, g3⟩ := cells_4 b7; clear hk hk2 b7) | (go_at_call 18; (with_reducible refine (HWX.out _ A7.out.base).mono ?_); rintro e' w8 ⟨rfl, hk⟩; have A8 := Lib.hid (A7.out.kp HCC.out hk); clear hk) | (go_at_call 29; (with_reducible refine (HD2.out _ A8.out).mono ?_); rintro e' w9 ⟨rfl, ha⟩; have A9 := Lib.hid ha; clear ha) | (go_at_call 29; (with_reducible refine (HD1.out _ A9.out).mono ?_); rintro e' w10 ⟨rfl, ha⟩; have A10 := Lib.hid ha; clear ha) | (go_at_call 29; (with_reducible refine (HDC.out _ A10.out).mono ?_); rintro e' w11 ⟨rfl, ha⟩; have A11 := Lib.hid ha; clear ha) | (go_at_call 30; (with_reducible refine (HG1.out _ A11.out).mono ?_); rintro e' w12 ⟨rfl, ha⟩; have A12 := Lib.hid ha; clear ha) | (go_at_call 30; (with_reducible refine (HG2.out _ A12.out).mono ?_); rintro e' w13 ⟨rfl, ha⟩; have A13 := Lib.hid ha; clear ha))
                    have hj1 : (j : Int) = jj := HJ.out
                    have hlt1 : j < 6 := HLT.out
                    go_roundw
                    case rel => exact ⟨j + 1, hlt1, by rw [← hj1]; rfl, _, HNX.out, A13.out⟩
                    case measure => simp [intOf]; omega
                | false =>
                  have hm1 : md.works = (md.act 2 6).2 := by unfold PairM.works; simp [hwk]
                  obtain ⟨q1, hq1⟩ : ∃ q, errI ads (md.act 2 6).1 = q := ⟨_, rfl⟩
                  have HD2 := Lib.hid (fun w1 (h : At J w w (fun _ : Nat => False) g md w1) => (show Calls Tryd.prog 29 #[.pointer (some ⟨g, 0, none⟩), .int .i64 2, .int .i64 6] w1 fun r w' => r = .returned q1 ∧ At J w w (fun _ : Nat => False) g md.works w' from (at_do HCC.out h 2 6 (by decide) (by decide)).mono fun r w' q => ⟨by rw [q.1, hq1], hm1 ▸ q.2.1⟩))
                  obtain ⟨M1, hM1⟩ : ∃ M, md.works = M := ⟨_, rfl⟩
                  have hac : actsM false md = (((M1.decides false).again 1).2.again 2).2 := by unfold actsM; rw [hM1]
                  rw [hM1] at HD2
                  by_cases h0 : (M1.act 1 11).1 = 0
                  · have hdc : M1.decides false = (M1.act 1 11).2 := by unfold PairM.decides; simp [h0]
                    have HD1 := Lib.hid (fun w1 (h : At J w w (fun _ : Nat => False) g M1 w1) => (show Calls Tryd.prog 29 #[.pointer (some ⟨g, 0, none⟩), .int .i64 1, .int .i64 11] w1 fun r w' => r = .returned .nilIface ∧ At J w w (fun _ : Nat => False) g (M1.decides false) w' from (at_do HCC.out h 1 11 (by decide) (by decide)).mono fun r w' q => ⟨by rw [q.1, h0, errI_nil], hdc ▸ q.2.1⟩))
                    obtain ⟨M2, hM2⟩ : ∃ M, M1.decides false = M := ⟨_, rfl⟩
                    rw [hM2] at hac HD1
                    have HG1 := Lib.hid (fun w1 (h : At J w w (fun _ : Nat => False) g M2 w1) => (show Calls Tryd.prog 30 #[.pointer (some ⟨g, 0, none⟩), .int .i64 1] w1 fun r w' => r = .returned (.bool (M2.again 1).1) ∧ At J w w (fun _ : Nat => False) g (M2.again 1).2 w' from (at_again HCC.out h 1 (by decide)).mono fun r w' q => ⟨q.1, q.2.1⟩))
                    obtain ⟨M3, hM3⟩ : ∃ M, (M2.again 1).2 = M := ⟨_, rfl⟩
                    rw [hM3] at hac HG1
                    have HG2 := Lib.hid (fun w1 (h : At J w w (fun _ : Nat => False) g M3 w1) => (show Calls Tryd.prog 30 #[.pointer (some ⟨g, 0, none⟩), .int .i64 2] w1 fun r w' => r = .returned (.bool (M3.again 2).1) ∧ At J w w (fun _ : Nat => False) g (actsM false md) w' from (at_again HCC.out h 2 (by decide)).mono fun r w' q => ⟨q.1, hac ▸ q.2.1⟩))
                    have HAC := Lib.hid hac
                    clear hac hdc hM1 hM2 hM3 h0 hm1 hq1 hwk
                    go_wp2_with (first | (go_at_call 25; (with_reducible refine HFL.out.mono ?_); rintro e' w5 ⟨v5, rfl, hs, hk⟩; obtain ⟨a5, c5, rfl⟩ := HSL.out _ _ hs; have A5 := Lib.hid (AI.out.kp HCC.out hk); clear hk) | (go_at_call 24; (with_reducible refine (HSX.out _ A5.out).mono ?_); rintro e' w7 ⟨rfl, hk⟩; have hk2 := Kp.trans hk (kp_alloc w7 (.cells #[.int .i64 xp, .int .i64 xe, .int .i64 xs, .int .i64 xh] 23)); have A7 := Lib.hid (A5.out.kp HCC.out hk2); have b7 := (MapKept.heap_alloc w7 (.cells #[.int .i64 xp, .int .i64 xe, .int .i64 xs, .int .i64 xh] 23)).1; obtain ⟨g0, g1, g2, g3⟩ := cells_4 b7; clear hk hk2 b7) | (go_at_call 18; (with_reducible refine (HWX.out _ A7.out.base).mono ?_); rintro e' w8 ⟨rfl, hk⟩; have A8 := Lib.hid (A7.out.kp HCC.out hk); clear hk) | (go_at_call 29; (with_reducible refine (HD2.out _ A8.out).mono ?_); rintro e' w9 ⟨rfl, ha⟩; have A9 := Lib.hid ha; clear ha) | (go_at_call 29; (with_reducible refine (HD1.out _ A9.out).mono ?_); rintro e' w10 ⟨rfl, ha⟩; have A10 := Lib.hid ha; clear ha) | (go_at_call 30; (with_reducible refine (HG1.out _ A10.out).mono ?_); rintro e' w12 ⟨rfl, ha⟩; have A12 := Lib.hid ha; clear ha) | (go_at_call 30; (with_reducible refine (HG2.out _ A12.out).mono ?_); rintro e' w13 ⟨rfl, ha⟩; have A13 := Lib.hid ha; clear ha))
                    have hj1 : (j : Int) = jj := HJ.out
                    have hlt1 : j < 6 := HLT.out
                    go_roundw
                    case rel => exact ⟨j + 1, hlt1, by rw [← hj1]; rfl, _, HNX.out, A13.out⟩
                    case measure => simp [intOf]; omega
                  · have hdc : M1.decides false = (M1.act 1 10).2 := by unfold PairM.decides; simp [h0]
                    have hsm := act_err h0
                    obtain ⟨q2, hq2⟩ : ∃ q, errI ads (M1.act 1 11).1 = .iface 128 (.pointer q) := ⟨_, if_neg h0⟩
                    obtain ⟨q3, hq3⟩ : ∃ q, errI ads (M1.act 1 10).1 = q := ⟨_, rfl⟩
                    have HD1 := Lib.hid (fun w1 (h : At J w w (fun _ : Nat => False) g M1 w1) => (show Calls Tryd.prog 29 #[.pointer (some ⟨g, 0, none⟩), .int .i64 1, .int .i64 11] w1 fun r w' => r = .returned (.iface 128 (.pointer q2)) ∧ At J w w (fun _ : Nat => False) g M1 w' from (at_do HCC.out h 1 11 (by decide) (by decide)).mono fun r w' q => ⟨by rw [q.1, hq2], hsm ▸ q.2.1⟩))
                    have HDC := Lib.hid (fun w1 (h : At J w w (fun _ : Nat => False) g M1 w1) => (show Calls Tryd.prog 29 #[.pointer (some ⟨g, 0, none⟩), .int .i64 1, .int .i64 10] w1 fun r w' => r = .returned q3 ∧ At J w w (fun _ : Nat => False) g (M1.decides false) w' from (at_do HCC.out h 1 10 (by decide) (by decide)).mono fun r w' q => ⟨by rw [q.1, hq3], hdc ▸ q.2.1⟩))
                    obtain ⟨M2, hM2⟩ : ∃ M, M1.decides false = M := ⟨_, rfl⟩
                    rw [hM2] at hac HDC
                    have HG1 := Lib.hid (fun w1 (h : At J w w (fun _ : Nat => False) g M2 w1) => (show Calls Tryd.prog 30 #[.pointer (some ⟨g, 0, none⟩), .int .i64 1] w1 fun r w' => r = .returned (.bool (M2.again 1).1) ∧ At J w w (fun _ : Nat => False) g (M2.again 1).2 w' from (at_again HCC.out h 1 (by decide)).mono fun r w' q => ⟨q.1, q.2.1⟩))
                    obtain ⟨M3, hM3⟩ : ∃ M, (M2.again 1).2 = M := ⟨_, rfl⟩
                    rw [hM3] at hac HG1
                    have HG2 := Lib.hid (fun w1 (h : At J w w (fun _ : Nat => False) g M3 w1) => (show Calls Tryd.prog 30 #[.pointer (some ⟨g, 0, none⟩), .int .i64 2] w1 fun r w' => r = .returned (.bool (M3.again 2).1) ∧ At J w w (fun _ : Nat => False) g (actsM false md) w' from (at_again HCC.out h 2 (by decide)).mono fun r w' q => ⟨q.1, hac ▸ q.2.1⟩))
                    have HAC := Lib.hid hac
                    clear hac hdc hM1 hM2 hM3 h0 hm1 hq1 hsm hq2 hq3 hwk
                    go_wp2_with (first | (go_at_call 25; (with_reducible refine HFL.out.mono ?_); rintro e' w5 ⟨v5, rfl, hs, hk⟩; obtain ⟨a5, c5, rfl⟩ := HSL.out _ _ hs; have A5 := Lib.hid (AI.out.kp HCC.out hk); clear hk) | (go_at_call 24; (with_reducible refine (HSX.out _ A5.out).mono ?_); rintro e' w7 ⟨rfl, hk⟩; have hk2 := Kp.trans hk (kp_alloc w7 (.cells #[.int .i64 xp, .int .i64 xe, .int .i64 xs, .int .i64 xh] 23)); have A7 := Lib.hid (A5.out.kp HCC.out hk2); have b7 := (MapKept.heap_alloc w7 (.cells #[.int .i64 xp, .int .i64 xe, .int .i64 xs, .int .i64 xh] 23)).1; obtain ⟨g0, g1, g2, g3⟩ := cells_4 b7; clear hk hk2 b7) | (go_at_call 18; (with_reducible refine (HWX.out _ A7.out.base).mono ?_); rintro e' w8 ⟨rfl, hk⟩; have A8 := Lib.hid (A7.out.kp HCC.out hk); clear hk) | (go_at_call 29; (with_reducible refine (HD2.out _ A8.out).mono ?_); rintro e' w9 ⟨rfl, ha⟩; have A9 := Lib.hid ha; clear ha) | (go_at_call 29; (with_reducible refine (HD1.out _ A9.out).mono ?_); rintro e' w10 ⟨rfl, ha⟩; have A10 := Lib.hid ha; clear ha) | (go_at_call 29; (with_reducible refine (HDC.out _ A10.out).mono ?_); rintro e' w11 ⟨rfl, ha⟩; have A11 := Lib.hid ha; clear ha) | (go_at_call 30; (with_reducible refine (HG1.out _ A11.out).mono ?_); rintro e' w12 ⟨rfl, ha⟩; have A12 := Lib.hid ha; clear ha) | (go_at_call 30; (with_reducible refine (HG2.out _ A12.out).mono ?_); rintro e' w13 ⟨rfl, ha⟩; have A13 := Lib.hid ha; clear ha))
                    have hj1 : (j : Int) = jj := HJ.out
                    have hlt1 : j < 6 := HLT.out
                    go_roundw
                    case rel => exact ⟨j + 1, hlt1, by rw [← hj1]; rfl, _, HNX.out, A13.out⟩
                    case measure => simp [intOf]; omega
              by_cases n11 : wk = 11
              · subst n11
                have hwk := hxw
                clear hxw
                cases c with
                | true =>
                  have hm1 : md.works = (md.act 2 8).2 := by unfold PairM.works; simp [hwk]
                  obtain ⟨q1, hq1⟩ : ∃ q, errI ads (md.act 2 8).1 = q := ⟨_, rfl⟩
                  have HD2 := Lib.hid (fun w1 (h : At J w w (fun _ : Nat => False) g md w1) => (show Calls Tryd.prog 29 #[.pointer (some ⟨g, 0, none⟩), .int .i64 2, .int .i64 8] w1 fun r w' => r = .returned q1 ∧ At J w w (fun _ : Nat => False) g md.works w' from (at_do HCC.out h 2 8 (by decide) (by decide)).mono fun r w' q => ⟨by rw [q.1, hq1], hm1 ▸ q.2.1⟩))
                  obtain ⟨M1, hM1⟩ : ∃ M, md.works = M := ⟨_, rfl⟩
                  have hac : actsM true md = (((M1.decides true).again 1).2.again 2).2 := by unfold actsM; rw [hM1]
                  rw [hM1] at HD2
                  by_cases h0 : (M1.act 1 9).1 = 0
                  · have hdc : M1.decides true = (M1.act 1 9).2 := by unfold PairM.decides; simp [h0]
                    have HD1 := Lib.hid (fun w1 (h : At J w w (fun _ : Nat => False) g M1 w1) => (show Calls Tryd.prog 29 #[.pointer (some ⟨g, 0, none⟩), .int .i64 1, .int .i64 9] w1 fun r w' => r = .returned .nilIface ∧ At J w w (fun _ : Nat => False) g (M1.decides true) w' from (at_do HCC.out h 1 9 (by decide) (by decide)).mono fun r w' q => ⟨by rw [q.1, h0, errI_nil], hdc ▸ q.2.1⟩))
                    obtain ⟨M2, hM2⟩ : ∃ M, M1.decides true = M := ⟨_, rfl⟩
                    rw [hM2] at hac HD1
                    have HG1 := Lib.hid (fun w1 (h : At J w w (fun _ : Nat => False) g M2 w1) => (show Calls Tryd.prog 30 #[.pointer (some ⟨g, 0, none⟩), .int .i64 1] w1 fun r w' => r = .returned (.bool (M2.again 1).1) ∧ At J w w (fun _ : Nat => False) g (M2.again 1).2 w' from (at_again HCC.out h 1 (by decide)).mono fun r w' q => ⟨q.1, q.2.1⟩))
                    obtain ⟨M3, hM3⟩ : ∃ M, (M2.again 1).2 = M := ⟨_, rfl⟩
                    rw [hM3] at hac HG1
                    have HG2 := Lib.hid (fun w1 (h : At J w w (fun _ : Nat => False) g M3 w1) => (show Calls Tryd.prog 30 #[.pointer (some ⟨g, 0, none⟩), .int .i64 2] w1 fun r w' => r = .returned (.bool (M3.again 2).1) ∧ At J w w (fun _ : Nat => False) g (actsM true md) w' from (at_again HCC.out h 2 (by decide)).mono fun r w' q => ⟨q.1, hac ▸ q.2.1⟩))
                    have HAC := Lib.hid hac
                    clear hac hdc hM1 hM2 hM3 h0 hm1 hq1 hwk
                    go_wp2_with (first | (go_at_call 25; (with_reducible refine HFL.out.mono ?_); rintro e' w5 ⟨v5, rfl, hs, hk⟩; obtain ⟨a5, c5, rfl⟩ := HSL.out _ _ hs; have A5 := Lib.hid (AI.out.kp HCC.out hk); clear hk) | (go_at_call 24; (with_reducible refine (HSX.out _ A5.out).mono ?_); rintro e' w7 ⟨rfl, hk⟩; have hk2 := Kp.trans hk (kp_alloc w7 (.cells #[.int .i64 xp, .int .i64 xe, .int .i64 xs, .int .i64 xh] 23)); have A7 := Lib.hid (A5.out.kp HCC.out hk2); have b7 := (MapKept.heap_alloc w7 (.cells #[.int .i64 xp, .int .i64 xe, .int .i64 xs, .int .i64 xh] 23)).1; obtain ⟨g0, g1, g2, g3⟩ := cells_4 b7; clear hk hk2 b7) | (go_at_call 18; (with_reducible refine (HWX.out _ A7.out.base).mono ?_); rintro e' w8 ⟨rfl, hk⟩; have A8 := Lib.hid (A7.out.kp HCC.out hk); clear hk) | (go_at_call 29; (with_reducible refine (HD2.out _ A8.out).mono ?_); rintro e' w9 ⟨rfl, ha⟩; have A9 := Lib.hid ha; clear ha) | (go_at_call 29; (with_reducible refine (HD1.out _ A9.out).mono ?_); rintro e' w10 ⟨rfl, ha⟩; have A10 := Lib.hid ha; clear ha) | (go_at_call 30; (with_reducible refine (HG1.out _ A10.out).mono ?_); rintro e' w12 ⟨rfl, ha⟩; have A12 := Lib.hid ha; clear ha) | (go_at_call 30; (with_reducible refine (HG2.out _ A12.out).mono ?_); rintro e' w13 ⟨rfl, ha⟩; have A13 := Lib.hid ha; clear ha))
                    have hj1 : (j : Int) = jj := HJ.out
                    have hlt1 : j < 6 := HLT.out
                    go_roundw
                    case rel => exact ⟨j + 1, hlt1, by rw [← hj1]; rfl, _, HNX.out, A13.out⟩
                    case measure => simp [intOf]; omega
                  · have hdc : M1.decides true = (M1.act 1 10).2 := by unfold PairM.decides; simp [h0]
                    have hsm := act_err h0
                    obtain ⟨q2, hq2⟩ : ∃ q, errI ads (M1.act 1 9).1 = .iface 128 (.pointer q) := ⟨_, if_neg h0⟩
                    obtain ⟨q3, hq3⟩ : ∃ q, errI ads (M1.act 1 10).1 = q := ⟨_, rfl⟩
                    have HD1 := Lib.hid (fun w1 (h : At J w w (fun _ : Nat => False) g M1 w1) => (show Calls Tryd.prog 29 #[.pointer (some ⟨g, 0, none⟩), .int .i64 1, .int .i64 9] w1 fun r w' => r = .returned (.iface 128 (.pointer q2)) ∧ At J w w (fun _ : Nat => False) g M1 w' from (at_do HCC.out h 1 9 (by decide) (by decide)).mono fun r w' q => ⟨by rw [q.1, hq2], hsm ▸ q.2.1⟩))
                    have HDC := Lib.hid (fun w1 (h : At J w w (fun _ : Nat => False) g M1 w1) => (show Calls Tryd.prog 29 #[.pointer (some ⟨g, 0, none⟩), .int .i64 1, .int .i64 10] w1 fun r w' => r = .returned q3 ∧ At J w w (fun _ : Nat => False) g (M1.decides true) w' from (at_do HCC.out h 1 10 (by decide) (by decide)).mono fun r w' q => ⟨by rw [q.1, hq3], hdc ▸ q.2.1⟩))
                    obtain ⟨M2, hM2⟩ : ∃ M, M1.decides true = M := ⟨_, rfl⟩
                    rw [hM2] at hac HDC
                    have HG1 := Lib.hid (fun w1 (h : At J w w (fun _ : Nat => False) g M2 w1) => (show Calls Tryd.prog 30 #[.pointer (some ⟨g, 0, none⟩), .int .i64 1] w1 fun r w' => r = .returned (.bool (M2.again 1).1) ∧ At J w w (fun _ : Nat => False) g (M2.again 1).2 w' from (at_again HCC.out h 1 (by decide)).mono fun r w' q => ⟨q.1, q.2.1⟩))
                    obtain ⟨M3, hM3⟩ : ∃ M, (M2.again 1).2 = M := ⟨_, rfl⟩
                    rw [hM3] at hac HG1
                    have HG2 := Lib.hid (fun w1 (h : At J w w (fun _ : Nat => False) g M3 w1) => (show Calls Tryd.prog 30 #[.pointer (some ⟨g, 0, none⟩), .int .i64 2] w1 fun r w' => r = .returned (.bool (M3.again 2).1) ∧ At J w w (fun _ : Nat => False) g (actsM true md) w' from (at_again HCC.out h 2 (by decide)).mono fun r w' q => ⟨q.1, hac ▸ q.2.1⟩))
                    have HAC := Lib.hid hac
                    clear hac hdc hM1 hM2 hM3 h0 hm1 hq1 hsm hq2 hq3 hwk
                    go_wp2_with (first | (go_at_call 25; (with_reducible refine HFL.out.mono ?_); rintro e' w5 ⟨v5, rfl, hs, hk⟩; obtain ⟨a5, c5, rfl⟩ := HSL.out _ _ hs; have A5 := Lib.hid (AI.out.kp HCC.out hk); clear hk) | (go_at_call 24; (with_reducible refine (HSX.out _ A5.out).mono ?_); rintro e' w7 ⟨rfl, hk⟩; have hk2 := Kp.trans hk (kp_alloc w7 (.cells #[.int .i64 xp, .int .i64 xe, .int .i64 xs, .int .i64 xh] 23)); have A7 := Lib.hid (A5.out.kp HCC.out hk2); have b7 := (MapKept.heap_alloc w7 (.cells #[.int .i64 xp, .int .i64 xe, .int .i64 xs, .int .i64 xh] 23)).1; obtain ⟨g0, g1, g2, g3⟩ := cells_4 b7; clear hk hk2 b7) | (go_at_call 18; (with_reducible refine (HWX.out _ A7.out.base).mono ?_); rintro e' w8 ⟨rfl, hk⟩; have A8 := Lib.hid (A7.out.kp HCC.out hk); clear hk) | (go_at_call 29; (with_reducible refine (HD2.out _ A8.out).mono ?_); rintro e' w9 ⟨rfl, ha⟩; have A9 := Lib.hid ha; clear ha) | (go_at_call 29; (with_reducible refine (HD1.out _ A9.out).mono ?_); rintro e' w10 ⟨rfl, ha⟩; have A10 := Lib.hid ha; clear ha) | (go_at_call 29; (with_reducible refine (HDC.out _ A10.out).mono ?_); rintro e' w11 ⟨rfl, ha⟩; have A11 := Lib.hid ha; clear ha) | (go_at_call 30; (with_reducible refine (HG1.out _ A11.out).mono ?_); rintro e' w12 ⟨rfl, ha⟩; have A12 := Lib.hid ha; clear ha) | (go_at_call 30; (with_reducible refine (HG2.out _ A12.out).mono ?_); rintro e' w13 ⟨rfl, ha⟩; have A13 := Lib.hid ha; clear ha))
                    have hj1 : (j : Int) = jj := HJ.out
                    have hlt1 : j < 6 := HLT.out
                    go_roundw
                    case rel => exact ⟨j + 1, hlt1, by rw [← hj1]; rfl, _, HNX.out, A13.out⟩
                    case measure => simp [intOf]; omega
                | false =>
                  have hm1 : md.works = (md.act 2 8).2 := by unfold PairM.works; simp [hwk]
                  obtain ⟨q1, hq1⟩ : ∃ q, errI ads (md.act 2 8).1 = q := ⟨_, rfl⟩
                  have HD2 := Lib.hid (fun w1 (h : At J w w (fun _ : Nat => False) g md w1) => (show Calls Tryd.prog 29 #[.pointer (some ⟨g, 0, none⟩), .int .i64 2, .int .i64 8] w1 fun r w' => r = .returned q1 ∧ At J w w (fun _ : Nat => False) g md.works w' from (at_do HCC.out h 2 8 (by decide) (by decide)).mono fun r w' q => ⟨by rw [q.1, hq1], hm1 ▸ q.2.1⟩))
                  obtain ⟨M1, hM1⟩ : ∃ M, md.works = M := ⟨_, rfl⟩
                  have hac : actsM false md = (((M1.decides false).again 1).2.again 2).2 := by unfold actsM; rw [hM1]
                  rw [hM1] at HD2
                  by_cases h0 : (M1.act 1 11).1 = 0
                  · have hdc : M1.decides false = (M1.act 1 11).2 := by unfold PairM.decides; simp [h0]
                    have HD1 := Lib.hid (fun w1 (h : At J w w (fun _ : Nat => False) g M1 w1) => (show Calls Tryd.prog 29 #[.pointer (some ⟨g, 0, none⟩), .int .i64 1, .int .i64 11] w1 fun r w' => r = .returned .nilIface ∧ At J w w (fun _ : Nat => False) g (M1.decides false) w' from (at_do HCC.out h 1 11 (by decide) (by decide)).mono fun r w' q => ⟨by rw [q.1, h0, errI_nil], hdc ▸ q.2.1⟩))
                    obtain ⟨M2, hM2⟩ : ∃ M, M1.decides false = M := ⟨_, rfl⟩
                    rw [hM2] at hac HD1
                    have HG1 := Lib.hid (fun w1 (h : At J w w (fun _ : Nat => False) g M2 w1) => (show Calls Tryd.prog 30 #[.pointer (some ⟨g, 0, none⟩), .int .i64 1] w1 fun r w' => r = .returned (.bool (M2.again 1).1) ∧ At J w w (fun _ : Nat => False) g (M2.again 1).2 w' from (at_again HCC.out h 1 (by decide)).mono fun r w' q => ⟨q.1, q.2.1⟩))
                    obtain ⟨M3, hM3⟩ : ∃ M, (M2.again 1).2 = M := ⟨_, rfl⟩
                    rw [hM3] at hac HG1
                    have HG2 := Lib.hid (fun w1 (h : At J w w (fun _ : Nat => False) g M3 w1) => (show Calls Tryd.prog 30 #[.pointer (some ⟨g, 0, none⟩), .int .i64 2] w1 fun r w' => r = .returned (.bool (M3.again 2).1) ∧ At J w w (fun _ : Nat => False) g (actsM false md) w' from (at_again HCC.out h 2 (by decide)).mono fun r w' q => ⟨q.1, hac ▸ q.2.1⟩))
                    have HAC := Lib.hid hac
                    clear hac hdc hM1 hM2 hM3 h0 hm1 hq1 hwk
                    go_wp2_with (first | (go_at_call 25; (with_reducible refine HFL.out.mono ?_); rintro e' w5 ⟨v5, rfl, hs, hk⟩; obtain ⟨a5, c5, rfl⟩ := HSL.out _ _ hs; have A5 := Lib.hid (AI.out.kp HCC.out hk); clear hk) | (go_at_call 24; (with_reducible refine (HSX.out _ A5.out).mono ?_); rintro e' w7 ⟨rfl, hk⟩; have hk2 := Kp.trans hk (kp_alloc w7 (.cells #[.int .i64 xp, .int .i64 xe, .int .i64 xs, .int .i64 xh] 23)); have A7 := Lib.hid (A5.out.kp HCC.out hk2); have b7 := (MapKept.heap_alloc w7 (.cells #[.int .i64 xp, .int .i64 xe, .int .i64 xs, .int .i64 xh] 23)).1; obtain ⟨g0, g1, g2, g3⟩ := cells_4 b7; clear hk hk2 b7) | (go_at_call 18; (with_reducible refine (HWX.out _ A7.out.base).mono ?_); rintro e' w8 ⟨rfl, hk⟩; have A8 := Lib.hid (A7.out.kp HCC.out hk); clear hk) | (go_at_call 29; (with_reducible refine (HD2.out _ A8.out).mono ?_); rintro e' w9 ⟨rfl, ha⟩; have A9 := Lib.hid ha; clear ha) | (go_at_call 29; (with_reducible refine (HD1.out _ A9.out).mono ?_); rintro e' w10 ⟨rfl, ha⟩; have A10 := Lib.hid ha; clear ha) | (go_at_call 30; (with_reducible refine (HG1.out _ A10.out).mono ?_); rintro e' w12 ⟨rfl, ha⟩; have A12 := Lib.hid ha; clear ha) | (go_at_call 30; (with_reducible refine (HG2.out _ A12.out).mono ?_); rintro e' w13 ⟨rfl, ha⟩; have A13 := Lib.hid ha; clear ha))
                    have hj1 : (j : Int) = jj := HJ.out
                    have hlt1 : j < 6 := HLT.out
                    go_roundw
                    case rel => exact ⟨j + 1, hlt1, by rw [← hj1]; rfl, _, HNX.out, A13.out⟩
                    case measure => simp [intOf]; omega
                  · have hdc : M1.decides false = (M1.act 1 10).2 := by unfold PairM.decides; simp [h0]
                    have hsm := act_err h0
                    obtain ⟨q2, hq2⟩ : ∃ q, errI ads (M1.act 1 11).1 = .iface 128 (.pointer q) := ⟨_, if_neg h0⟩
                    obtain ⟨q3, hq3⟩ : ∃ q, errI ads (M1.act 1 10).1 = q := ⟨_, rfl⟩
                    have HD1 := Lib.hid (fun w1 (h : At J w w (fun _ : Nat => False) g M1 w1) => (show Calls Tryd.prog 29 #[.pointer (some ⟨g, 0, none⟩), .int .i64 1, .int .i64 11] w1 fun r w' => r = .returned (.iface 128 (.pointer q2)) ∧ At J w w (fun _ : Nat => False) g M1 w' from (at_do HCC.out h 1 11 (by decide) (by decide)).mono fun r w' q => ⟨by rw [q.1, hq2], hsm ▸ q.2.1⟩))
                    have HDC := Lib.hid (fun w1 (h : At J w w (fun _ : Nat => False) g M1 w1) => (show Calls Tryd.prog 29 #[.pointer (some ⟨g, 0, none⟩), .int .i64 1, .int .i64 10] w1 fun r w' => r = .returned q3 ∧ At J w w (fun _ : Nat => False) g (M1.decides false) w' from (at_do HCC.out h 1 10 (by decide) (by decide)).mono fun r w' q => ⟨by rw [q.1, hq3], hdc ▸ q.2.1⟩))
                    obtain ⟨M2, hM2⟩ : ∃ M, M1.decides false = M := ⟨_, rfl⟩
                    rw [hM2] at hac HDC
                    have HG1 := Lib.hid (fun w1 (h : At J w w (fun _ : Nat => False) g M2 w1) => (show Calls Tryd.prog 30 #[.pointer (some ⟨g, 0, none⟩), .int .i64 1] w1 fun r w' => r = .returned (.bool (M2.again 1).1) ∧ At J w w (fun _ : Nat => False) g (M2.again 1).2 w' from (at_again HCC.out h 1 (by decide)).mono fun r w' q => ⟨q.1, q.2.1⟩))
                    obtain ⟨M3, hM3⟩ : ∃ M, (M2.again 1).2 = M := ⟨_, rfl⟩
                    rw [hM3] at hac HG1
                    have HG2 := Lib.hid (fun w1 (h : At J w w (fun _ : Nat => False) g M3 w1) => (show Calls Tryd.prog 30 #[.pointer (some ⟨g, 0, none⟩), .int .i64 2] w1 fun r w' => r = .returned (.bool (M3.again 2).1) ∧ At J w w (fun _ : Nat => False) g (actsM false md) w' from (at_again HCC.out h 2 (by decide)).mono fun r w' q => ⟨q.1, hac ▸ q.2.1⟩))
                    have HAC := Lib.hid hac
                    clear hac hdc hM1 hM2 hM3 h0 hm1 hq1 hsm hq2 hq3 hwk
                    go_wp2_with (first | (go_at_call 25; (with_reducible refine HFL.out.mono ?_); rintro e' w5 ⟨v5, rfl, hs, hk⟩; obtain ⟨a5, c5, rfl⟩ := HSL.out _ _ hs; have A5 := Lib.hid (AI.out.kp HCC.out hk); clear hk) | (go_at_call 24; (with_reducible refine (HSX.out _ A5.out).mono ?_); rintro e' w7 ⟨rfl, hk⟩; have hk2 := Kp.trans hk (kp_alloc w7 (.cells #[.int .i64 xp, .int .i64 xe, .int .i64 xs, .int .i64 xh] 23)); have A7 := Lib.hid (A5.out.kp HCC.out hk2); have b7 := (MapKept.heap_alloc w7 (.cells #[.int .i64 xp, .int .i64 xe, .int .i64 xs, .int .i64 xh] 23)).1; obtain ⟨g0, g1, g2, g3⟩ := cells_4 b7; clear hk hk2 b7) | (go_at_call 18; (with_reducible refine (HWX.out _ A7.out.base).mono ?_); rintro e' w8 ⟨rfl, hk⟩; have A8 := Lib.hid (A7.out.kp HCC.out hk); clear hk) | (go_at_call 29; (with_reducible refine (HD2.out _ A8.out).mono ?_); rintro e' w9 ⟨rfl, ha⟩; have A9 := Lib.hid ha; clear ha) | (go_at_call 29; (with_reducible refine (HD1.out _ A9.out).mono ?_); rintro e' w10 ⟨rfl, ha⟩; have A10 := Lib.hid ha; clear ha) | (go_at_call 29; (with_reducible refine (HDC.out _ A10.out).mono ?_); rintro e' w11 ⟨rfl, ha⟩; have A11 := Lib.hid ha; clear ha) | (go_at_call 30; (with_reducible refine (HG1.out _ A11.out).mono ?_); rintro e' w12 ⟨rfl, ha⟩; have A12 := Lib.hid ha; clear ha) | (go_at_call 30; (with_reducible refine (HG2.out _ A12.out).mono ?_); rintro e' w13 ⟨rfl, ha⟩; have A13 := Lib.hid ha; clear ha))
                    have hj1 : (j : Int) = jj := HJ.out
                    have hlt1 : j < 6 := HLT.out
                    go_roundw
                    case rel => exact ⟨j + 1, hlt1, by rw [← hj1]; rfl, _, HNX.out, A13.out⟩
                    case measure => simp [intOf]; omega
              have b2 : (wk == 2) = false := by simpa using n2
              rw [← hxw] at n2
              have b9 : (wk == 9) = false := by simpa using n9
              rw [← hxw] at n9
              have b10 : (wk == 10) = false := by simpa using n10
              rw [← hxw] at n10
              have b11 : (wk == 11) = false := by simpa using n11
              rw [← hxw] at n11
              clear hxw
              cases c with
              | true =>
                have hm1 : md.works = md := by unfold PairM.works; rw [if_neg n2, if_neg n9, if_neg n10, if_neg n11]
                have A8' := 0
                clear A8'
                obtain ⟨M1, hM1⟩ : ∃ M, md.works = M := ⟨_, rfl⟩
                have hac : actsM true md = (((M1.decides true).again 1).2.again 2).2 := by unfold actsM; rw [hM1]
                have HX1 := Lib.hid (show md = M1 from hm1.symm.trans hM1)
                by_cases h0 : (M1.act 1 9).1 = 0
                · have hdc : M1.decides true = (M1.act 1 9).2 := by unfold PairM.decides; simp [h0]
                  have HD1 := Lib.hid (fun w1 (h : At J w w (fun _ : Nat => False) g M1 w1) => (show Calls Tryd.prog 29 #[.pointer (some ⟨g, 0, none⟩), .int .i64 1, .int .i64 9] w1 fun r w' => r = .returned .nilIface ∧ At J w w (fun _ : Nat => False) g (M1.decides true) w' from (at_do HCC.out h 1 9 (by decide) (by decide)).mono fun r w' q => ⟨by rw [q.1, h0, errI_nil], hdc ▸ q.2.1⟩))
                  obtain ⟨M2, hM2⟩ : ∃ M, M1.decides true = M := ⟨_, rfl⟩
                  rw [hM2] at hac HD1
                  have HG1 := Lib.hid (fun w1 (h : At J w w (fun _ : Nat => False) g M2 w1) => (show Calls Tryd.prog 30 #[.pointer (some ⟨g, 0, none⟩), .int .i64 1] w1 fun r w' => r = .returned (.bool (M2.again 1).1) ∧ At J w w (fun _ : Nat => False) g (M2.again 1).2 w' from (at_again HCC.out h 1 (by decide)).mono fun r w' q => ⟨q.1, q.2.1⟩))
                  obtain ⟨M3, hM3⟩ : ∃ M, (M2.again 1).2 = M := ⟨_, rfl⟩
                  rw [hM3] at hac HG1
                  have HG2 := Lib.hid (fun w1 (h : At J w w (fun _ : Nat => False) g M3 w1) => (show Calls Tryd.prog 30 #[.pointer (some ⟨g, 0, none⟩), .int .i64 2] w1 fun r w' => r = .returned (.bool (M3.again 2).1) ∧ At J w w (fun _ : Nat => False) g (actsM true md) w' from (at_again HCC.out h 2 (by decide)).mono fun r w' q => ⟨q.1, hac ▸ q.2.1⟩))
                  have HAC := Lib.hid hac
                  clear hac hdc hM1 hM2 hM3 h0 hm1 n2 n9 n10 n11
                  go_wp2_with (first | (go_at_call 25; (with_reducible refine HFL.out.mono ?_); rintro e' w5 ⟨v5, rfl, hs, hk⟩; obtain ⟨a5, c5, rfl⟩ := HSL.out _ _ hs; have A5 := Lib.hid (AI.out.kp HCC.out hk); clear hk) | (go_at_call 24; (with_reducible refine (HSX.out _ A5.out).mono ?_); rintro e' w7 ⟨rfl, hk⟩; have hk2 := Kp.trans hk (kp_alloc w7 (.cells #[.int .i64 xp, .int .i64 xe, .int .i64 xs, .int .i64 xh] 23)); have A7 := Lib.hid (A5.out.kp HCC.out hk2); have b7 := (MapKept.heap_alloc w7 (.cells #[.int .i64 xp, .int .i64 xe, .int .i64 xs, .int .i64 xh] 23)).1; obtain ⟨g0, g1, g2, g3⟩ := cells_4 b7; clear hk hk2 b7) | (go_at_call 18; (with_reducible refine (HWX.out _ A7.out.base).mono ?_); rintro e' w8 ⟨rfl, hk⟩; have A8 := Lib.hid (A7.out.kp HCC.out hk); clear hk) | (go_at_call 29; (with_reducible refine (HD1.out _ (HX1.out ▸ A8.out)).mono ?_); rintro e' w10 ⟨rfl, ha⟩; have A10 := Lib.hid ha; clear ha) | (go_at_call 30; (with_reducible refine (HG1.out _ A10.out).mono ?_); rintro e' w12 ⟨rfl, ha⟩; have A12 := Lib.hid ha; clear ha) | (go_at_call 30; (with_reducible refine (HG2.out _ A12.out).mono ?_); rintro e' w13 ⟨rfl, ha⟩; have A13 := Lib.hid ha; clear ha))
                  have hj1 : (j : Int) = jj := HJ.out
                  have hlt1 : j < 6 := HLT.out
                  go_roundw
                  case rel => exact ⟨j + 1, hlt1, by rw [← hj1]; rfl, _, HNX.out, A13.out⟩
                  case measure => simp [intOf]; omega
                · have hdc : M1.decides true = (M1.act 1 10).2 := by unfold PairM.decides; simp [h0]
                  have hsm := act_err h0
                  obtain ⟨q2, hq2⟩ : ∃ q, errI ads (M1.act 1 9).1 = .iface 128 (.pointer q) := ⟨_, if_neg h0⟩
                  obtain ⟨q3, hq3⟩ : ∃ q, errI ads (M1.act 1 10).1 = q := ⟨_, rfl⟩
                  have HD1 := Lib.hid (fun w1 (h : At J w w (fun _ : Nat => False) g M1 w1) => (show Calls Tryd.prog 29 #[.pointer (some ⟨g, 0, none⟩), .int .i64 1, .int .i64 9] w1 fun r w' => r = .returned (.iface 128 (.pointer q2)) ∧ At J w w (fun _ : Nat => False) g M1 w' from (at_do HCC.out h 1 9 (by decide) (by decide)).mono fun r w' q => ⟨by rw [q.1, hq2], hsm ▸ q.2.1⟩))
                  have HDC := Lib.hid (fun w1 (h : At J w w (fun _ : Nat => False) g M1 w1) => (show Calls Tryd.prog 29 #[.pointer (some ⟨g, 0, none⟩), .int .i64 1, .int .i64 10] w1 fun r w' => r = .returned q3 ∧ At J w w (fun _ : Nat => False) g (M1.decides true) w' from (at_do HCC.out h 1 10 (by decide) (by decide)).mono fun r w' q => ⟨by rw [q.1, hq3], hdc ▸ q.2.1⟩))
                  obtain ⟨M2, hM2⟩ : ∃ M, M1.decides true = M := ⟨_, rfl⟩
                  rw [hM2] at hac HDC
                  have HG1 := Lib.hid (fun w1 (h : At J w w (fun _ : Nat => False) g M2 w1) => (show Calls Tryd.prog 30 #[.pointer (some ⟨g, 0, none⟩), .int .i64 1] w1 fun r w' => r = .returned (.bool (M2.again 1).1) ∧ At J w w (fun _ : Nat => False) g (M2.again 1).2 w' from (at_again HCC.out h 1 (by decide)).mono fun r w' q => ⟨q.1, q.2.1⟩))
                  obtain ⟨M3, hM3⟩ : ∃ M, (M2.again 1).2 = M := ⟨_, rfl⟩
                  rw [hM3] at hac HG1
                  have HG2 := Lib.hid (fun w1 (h : At J w w (fun _ : Nat => False) g M3 w1) => (show Calls Tryd.prog 30 #[.pointer (some ⟨g, 0, none⟩), .int .i64 2] w1 fun r w' => r = .returned (.bool (M3.again 2).1) ∧ At J w w (fun _ : Nat => False) g (actsM true md) w' from (at_again HCC.out h 2 (by decide)).mono fun r w' q => ⟨q.1, hac ▸ q.2.1⟩))
                  have HAC := Lib.hid hac
                  clear hac hdc hM1 hM2 hM3 h0 hm1 hsm hq2 hq3 n2 n9 n10 n11
                  go_wp2_with (first | (go_at_call 25; (with_reducible refine HFL.out.mono ?_); rintro e' w5 ⟨v5, rfl, hs, hk⟩; obtain ⟨a5, c5, rfl⟩ := HSL.out _ _ hs; have A5 := Lib.hid (AI.out.kp HCC.out hk); clear hk) | (go_at_call 24; (with_reducible refine (HSX.out _ A5.out).mono ?_); rintro e' w7 ⟨rfl, hk⟩; have hk2 := Kp.trans hk (kp_alloc w7 (.cells #[.int .i64 xp, .int .i64 xe, .int .i64 xs, .int .i64 xh] 23)); have A7 := Lib.hid (A5.out.kp HCC.out hk2); have b7 := (MapKept.heap_alloc w7 (.cells #[.int .i64 xp, .int .i64 xe, .int .i64 xs, .int .i64 xh] 23)).1; obtain ⟨g0, g1, g2, g3⟩ := cells_4 b7; clear hk hk2 b7) | (go_at_call 18; (with_reducible refine (HWX.out _ A7.out.base).mono ?_); rintro e' w8 ⟨rfl, hk⟩; have A8 := Lib.hid (A7.out.kp HCC.out hk); clear hk) | (go_at_call 29; (with_reducible refine (HD1.out _ (HX1.out ▸ A8.out)).mono ?_); rintro e' w10 ⟨rfl, ha⟩; have A10 := Lib.hid ha; clear ha) | (go_at_call 29; (with_reducible refine (HDC.out _ A10.out).mono ?_); rintro e' w11 ⟨rfl, ha⟩; have A11 := Lib.hid ha; clear ha) | (go_at_call 30; (with_reducible refine (HG1.out _ A11.out).mono ?_); rintro e' w12 ⟨rfl, ha⟩; have A12 := Lib.hid ha; clear ha) | (go_at_call 30; (with_reducible refine (HG2.out _ A12.out).mono ?_); rintro e' w13 ⟨rfl, ha⟩; have A13 := Lib.hid ha; clear ha))
                  have hj1 : (j : Int) = jj := HJ.out
                  have hlt1 : j < 6 := HLT.out
                  go_roundw
                  case rel => exact ⟨j + 1, hlt1, by rw [← hj1]; rfl, _, HNX.out, A13.out⟩
                  case measure => simp [intOf]; omega
              | false =>
                have hm1 : md.works = md := by unfold PairM.works; rw [if_neg n2, if_neg n9, if_neg n10, if_neg n11]
                have A8' := 0
                clear A8'
                obtain ⟨M1, hM1⟩ : ∃ M, md.works = M := ⟨_, rfl⟩
                have hac : actsM false md = (((M1.decides false).again 1).2.again 2).2 := by unfold actsM; rw [hM1]
                have HX1 := Lib.hid (show md = M1 from hm1.symm.trans hM1)
                by_cases h0 : (M1.act 1 11).1 = 0
                · have hdc : M1.decides false = (M1.act 1 11).2 := by unfold PairM.decides; simp [h0]
                  have HD1 := Lib.hid (fun w1 (h : At J w w (fun _ : Nat => False) g M1 w1) => (show Calls Tryd.prog 29 #[.pointer (some ⟨g, 0, none⟩), .int .i64 1, .int .i64 11] w1 fun r w' => r = .returned .nilIface ∧ At J w w (fun _ : Nat => False) g (M1.decides false) w' from (at_do HCC.out h 1 11 (by decide) (by decide)).mono fun r w' q => ⟨by rw [q.1, h0, errI_nil], hdc ▸ q.2.1⟩))
                  obtain ⟨M2, hM2⟩ : ∃ M, M1.decides false = M := ⟨_, rfl⟩
                  rw [hM2] at hac HD1
                  have HG1 := Lib.hid (fun w1 (h : At J w w (fun _ : Nat => False) g M2 w1) => (show Calls Tryd.prog 30 #[.pointer (some ⟨g, 0, none⟩), .int .i64 1] w1 fun r w' => r = .returned (.bool (M2.again 1).1) ∧ At J w w (fun _ : Nat => False) g (M2.again 1).2 w' from (at_again HCC.out h 1 (by decide)).mono fun r w' q => ⟨q.1, q.2.1⟩))
                  obtain ⟨M3, hM3⟩ : ∃ M, (M2.again 1).2 = M := ⟨_, rfl⟩
                  rw [hM3] at hac HG1
                  have HG2 := Lib.hid (fun w1 (h : At J w w (fun _ : Nat => False) g M3 w1) => (show Calls Tryd.prog 30 #[.pointer (some ⟨g, 0, none⟩), .int .i64 2] w1 fun r w' => r = .returned (.bool (M3.again 2).1) ∧ At J w w (fun _ : Nat => False) g (actsM false md) w' from (at_again HCC.out h 2 (by decide)).mono fun r w' q => ⟨q.1, hac ▸ q.2.1⟩))
                  have HAC := Lib.hid hac
                  clear hac hdc hM1 hM2 hM3 h0 hm1 n2 n9 n10 n11
                  go_wp2_with (first | (go_at_call 25; (with_reducible refine HFL.out.mono ?_); rintro e' w5 ⟨v5, rfl, hs, hk⟩; obtain ⟨a5, c5, rfl⟩ := HSL.out _ _ hs; have A5 := Lib.hid (AI.out.kp HCC.out hk); clear hk) | (go_at_call 24; (with_reducible refine (HSX.out _ A5.out).mono ?_); rintro e' w7 ⟨rfl, hk⟩; have hk2 := Kp.trans hk (kp_alloc w7 (.cells #[.int .i64 xp, .int .i64 xe, .int .i64 xs, .int .i64 xh] 23)); have A7 := Lib.hid (A5.out.kp HCC.out hk2); have b7 := (MapKept.heap_alloc w7 (.cells #[.int .i64 xp, .int .i64 xe, .int .i64 xs, .int .i64 xh] 23)).1; obtain ⟨g0, g1, g2, g3⟩ := cells_4 b7; clear hk hk2 b7) | (go_at_call 18; (with_reducible refine (HWX.out _ A7.out.base).mono ?_); rintro e' w8 ⟨rfl, hk⟩; have A8 := Lib.hid (A7.out.kp HCC.out hk); clear hk) | (go_at_call 29; (with_reducible refine (HD1.out _ (HX1.out ▸ A8.out)).mono ?_); rintro e' w10 ⟨rfl, ha⟩; have A10 := Lib.hid ha; clear ha) | (go_at_call 30; (with_reducible refine (HG1.out _ A10.out).mono ?_); rintro e' w12 ⟨rfl, ha⟩; have A12 := Lib.hid ha; clear ha) | (go_at_call 30; (with_reducible refine (HG2.out _ A12.out).mono ?_); rintro e' w13 ⟨rfl, ha⟩; have A13 := Lib.hid ha; clear ha))
                  have hj1 : (j : Int) = jj := HJ.out
                  have hlt1 : j < 6 := HLT.out
                  go_roundw
                  case rel => exact ⟨j + 1, hlt1, by rw [← hj1]; rfl, _, HNX.out, A13.out⟩
                  case measure => simp [intOf]; omega
                · have hdc : M1.decides false = (M1.act 1 10).2 := by unfold PairM.decides; simp [h0]
                  have hsm := act_err h0
                  obtain ⟨q2, hq2⟩ : ∃ q, errI ads (M1.act 1 11).1 = .iface 128 (.pointer q) := ⟨_, if_neg h0⟩
                  obtain ⟨q3, hq3⟩ : ∃ q, errI ads (M1.act 1 10).1 = q := ⟨_, rfl⟩
                  have HD1 := Lib.hid (fun w1 (h : At J w w (fun _ : Nat => False) g M1 w1) => (show Calls Tryd.prog 29 #[.pointer (some ⟨g, 0, none⟩), .int .i64 1, .int .i64 11] w1 fun r w' => r = .returned (.iface 128 (.pointer q2)) ∧ At J w w (fun _ : Nat => False) g M1 w' from (at_do HCC.out h 1 11 (by decide) (by decide)).mono fun r w' q => ⟨by rw [q.1, hq2], hsm ▸ q.2.1⟩))
                  have HDC := Lib.hid (fun w1 (h : At J w w (fun _ : Nat => False) g M1 w1) => (show Calls Tryd.prog 29 #[.pointer (some ⟨g, 0, none⟩), .int .i64 1, .int .i64 10] w1 fun r w' => r = .returned q3 ∧ At J w w (fun _ : Nat => False) g (M1.decides false) w' from (at_do HCC.out h 1 10 (by decide) (by decide)).mono fun r w' q => ⟨by rw [q.1, hq3], hdc ▸ q.2.1⟩))
                  obtain ⟨M2, hM2⟩ : ∃ M, M1.decides false = M := ⟨_, rfl⟩
                  rw [hM2] at hac HDC
                  have HG1 := Lib.hid (fun w1 (h : At J w w (fun _ : Nat => False) g M2 w1) => (show Calls Tryd.prog 30 #[.pointer (some ⟨g, 0, none⟩), .int .i64 1] w1 fun r w' => r = .returned (.bool (M2.again 1).1) ∧ At J w w (fun _ : Nat => False) g (M2.again 1).2 w' from (at_again HCC.out h 1 (by decide)).mono fun r w' q => ⟨q.1, q.2.1⟩))
                  obtain ⟨M3, hM3⟩ : ∃ M, (M2.again 1).2 = M := ⟨_, rfl⟩
                  rw [hM3] at hac HG1
                  have HG2 := Lib.hid (fun w1 (h : At J w w (fun _ : Nat => False) g M3 w1) => (show Calls Tryd.prog 30 #[.pointer (some ⟨g, 0, none⟩), .int .i64 2] w1 fun r w' => r = .returned (.bool (M3.again 2).1) ∧ At J w w (fun _ : Nat => False) g (actsM false md) w' from (at_again HCC.out h 2 (by decide)).mono fun r w' q => ⟨q.1, hac ▸ q.2.1⟩))
                  have HAC := Lib.hid hac
                  clear hac hdc hM1 hM2 hM3 h0 hm1 hsm hq2 hq3 n2 n9 n10 n11
                  go_wp2_with (first | (go_at_call 25; (with_reducible refine HFL.out.mono ?_); rintro e' w5 ⟨v5, rfl, hs, hk⟩; obtain ⟨a5, c5, rfl⟩ := HSL.out _ _ hs; have A5 := Lib.hid (AI.out.kp HCC.out hk); clear hk) | (go_at_call 24; (with_reducible refine (HSX.out _ A5.out).mono ?_); rintro e' w7 ⟨rfl, hk⟩; have hk2 := Kp.trans hk (kp_alloc w7 (.cells #[.int .i64 xp, .int .i64 xe, .int .i64 xs, .int .i64 xh] 23)); have A7 := Lib.hid (A5.out.kp HCC.out hk2); have b7 := (MapKept.heap_alloc w7 (.cells #[.int .i64 xp, .int .i64 xe, .int .i64 xs, .int .i64 xh] 23)).1; obtain ⟨g0, g1, g2, g3⟩ := cells_4 b7; clear hk hk2 b7) | (go_at_call 18; (with_reducible refine (HWX.out _ A7.out.base).mono ?_); rintro e' w8 ⟨rfl, hk⟩; have A8 := Lib.hid (A7.out.kp HCC.out hk); clear hk) | (go_at_call 29; (with_reducible refine (HD1.out _ (HX1.out ▸ A8.out)).mono ?_); rintro e' w10 ⟨rfl, ha⟩; have A10 := Lib.hid ha; clear ha) | (go_at_call 29; (with_reducible refine (HDC.out _ A10.out).mono ?_); rintro e' w11 ⟨rfl, ha⟩; have A11 := Lib.hid ha; clear ha) | (go_at_call 30; (with_reducible refine (HG1.out _ A11.out).mono ?_); rintro e' w12 ⟨rfl, ha⟩; have A12 := Lib.hid ha; clear ha) | (go_at_call 30; (with_reducible refine (HG2.out _ A12.out).mono ?_); rintro e' w13 ⟨rfl, ha⟩; have A13 := Lib.hid ha; clear ha))
                  have hj1 : (j : Int) = jj := HJ.out
                  have hlt1 : j < 6 := HLT.out
                  go_roundw
                  case rel => exact ⟨j + 1, hlt1, by rw [← hj1]; rfl, _, HNX.out, A13.out⟩
                  case measure => simp [intOf]; omega
            · have hpos : 0 < nf := by rw [← hnf]; exact List.length_pos_iff.2 hf
              obtain ⟨nx, hnx⟩ : ∃ x : Int, (nf : Int) = x := ⟨_, rfl⟩
              have gpos : decide (nx > 0) = true := decide_eq_true (by omega)
              obtain ⟨dn, dm⟩ := drn_next ha.pok hd hf
              have hd0 := deliver0_ok ha.pok hf
              obtain ⟨⟨⟨a0, a1, a2, a3⟩, b1, b2, b3, b4⟩, hy⟩ : ∃ y, (md.deliver 0 false).1.2 = y := ⟨_, rfl⟩
              have HDE := Lib.hid (fun w1 (h : At J w w (fun _ : Nat => False) g md w1) => (show Calls Tryd.prog 28 #[.pointer (some ⟨g, 0, none⟩), .int .i64 0, .bool false] w1 fun r w' => r = .returned (.tuple #[.agg #[.int .i64 a0, .int .i64 a1, .int .i64 a2, .int .i64 a3, .int .i64 b1, .int .i64 b2, .int .i64 b3, .bool b4], .nilIface]) ∧ At J w w (fun _ : Nat => False) g md.next w' from (at_deliver HCC.out h 0 false (by decide)).mono fun r w' q => ⟨by rw [q.1, hd0, errI_nil, hy]; rfl, q.2.1⟩))
              have DN := Lib.hid dn
              have DM := Lib.hid (And.intro dm hmu)
              clear ha hd hmu hf hsl hpos dn dm hd0 hy hnf
              go_wp2_with (first | (go_at_call 25; (with_reducible refine HFL.out.mono ?_); rintro e' w5 ⟨v5, rfl, hs, hk⟩; obtain ⟨a5, c5, rfl⟩ := HSL.out _ _ hs; have A5 := Lib.hid (AI.out.kp HCC.out hk); clear hk) | (go_at_call 28; (with_reducible refine (HDE.out _ A5.out).mono ?_); rintro e' w6 ⟨rfl, ha⟩; have A6 := Lib.hid (ha.kp HCC.out (kp_alloc w6 (.cells #[.int .i64 a0, .int .i64 a1, .int .i64 a2, .int .i64 a3, .int .i64 b1, .int .i64 b2, .int .i64 b3, .bool b4] 27))); clear ha))
              go_roundw
              case rel => exact ⟨_, A6.out, DN.out⟩
              case measure =>
                refine Nat.lt_of_le_of_lt (leastM_le (j := muM md.next) ⟨_, A6.out, DN.out, rfl⟩) ?_
                rw [← DM.out.2]
                exact DM.out.1
        · obtain rfl : j = 6 := by omega
          obtain rfl : jj = 6 := by omega
          obtain rfl : mk = E := by simpa [roundsM] using hre
          obtain ⟨s1, s2, s3⟩ := over_c HOV.out
          obtain ⟨⟨cp, ce, cs, ch⟩, hc⟩ : ∃ z, mk.c = z := ⟨_, rfl⟩
          obtain ⟨⟨xp, xe, xs, xh⟩, hx⟩ : ∃ z, mk.x = z := ⟨_, rfl⟩
          have h1 := fun w1 (h : At J w w (fun _ : Nat => False) g mk w1) => at_seat HCC.out h 1 (by decide)
          have h2 := fun w1 (h : At J w w (fun _ : Nat => False) g mk w1) => at_seat HCC.out h 2 (by decide)
          rw [show seatO mk 1 = mk.c from rfl] at h1
          rw [show seatO mk 2 = mk.x from rfl] at h2
          rw [hc] at h1 s1 s3
          rw [hx] at h2 s2 s3
          dsimp only [seatV] at h1 h2 s1 s2 s3
          subst s1 s2 s3
          have H1 := Lib.hid h1
          have H2 := Lib.hid h2
          have f2 := fun a b c d w => fS2 a b c d w
          have f3 := fun a b c d w => fS3 a b c d w
          clear hre hjj hj hlt h1 h2 hc hx hat
          go_wp2_with (first | (go_at_call 24; (with_reducible refine (H1.out _ A22.out).mono ?_); rintro e' w23 ⟨rfl, hk⟩; have A23 := Lib.hid (A22.out.kp HCC.out hk); clear hk) | (go_at_call 24; (with_reducible refine (H2.out _ A23.out).mono ?_); rintro e' w24 ⟨rfl, hk⟩; have A24 := Lib.hid (A23.out.kp HCC.out hk); clear hk) | (go_at_call 24; (with_reducible refine (H1.out _ AO.out).mono ?_); rintro e' w21 ⟨rfl, hk⟩; have A21 := Lib.hid (AO.out.kp HCC.out hk); clear hk) | (go_at_call 24; (with_reducible refine (H2.out _ A21.out).mono ?_); rintro e' w22 ⟨rfl, hk⟩; have A22 := Lib.hid (A21.out.kp HCC.out hk); clear hk))
          go_ret
          exact ⟨by first | rfl | (simp; done), A24.out.base⟩
theorem end_any (p : Int) (v : Value) (os : List OpD) (c : Bool) (w : World) (ip : i64M p) (hs : SlM v os w) (C : MovC ads w J) : Calls Tryd.prog 7 #[.int .i64 p, v, .bool c] w fun r w' => r = .returned (.bool true) ∧ Kp w w' := by
  obtain ⟨a, cap, rfl, hel⟩ := hs
  by_cases hl : 200 < os.length
  · exact end_long p c a _ cap w hl C
  by_cases hp : p = 1 ∨ p = 2
  · exact end_in p c hp a cap _ os rfl w hel hl C
  · exact end_bad p c ip hp a _ cap w hl C
end Go.Proofs.YtghjnhdepeiloaaDoor
