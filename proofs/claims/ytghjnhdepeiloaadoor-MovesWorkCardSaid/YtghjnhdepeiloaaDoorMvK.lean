/-
  MovesNew's WALK (own work).
-/
import Derived.Test.YtghjnhdepeiloaaDoorMvE
import Derived.Test.YtghjnhdepeiloaaDoorMvF
import Derived.LoopTactic
import Derived.LoopN
namespace Go.Proofs.YtghjnhdepeiloaaDoor
open Go.RowKit Go.ChangeShapes Go.WideShapes
variable {ads : List Addr} {J : Nat → PairM → (Nat → Prop) → World → Prop}

theorem right_inK {z : SeatM} (h : z.right = true) : (z.p = 1 ∨ z.p = 2) ∧ (z.e = 1 ∨ z.e = 2) ∧ (1 ≤ z.s ∧ z.s ≤ 14) ∧ (0 ≤ z.h ∧ z.h ≤ 8) := by
  unfold SeatM.right at h
  simp only [Bool.and_eq_true] at h
  obtain ⟨⟨h1, h2⟩, h3⟩ := h
  have q := of_decide_eq_true h1
  refine ⟨q.1, q.2, ?_, ?_⟩
  · unfold hasT at h2
    split at h2
    · omega
    · split at h2
      · omega
      · exact of_decide_eq_true h2
  · split at h3
    · have := of_decide_eq_true h3; omega
    · have := of_decide_eq_true h3; omega
theorem right_okK {z : SeatM} (h : z.right = true) : z.ok := by
  obtain ⟨h1, h2, h3, h4⟩ := right_inK h
  exact ⟨⟨by omega, by omega⟩, ⟨by omega, by omega⟩, ⟨by omega, by omega⟩, ⟨by omega, by omega⟩⟩
theorem seatM_seatO {m : PairM} {e : Int} (he : e = 1 ∨ e = 2) : seatO m e = m.seat e := by
  rcases he with rfl | rfl <;> rfl
theorem pokM_right {m : PairM} (h : Pok m) {e : Int} (he : e = 1 ∨ e = 2) : (seatO m e).right = true ∧ (seatO m e).ok := by
  obtain ⟨⟨p, r, hp, R⟩, _⟩ := h
  have hr : (seatO m e).right = true := by
    rw [seatM_seatO he, seat_e R he]
    exact (closed_e hp R.mem he).1
  exact ⟨hr, right_okK hr⟩
def RS.twiceR (p : Int) (r : RS) : Bool := [1, 2].all fun e => decide ((r.seat p e).waits = 0) || (((r.seat p (3 - e)).tell (r.seat p e).waits).2.z.right)
theorem reach_twiceR1 : (reach 1).all (RS.twiceR 1) = true := by decide +kernel
theorem reach_twiceR2 : (reach 2).all (RS.twiceR 2) = true := by decide +kernel
theorem twiceR_of {p : Int} (hp : p = 1 ∨ p = 2) {r : RS} {m : PairM} (R : Rep p r m) {e : Int} (he : e = 1 ∨ e = 2) (hw : (m.seat e).waits ≠ 0) : ((m.seat (3 - e)).tell (m.seat e).waits).2.z.right = true := by
  have h : r.twiceR p = true := by
    rcases hp with rfl | rfl
    · exact List.all_eq_true.1 reach_twiceR1 r R.mem
    · exact List.all_eq_true.1 reach_twiceR2 r R.mem
  have g := List.all_eq_true.1 h e (by rcases he with rfl | rfl <;> simp)
  rw [seat_e R he, seat_e R (show 3 - e = 1 ∨ 3 - e = 2 by omega)]
  rw [seat_e R he] at hw
  rw [decide_eq_false hw, Bool.false_or] at g
  exact g
theorem waits_i64 (z : SeatM) : i64M z.waits := by
  unfold SeatM.waits waitT
  repeat' split
  all_goals decide
set_option maxRecDepth 100000 in
theorem new11_long (p e : Int) (a : Option Addr) (n cap : Nat) (w : World) (hl : 100 < n) (C : MovC ads w J) : Calls Tryd.prog 8 #[.int .i64 p, .int .i64 e, .slice a n cap] w fun r w' => r = .returned (.bool true) ∧ Kp w w' := by
  have HAL := Lib.hid (alive11_any C w (Kp.refl w))
  obtain ⟨nn, hnn⟩ : ∃ x : Int, (n : Int) = x := ⟨_, rfl⟩
  have d1 : decide (nn > 100) = true := decide_eq_true (by omega)
  clear C hl
  go_enter Tryd.func8, Tryd.ntmps8
  go_wp2_with (go_at_call 9; (with_reducible refine HAL.out.mono ?_); rintro e' w1 ⟨rfl, hk⟩; have K1 := Lib.hid hk; clear hk)
  go_ret
  exact ⟨rfl, K1.out⟩
set_option maxRecDepth 100000 in
theorem new11_bad (p e : Int) (ip : i64M p) (ie : i64M e) (hr : rightT p e = false) (a : Option Addr) (n cap : Nat) (w : World) (hl : ¬ 100 < n) (V : St ads w) (C : MovC ads w J) : Calls Tryd.prog 8 #[.int .i64 p, .int .i64 e, .slice a n cap] w fun r w' => r = .returned (.bool true) ∧ Kp w w' := by
  have HAL := Lib.hid (alive11_any C w (Kp.refl w))
  obtain ⟨nn, hnn⟩ : ∃ x : Int, (n : Int) = x := ⟨_, rfl⟩
  have d1 : decide (nn > 100) = false := decide_eq_false (by omega)
  have hn := fun w1 (hk : Kp w w1) => C.new w1 hk p e ip ie
  rw [show newS p e = ⟨0, 0, 0, 0⟩ by simp [newS, hr], hr, if_neg (by decide)] at hn
  dsimp only [seatV] at hn
  have hu := fun w1 (hk : Kp w w1) => num_errN ads w1 (V.below hk) 14 (by decide) (by decide)
  obtain ⟨q, hq⟩ : ∃ q, errI ads 14 = q := ⟨_, rfl⟩
  rw [hq] at hn hu
  have HN := Lib.hid hn
  have HNU := Lib.hid hu
  have hse := fun w => mseat_eql 0 0 0 0 0 0 0 0 w
  have hsg := fun op x y w => mseat_guard op x y 0 0 0 0 0 0 0 0 w
  simp only [and_self, decide_true] at hse
  have hnr : ¬ ((p = 1 ∨ p = 2) ∧ (e = 1 ∨ e = 2)) := of_decide_eq_false hr
  clear C V hl hn hu hq hr ip ie
  by_cases q1 : p < 1
  · have b1 : decide (p < 1) = true := decide_eq_true q1
    clear hnr q1
    go_enter Tryd.func8, Tryd.ntmps8
    go_wp2_with (first | (go_at_call 9; (with_reducible refine HAL.out.mono ?_); rintro e' w1 ⟨rfl, hk⟩; have K1 := Lib.hid hk; clear hk) | (go_at_call 31; (with_reducible refine (HN.out _ K1.out).mono ?_); rintro e' w2 ⟨rfl, hk⟩; have hk2 := Kp.trans hk (kp_alloc w2 (.cells #[.int .i64 0, .int .i64 0, .int .i64 0, .int .i64 0] 23)); have K2 := Lib.hid (Kp.trans K1.out hk2); have B2 := (MapKept.heap_alloc w2 (.cells #[.int .i64 0, .int .i64 0, .int .i64 0, .int .i64 0] 23)).1; obtain ⟨c0, c1, c2, c3⟩ := cells_4 B2; clear hk hk2 B2) | (go_at_call 15; (with_reducible refine (HNU.out _ K2.out).mono ?_); rintro e' w3 ⟨rfl, hk⟩; have K3 := Lib.hid (Kp.trans K2.out hk); clear hk))
    go_ret
    exact ⟨by first | rfl | (simp; done), K3.out⟩
  have b1 : decide (p < 1) = false := decide_eq_false q1
  by_cases q2 : p > 2
  · have b2 : decide (p > 2) = true := decide_eq_true q2
    clear hnr q1 q2
    go_enter Tryd.func8, Tryd.ntmps8
    go_wp2_with (first | (go_at_call 9; (with_reducible refine HAL.out.mono ?_); rintro e' w1 ⟨rfl, hk⟩; have K1 := Lib.hid hk; clear hk) | (go_at_call 31; (with_reducible refine (HN.out _ K1.out).mono ?_); rintro e' w2 ⟨rfl, hk⟩; have hk2 := Kp.trans hk (kp_alloc w2 (.cells #[.int .i64 0, .int .i64 0, .int .i64 0, .int .i64 0] 23)); have K2 := Lib.hid (Kp.trans K1.out hk2); have B2 := (MapKept.heap_alloc w2 (.cells #[.int .i64 0, .int .i64 0, .int .i64 0, .int .i64 0] 23)).1; obtain ⟨c0, c1, c2, c3⟩ := cells_4 B2; clear hk hk2 B2) | (go_at_call 15; (with_reducible refine (HNU.out _ K2.out).mono ?_); rintro e' w3 ⟨rfl, hk⟩; have K3 := Lib.hid (Kp.trans K2.out hk); clear hk))
    go_ret
    exact ⟨by first | rfl | (simp; done), K3.out⟩
  have b2 : decide (p > 2) = false := decide_eq_false q2
  by_cases q3 : e < 1
  · have b3 : decide (e < 1) = true := decide_eq_true q3
    clear hnr q1 q2 q3
    go_enter Tryd.func8, Tryd.ntmps8
    go_wp2_with (first | (go_at_call 9; (with_reducible refine HAL.out.mono ?_); rintro e' w1 ⟨rfl, hk⟩; have K1 := Lib.hid hk; clear hk) | (go_at_call 31; (with_reducible refine (HN.out _ K1.out).mono ?_); rintro e' w2 ⟨rfl, hk⟩; have hk2 := Kp.trans hk (kp_alloc w2 (.cells #[.int .i64 0, .int .i64 0, .int .i64 0, .int .i64 0] 23)); have K2 := Lib.hid (Kp.trans K1.out hk2); have B2 := (MapKept.heap_alloc w2 (.cells #[.int .i64 0, .int .i64 0, .int .i64 0, .int .i64 0] 23)).1; obtain ⟨c0, c1, c2, c3⟩ := cells_4 B2; clear hk hk2 B2) | (go_at_call 15; (with_reducible refine (HNU.out _ K2.out).mono ?_); rintro e' w3 ⟨rfl, hk⟩; have K3 := Lib.hid (Kp.trans K2.out hk); clear hk))
    go_ret
    exact ⟨by first | rfl | (simp; done), K3.out⟩
  have b3 : decide (e < 1) = false := decide_eq_false q3
  have q4 : e > 2 := by omega
  have b4 : decide (e > 2) = true := decide_eq_true q4
  clear hnr q1 q2 q3 q4
  go_enter Tryd.func8, Tryd.ntmps8
  go_wp2_with (first | (go_at_call 9; (with_reducible refine HAL.out.mono ?_); rintro e' w1 ⟨rfl, hk⟩; have K1 := Lib.hid hk; clear hk) | (go_at_call 31; (with_reducible refine (HN.out _ K1.out).mono ?_); rintro e' w2 ⟨rfl, hk⟩; have hk2 := Kp.trans hk (kp_alloc w2 (.cells #[.int .i64 0, .int .i64 0, .int .i64 0, .int .i64 0] 23)); have K2 := Lib.hid (Kp.trans K1.out hk2); have B2 := (MapKept.heap_alloc w2 (.cells #[.int .i64 0, .int .i64 0, .int .i64 0, .int .i64 0] 23)).1; obtain ⟨c0, c1, c2, c3⟩ := cells_4 B2; clear hk hk2 B2) | (go_at_call 15; (with_reducible refine (HNU.out _ K2.out).mono ?_); rintro e' w3 ⟨rfl, hk⟩; have K3 := Lib.hid (Kp.trans K2.out hk); clear hk))
  go_ret
  exact ⟨by first | rfl | (simp; done), K3.out⟩
set_option maxRecDepth 100000 in
set_option maxHeartbeats 4000000 in
theorem new11_in (p e : Int) (hp : p = 1 ∨ p = 2) (he : e = 1 ∨ e = 2) (a : Option Addr) (cap n : Nat) (os : List OpD) (hm : os.length = n) (w : World) (hel : ∀ (j : Nat) (h : j < os.length), ∃ b off, a = some ⟨b, off, none⟩ ∧ OpM os[j] b (off + j * 5) w) (hl : ¬ 100 < n) (C : MovC ads w J) : Calls Tryd.prog 8 #[.int .i64 p, .int .i64 e, .slice a n cap] w fun r w' => r = .returned (.bool true) ∧ Kp w w' := by
  have HAL := Lib.hid (alive11_any C w (Kp.refl w))
  have HCC := Lib.hid C
  have HNW := Lib.hid (fun w1 (hk : Kp w w1) => at_new C (Kp.refl w) hk p hp)
  have HE := Lib.hid hel
  have HM := Lib.hid hm
  obtain ⟨nn, hnn⟩ : ∃ x : Int, (n : Int) = x := ⟨_, rfl⟩
  have HNN := Lib.hid hnn
  have d1 : decide (nn > 100) = false := decide_eq_false (by omega)
  have l1 : nn ≤ 100 := by omega
  have ip : i64M p := by rcases hp with rfl | rfl <;> decide
  have ie : i64M e := by rcases he with rfl | rfl <;> decide
  have hr : rightT p e = true := by rcases hp with rfl | rfl <;> rcases he with rfl | rfl <;> decide
  have hn := fun w1 (hk : Kp w w1) => C.new w1 hk p e ip ie
  rw [show newS p e = ⟨p, e, 1, 0⟩ by simp [newS, hr], hr, if_pos rfl, errI_nil] at hn
  dsimp only [seatV] at hn
  have HN := Lib.hid hn
  have zo : SeatM.ok ⟨p, e, 1, 0⟩ := ⟨ip, ie, (by decide : i64M 1), (by decide : i64M 0)⟩
  have zr : SeatM.right ⟨p, e, 1, 0⟩ = true := by rcases hp with rfl | rfl <;> rcases he with rfl | rfl <;> decide
  have zw : SeatM.work ⟨p, e, 1, 0⟩ = 0 := by rcases hp with rfl | rfl <;> rcases he with rfl | rfl <;> decide
  have zt : SeatM.waits ⟨p, e, 1, 0⟩ = 0 := by rcases hp with rfl | rfl <;> rcases he with rfl | rfl <;> decide
  have hR := fun w1 (hk : Kp w w1) => C.right w1 hk ⟨p, e, 1, 0⟩ zo
  have hW := fun w1 (hk : Kp w w1) => C.work w1 hk ⟨p, e, 1, 0⟩ zo
  have hT := fun w1 (hk : Kp w w1) => C.waits w1 hk ⟨p, e, 1, 0⟩ zo
  rw [zr] at hR hW hT
  rw [if_pos rfl, zw] at hW
  rw [if_pos rfl, zt] at hT
  dsimp only [seatV] at hR hW hT
  have HR := Lib.hid hR
  have HWK := Lib.hid hW
  have HWT := Lib.hid hT
  have b1 : decide (p < 1) = false := decide_eq_false (by omega)
  have b2 : decide (p > 2) = false := decide_eq_false (by omega)
  have b3 : decide (e < 1) = false := decide_eq_false (by omega)
  have b4 : decide (e > 2) = false := decide_eq_false (by omega)
  have HP := Lib.hid (And.intro hp (And.intro he ie))
  clear C hel hm hl hn hR hW hT zo zr zw zt hr ip ie hp he
  go_enter Tryd.func8, Tryd.ntmps8
  go_wp2_with (first | (go_at_call 9; (with_reducible refine HAL.out.mono ?_); rintro e' w1 ⟨rfl, hk⟩; have K1 := Lib.hid hk; clear hk) | (go_at_call 31; (with_reducible refine (HN.out _ K1.out).mono ?_); rintro e' w2 ⟨rfl, hk⟩; have hk2 := Kp.trans hk (kp_alloc w2 (.cells #[.int .i64 p, .int .i64 e, .int .i64 1, .int .i64 0] 23)); have K2 := Lib.hid (Kp.trans K1.out hk2); have B2 := Lib.hid (MapKept.heap_alloc w2 (.cells #[.int .i64 p, .int .i64 e, .int .i64 1, .int .i64 0] 23)).1; obtain ⟨c0, c1, c2, c3⟩ := cells_4 B2.out; clear hk hk2) | (go_at_call 16; (with_reducible refine (HR.out _ K2.out).mono ?_); rintro e' w3 ⟨rfl, hk⟩; have K3 := Lib.hid (Kp.trans K2.out hk); have B3 := Lib.hid (kp_row hk B2.out); obtain ⟨c30, c31, c32, c33⟩ := cells_4 B3.out; clear hk) | (go_at_call 18; (with_reducible refine (HWK.out _ K3.out).mono ?_); rintro e' w4 ⟨rfl, hk⟩; have K4 := Lib.hid (Kp.trans K3.out hk); have B4 := Lib.hid (kp_row hk B3.out); obtain ⟨c40, c41, c42, c43⟩ := cells_4 B4.out; clear hk) | (go_at_call 19; (with_reducible refine (HWT.out _ K4.out).mono ?_); rintro e' w5 ⟨rfl, hk⟩; have K5 := Lib.hid (Kp.trans K4.out hk); have B5 := Lib.hid (kp_row hk B4.out); obtain ⟨c50, c51, c52, c53⟩ := cells_4 B5.out; clear hk) | (go_at_call 21; (with_reducible refine (HNW.out _ K5.out).mono ?_); rintro e' w6 ⟨g, rfl, ha, -⟩; have A6 := Lib.hid ha; clear ha))
  go_loopw [82] (fun i wr => ∃ j : Nat, j ≤ n ∧ i = .int .i64 j ∧ ∃ mj, At J w w (fun _ : Nat => False) g mj wr) (fun i _ => n - (intOf i).toNat)
  case atStart => exact ⟨0, Nat.zero_le _, rfl, _, A6.out⟩
  case round =>
    obtain ⟨j, hj, rfl, mj, hat⟩ := hrel
    have A := Lib.hid hat
    clear hat
    obtain ⟨jj, hjj⟩ : ∃ jj : Int, (j : Int) = jj := ⟨_, rfl⟩
    rw [hjj]
    have HJ := Lib.hid hjj
    have hnn := HNN.out
    by_cases hlt : j < n
    · have hjl : jj < nn := by omega
      have hj0 : 0 ≤ jj := by omega
      have htn : jj.toNat = j := by omega
      have hjo : j < os.length := by rw [HM.out]; exact hlt
      obtain ⟨b, off, rfl, hc0⟩ := HE.out j hjo
      have hc := hc0.kp (A.out.base)
      obtain ⟨⟨oa, oe, ok, oi, oc⟩, hod⟩ : ∃ o, os[j] = o := ⟨_, rfl⟩
      rw [hod] at hc
      have f0 : wr.cell? ⟨b, off + jj.toNat * 5, none⟩ = some (.int .i64 oa) := by rw [htn]; exact hc.a
      have f1 : wr.cell? ⟨b, off + jj.toNat * 5 + 1, none⟩ = some (.int .i64 oe) := by rw [htn]; exact hc.e
      have f2 : wr.cell? ⟨b, off + jj.toNat * 5 + 2, none⟩ = some (.int .i64 ok) := by rw [htn]; exact hc.k
      have f3 : wr.cell? ⟨b, off + jj.toNat * 5 + 3, none⟩ = some (.int .i64 oi) := by rw [htn]; exact hc.i
      have f4 : wr.cell? ⟨b, off + jj.toNat * 5 + 4, none⟩ = some (.bool oc) := by rw [htn]; exact hc.c
      have hook : OpD.ok ⟨oa, oe, ok, oi, oc⟩ := ⟨hc.wa, hc.we, hc.wk, hc.wi⟩
      have k9 := kp_alloc wr (.cells #[.int .i64 oa, .int .i64 oe, .int .i64 ok, .int .i64 oi, .bool oc] 47)
      have r9 := (MapKept.heap_alloc wr (.cells #[.int .i64 oa, .int .i64 oe, .int .i64 ok, .int .i64 oi, .bool oc] 47)).1
      obtain ⟨t0, t1, t2, t3, t4⟩ := cells_5 r9
      have A9 := A.out.kp HCC.out k9
      have hdo := at_doL HCC.out A9 ⟨oa, oe, ok, oi, oc⟩ hook
      obtain ⟨⟨⟨⟨a0, a1, a2, a3⟩, b1, b2, b3, b4⟩, m'⟩, hm'⟩ : ∃ y, doM mj ⟨oa, oe, ok, oi, oc⟩ = y := ⟨_, rfl⟩
      rw [hm'] at hdo
      dsimp only [opV, effV] at hdo
      have HDO := Lib.hid hdo
      have HLT := Lib.hid hlt
      clear hm'
      clear hc hc0 hod k9 r9 A9 hdo hjj hj hlt hnn hook htn hjo
      go_wp2_with (go_at_call 26; (with_reducible refine HDO.out.mono ?_); rintro e' w4 ⟨rfl, ha, -⟩; have A4 := Lib.hid ha; clear ha)
      have hj1 : (j : Int) = jj := HJ.out
      have hlt1 : j < n := HLT.out
      go_roundw
      case rel => exact ⟨j + 1, hlt1, by rw [← hj1]; rfl, _, A4.out⟩
      case measure => simp [intOf]; omega
    · have hex : ¬ jj < nn := by omega
      clear hjj hj hlt hnn
      have hp := HP.out.1
      have he := HP.out.2.1
      have ie := HP.out.2.2
      have hpk := A.out.pok
      have sr := pokM_right hpk he
      have hsa := fun w1 (h : At J w w (fun _ : Nat => False) g mj w1) => at_seat HCC.out h e ie
      have hwa := fun w1 (hk : Kp w w1) => HCC.out.waits w1 hk (seatO mj e) sr.2
      rw [sr.1, if_pos rfl] at hwa
      obtain ⟨k, hk⟩ : ∃ k, (seatO mj e).waits = k := ⟨_, rfl⟩
      rw [hk] at hwa
      by_cases h0 : k = 0
      · subst h0
        obtain ⟨⟨z1, z2, z3, z4⟩, hz⟩ : ∃ z, seatO mj e = z := ⟨_, rfl⟩
        rw [hz] at hsa hwa
        dsimp only [seatV] at hsa hwa
        have HSA := Lib.hid hsa
        have HWA := Lib.hid hwa
        clear hsa hwa hz hk sr hpk hp he ie
        go_wp2_with (first | (go_at_call 24; (with_reducible refine (HSA.out _ A.out).mono ?_); rintro e' w7 ⟨rfl, hk⟩; have A7 := Lib.hid (A.out.kp HCC.out hk); clear hk) | (go_at_call 19; (with_reducible refine (HWA.out _ A7.out.base).mono ?_); rintro e' w8 ⟨rfl, hk⟩; have A8 := Lib.hid (A7.out.kp HCC.out hk); clear hk))
        go_ret
        exact ⟨rfl, A8.out.base⟩
      · have b0 : (k == 0) = false := by simpa using h0
        obtain ⟨⟨pp, r, hpp, R⟩, -⟩ := hpk
        have hse := seatM_seatO (m := mj) he
        obtain ⟨v1, v2, v3, v4, v5⟩ := twice_of hpp R he (by rw [← hse, hk]; exact h0)
        have v6 := twiceR_of hpp R he (by rw [← hse, hk]; exact h0)
        rw [← hse, hk, ← seatM_seatO (m := mj) (show 3 - e = 1 ∨ 3 - e = 2 by omega)] at v1 v2 v3 v4 v5 v6
        have he3 : 3 - e = 1 ∨ 3 - e = 2 := by omega
        have ie3 : i64M (3 - e) := ⟨by omega, by omega⟩
        have so := pokM_right A.out.pok he3
        have ik : i64M k := by rw [← hk]; exact waits_i64 _
        have hsb := fun w1 (h : At J w w (fun _ : Nat => False) g mj w1) => at_seat HCC.out h (3 - e) ie3
        have ht1 := fun w1 (hk : Kp w w1) => HCC.out.tell w1 hk (seatO mj (3 - e)) k so.2 ik
        obtain ⟨⟨zp, ze, zs, zh⟩, hzo⟩ : ∃ z, seatO mj (3 - e) = z := ⟨_, rfl⟩
        rw [hzo] at hsb ht1 v1 v2 v3 v4 v5 v6 so
        obtain ⟨⟨n1, ⟨⟨a0, a1, a2, a3⟩, b1, b2, b3, b4⟩⟩, hy1⟩ : ∃ y, SeatM.tell ⟨zp, ze, zs, zh⟩ k = y := ⟨_, rfl⟩
        rw [hy1] at ht1 v1 v2 v3 v4 v5 v6
        dsimp only at v1 v2 v3 v4 v5 v6
        have so2 : SeatM.ok ⟨a0, a1, a2, a3⟩ := right_okK v6
        subst v1
        have ht2 := fun w1 (hk : Kp w w1) => HCC.out.tell w1 hk ⟨a0, a1, a2, a3⟩ k so2 ik
        obtain ⟨⟨n2, ⟨⟨e0, e1, e2, e3⟩, d1, d2, d3, d4⟩⟩, hy2⟩ : ∃ y, SeatM.tell ⟨a0, a1, a2, a3⟩ k = y := ⟨_, rfl⟩
        rw [hy2] at ht2 v2 v3 v4 v5
        dsimp only at v2 v3 v4 v5
        injection v4 with x0 x1 x2 x3
        subst v2 v3 v5 x0 x1 x2 x3
        dsimp only [seatV, effV] at hsb ht1 ht2
        rw [errI_nil] at ht1 ht2
        obtain ⟨⟨z1, z2, z3, z4⟩, hz⟩ : ∃ z, seatO mj e = z := ⟨_, rfl⟩
        rw [hz] at hsa hwa
        dsimp only [seatV] at hsa hwa
        obtain ⟨oe, hoe⟩ : ∃ x, 3 - e = x := ⟨_, rfl⟩
        rw [hoe] at hsb
        have HSA := Lib.hid hsa
        have HWA := Lib.hid hwa
        have HSB := Lib.hid hsb
        have HT1 := Lib.hid ht1
        have HT2 := Lib.hid ht2
        have hq := fun w => mseat_eql e0 e1 e2 e3 e0 e1 e2 e3 w
        have hg := fun op x y w => mseat_guard op x y e0 e1 e2 e3 e0 e1 e2 e3 w
        simp only [and_self, decide_true] at hq
        have le1 : -10 ≤ e := by omega
        have le2 : e ≤ 10 := by omega
        clear v6 hsa hwa hsb ht1 ht2 hz hzo hk hy1 hy2 sr so so2 hp he ie he3 ie3 ik hpp R hse h0
        go_wp2_with (first | (go_at_call 24; (with_reducible refine (HSA.out _ A.out).mono ?_); rintro e' w7 ⟨rfl, hk⟩; have A7 := Lib.hid (A.out.kp HCC.out hk); clear hk) | (go_at_call 19; (with_reducible refine (HWA.out _ A7.out.base).mono ?_); rintro e' w8 ⟨rfl, hk⟩; have A8 := Lib.hid (A7.out.kp HCC.out hk); clear hk) | (go_at_call 24; (with_reducible refine (HSB.out _ A8.out).mono ?_); rintro e' w9 ⟨rfl, hk⟩; have hk2 := Kp.trans hk (kp_alloc w9 (.cells #[.int .i64 zp, .int .i64 ze, .int .i64 zs, .int .i64 zh] 23)); have K9 := Lib.hid (Kp.trans A8.out.base hk2); have B9 := (MapKept.heap_alloc w9 (.cells #[.int .i64 zp, .int .i64 ze, .int .i64 zs, .int .i64 zh] 23)).1; obtain ⟨g0, g1, g2, g3⟩ := cells_4 B9; clear hk hk2 B9) | (go_at_call 10; (with_reducible refine (HT1.out _ K9.out).mono ?_); rintro e' w10 ⟨rfl, hk⟩; have hk2 := Kp.trans hk (kp_alloc w10 (.cells #[.int .i64 e0, .int .i64 e1, .int .i64 e2, .int .i64 e3, .int .i64 b1, .int .i64 b2, .int .i64 b3, .bool b4] 27)); have K10 := Lib.hid (Kp.trans K9.out hk2); have B10 := Lib.hid (MapKept.heap_alloc w10 (.cells #[.int .i64 e0, .int .i64 e1, .int .i64 e2, .int .i64 e3, .int .i64 b1, .int .i64 b2, .int .i64 b3, .bool b4] 27)).1; obtain ⟨i0, i1, i2, i3, i4, i5, i6, i7⟩ := cells_8 B10.out; clear hk hk2) | (go_at_call 10; (with_reducible refine (HT2.out _ K10.out).mono ?_); rintro e' w11 ⟨rfl, hk⟩; have hk2 := Kp.trans hk (kp_alloc w11 (.cells #[.int .i64 e0, .int .i64 e1, .int .i64 e2, .int .i64 e3, .int .i64 d1, .int .i64 d2, .int .i64 0, .bool false] 27)); have K11 := Lib.hid (Kp.trans K10.out hk2); have B11 := Lib.hid (kp_row hk2 B10.out); have B12 := Lib.hid (MapKept.heap_alloc w11 (.cells #[.int .i64 e0, .int .i64 e1, .int .i64 e2, .int .i64 e3, .int .i64 d1, .int .i64 d2, .int .i64 0, .bool false] 27)).1; obtain ⟨j0, j1, j2, j3, j4, j5, j6, j7⟩ := cells_8 B11.out; obtain ⟨k0, k1, k2, k3, k4, k5, k6, k7⟩ := cells_8 B12.out; clear hk hk2))
        go_ret
        exact ⟨by first | rfl | (simp; done), K11.out⟩
theorem new11_any (p e : Int) (v : Value) (os : List OpD) (w : World) (ip : i64M p) (ie : i64M e) (hs : SlM v os w) (V : St ads w) (C : MovC ads w J) : Calls Tryd.prog 8 #[.int .i64 p, .int .i64 e, v] w fun r w' => r = .returned (.bool true) ∧ Kp w w' := by
  obtain ⟨a, cap, rfl, hel⟩ := hs
  by_cases hl : 100 < os.length
  · exact new11_long p e a _ cap w hl C
  cases hr : rightT p e with
  | true =>
    have := of_decide_eq_true hr
    exact new11_in p e this.1 this.2 a cap _ os rfl w hel hl C
  | false => exact new11_bad p e ip ie hr a _ cap w hl V C
end Go.Proofs.YtghjnhdepeiloaaDoor
