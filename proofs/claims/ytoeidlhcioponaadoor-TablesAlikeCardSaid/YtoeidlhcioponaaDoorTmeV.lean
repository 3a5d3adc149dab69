/-
  THE WALK OF TablesMeet (own work).
-/
import Derived.Test.YtoeidlhcioponaaDoorTabC
import Derived.Test.YtoeidlhcioponaaDoorTabE
import Derived.Test.YtoeidlhcioponaaDoorInT
import Derived.Test.YtoeidlhcioponaaDoorRefL
namespace Go.Proofs.YtoeidlhcioponaaDoor
open Go.RowKit Go.ChangeShapes Go.WideShapes

theorem meet_lists {p : Int} (hp : p = 1 ∨ p = 2) : takesL p 2 = sendsL p 1 ∧ takesL p 1 = sendsL p 2 ∧ (sendsL p 1).length ≤ 14 ∧ (sendsL p 2).length ≤ 14 := by
  rcases hp with rfl | rfl <;> decide +kernel
theorem wait_in : ∀ q ∈ sidesT, ∀ s ∈ allT, hasT q.1 q.2 s = true → waitT q.2 s ≠ 0 → waitT q.2 s ∈ sendsL q.1 q.2 := by decide +kernel
theorem errI_iface (ads : List Addr) (k : Int) (h : k ≠ 0) : ∃ q, errI ads k = .iface 80 (.pointer q) := ⟨_, if_neg h⟩
theorem hasT_all {p e s : Int} (h : hasT p e s = true) : s ∈ allT := by
  have := hasT_rng h
  unfold allT
  simp only [List.mem_cons, List.not_mem_nil, or_false]
  omega
set_option maxRecDepth 100000 in
theorem tmeet_wrong (ads : List Addr) (p s : Int) (hp : i64T p) (hr : ¬ (p = 1 ∨ p = 2)) (w : World) (C : TabC ads w) :
    Calls Tryd.prog 8 #[.int .i64 p, .int .i64 s] w fun e' w' => e' = .returned (.bool true) ∧ Kp w w' := by
  have HA := Lib.hid (fun w1 (hk : Kp w w1) => alive10_any ads w1 (TabC.kp C hk))
  have r1 : rightT p 1 = false := decide_eq_false (by omega)
  have r2 : rightT p 2 = false := decide_eq_false (by omega)
  have S1 := fun w1 (hk : Kp w w1) => C.sends w1 hk p 1 hp (by decide)
  have T2 := fun w1 (hk : Kp w w1) => C.takes w1 hk p 2 hp (by decide)
  have S2 := fun w1 (hk : Kp w w1) => C.sends w1 hk p 2 hp (by decide)
  have T1 := fun w1 (hk : Kp w w1) => C.takes w1 hk p 1 hp (by decide)
  simp only [r1, r2, Bool.false_eq_true, if_false] at S1 S2 T1 T2
  obtain ⟨q, hq⟩ := errI_iface ads 14 (by decide)
  rw [hq] at S1 S2 T1 T2
  have S1 := Lib.hid S1
  have S2 := Lib.hid S2
  have T1 := Lib.hid T1
  have T2 := Lib.hid T2
  clear C hp hr r1 r2 hq
  go_enter Tryd.func8, Tryd.ntmps8
  go_wp2_with (first
    | (go_at_call 10; (with_reducible refine (HA.out _ (Kp.refl _)).mono ?_); rintro e' w1 ⟨rfl, hk⟩; have K1 := Lib.hid hk; clear hk)
    | (go_at_call 22; (with_reducible refine (S1.out _ K1.out).mono ?_); rintro e' w2 ⟨v2, rfl, hs, hk⟩; have K2 := Lib.hid (Kp.trans K1.out hk); have A2 := Lib.hid hs; clear hs hk)
    | (go_at_call 21; (with_reducible refine (T2.out _ K2.out).mono ?_); rintro e' w3 ⟨v3, rfl, hs, hk⟩; have K3 := Lib.hid (Kp.trans K2.out hk); have B3 := Lib.hid hs; have A3 := Lib.hid (A2.out.kp hk); clear hs hk)
    | (go_at_call 22; (with_reducible refine (S2.out _ K3.out).mono ?_); rintro e' w4 ⟨v4, rfl, hs, hk⟩; have K4 := Lib.hid (Kp.trans K3.out hk); have D4 := Lib.hid hs; have A4 := Lib.hid (A3.out.kp hk); have B4 := Lib.hid (B3.out.kp hk); clear hs hk)
    | (go_at_call 21; (with_reducible refine (T1.out _ K4.out).mono ?_); rintro e' w5 ⟨v5, rfl, hs, hk⟩; have K5 := Lib.hid (Kp.trans K4.out hk); have E5 := Lib.hid hs; have A5 := Lib.hid (A4.out.kp hk); have B5 := Lib.hid (B4.out.kp hk); have D5 := Lib.hid (D4.out.kp hk); clear hs hk))
  go_ret
  exact ⟨by first | rfl | simp, K5.out⟩
set_option maxRecDepth 100000 in
set_option maxHeartbeats 2000000 in
theorem tmeet_right (ads : List Addr) (p s : Int) (hp : i64T p) (hs : i64T s) (hr : p = 1 ∨ p = 2) (w : World) (C : TabC ads w) :
    Calls Tryd.prog 8 #[.int .i64 p, .int .i64 s] w fun e' w' => e' = .returned (.bool true) ∧ Kp w w' := by
  have HA := Lib.hid (fun w1 (hk : Kp w w1) => alive10_any ads w1 (TabC.kp C hk))
  have r1 : rightT p 1 = true := decide_eq_true (by omega)
  have r2 : rightT p 2 = true := decide_eq_true (by omega)
  obtain ⟨m1, m2, n1, n2⟩ := meet_lists hr
  have S1 := fun w1 (hk : Kp w w1) => C.sends w1 hk p 1 hp (by decide)
  have T2 := fun w1 (hk : Kp w w1) => C.takes w1 hk p 2 hp (by decide)
  have S2 := fun w1 (hk : Kp w w1) => C.sends w1 hk p 2 hp (by decide)
  have T1 := fun w1 (hk : Kp w w1) => C.takes w1 hk p 1 hp (by decide)
  have W1 := fun w1 (hk : Kp w w1) => C.waits w1 hk p 1 s hp (by decide) hs
  have W2 := fun w1 (hk : Kp w w1) => C.waits w1 hk p 2 s hp (by decide) hs
  simp only [r1, r2, if_true, m1, m2, errI_nil] at S1 S2 T1 T2
  have w1in : hasT p 1 s = true → waitT 1 s ≠ 0 → waitT 1 s ∈ sendsL p 1 := fun h g => wait_in (p, 1) (rightT_mem r1) s (hasT_all h) h g
  have w2in : hasT p 2 s = true → waitT 2 s ≠ 0 → waitT 2 s ∈ sendsL p 2 := fun h g => wait_in (p, 2) (rightT_mem r2) s (hasT_all h) h g
  obtain ⟨L1, hL1⟩ : ∃ x, sendsL p 1 = x := ⟨_, rfl⟩
  obtain ⟨L2, hL2⟩ : ∃ x, sendsL p 2 = x := ⟨_, rfl⟩
  rw [hL1] at S1 T2 w1in n1
  rw [hL2] at S2 T1 w2in n2
  have Q1 := Lib.hid (fun (u v : Value) (w1 : World) (h1 : SlI u L1 w1) (h2 : SlI v L1 w1) => (show Calls Tryd.prog 25 #[u, v] w1 fun e w' => e = .returned (.bool true) ∧ Kp w1 w' from by have := sameInts_any u v L1 L1 (by omega) w1 h1 h2; simpa using this))
  have Q2 := Lib.hid (fun (u v : Value) (w1 : World) (h1 : SlI u L2 w1) (h2 : SlI v L2 w1) => (show Calls Tryd.prog 25 #[u, v] w1 fun e w' => e = .returned (.bool true) ∧ Kp w1 w' from by have := sameInts_any u v L2 L2 (by omega) w1 h1 h2; simpa using this))
  have N1 := Lib.hid (fun (x : Int) (hx : x ∈ L1) (a : Option Addr) (c : Nat) (w1 : World) (h : SlI (.slice a L1.length c) L1 w1) => (show Calls Tryd.prog 27 #[.slice a L1.length c, .int .i64 x] w1 fun e w' => e = .returned (.bool true) ∧ Kp w1 w' from by have := in_any a c L1.length L1 rfl (by omega) x w1 h; rw [decide_eq_true hx] at this; exact this))
  have N2 := Lib.hid (fun (x : Int) (hx : x ∈ L2) (a : Option Addr) (c : Nat) (w1 : World) (h : SlI (.slice a L2.length c) L2 w1) => (show Calls Tryd.prog 27 #[.slice a L2.length c, .int .i64 x] w1 fun e w' => e = .returned (.bool true) ∧ Kp w1 w' from by have := in_any a c L2.length L2 rfl (by omega) x w1 h; rw [decide_eq_true hx] at this; exact this))
  have wt1 : waitsT p 1 s = if hasT p 1 s = false then (1, 0) else (0, waitT 1 s) := by unfold waitsT; rw [r1]; rfl
  have wt2 : waitsT p 2 s = if hasT p 2 s = false then (1, 0) else (0, waitT 2 s) := by unfold waitsT; rw [r2]; rfl
  rw [wt1] at W1
  rw [wt2] at W2
  have S1 := Lib.hid S1
  have S2 := Lib.hid S2
  have T1 := Lib.hid T1
  have T2 := Lib.hid T2
  have W1 := Lib.hid W1
  have W2 := Lib.hid W2
  have I1 := Lib.hid w1in
  have I2 := Lib.hid w2in
  clear C hp hs hr r1 r2 m1 m2 n1 n2 hL1 hL2 w1in w2in wt1 wt2
  go_enter Tryd.func8, Tryd.ntmps8
  go_wp2_with (first
    | (go_at_call 10; (with_reducible refine (HA.out _ (Kp.refl _)).mono ?_); rintro e' w1 ⟨rfl, hk⟩; have K1 := Lib.hid hk; clear hk)
    | (go_at_call 22; (with_reducible refine (S1.out _ K1.out).mono ?_); rintro e' w2 ⟨v2, rfl, hs, hk⟩; have K2 := Lib.hid (Kp.trans K1.out hk); have A2 := Lib.hid hs; clear hs hk)
    | (go_at_call 21; (with_reducible refine (T2.out _ K2.out).mono ?_); rintro e' w3 ⟨v3, rfl, hs, hk⟩; have K3 := Lib.hid (Kp.trans K2.out hk); have B3 := Lib.hid hs; have A3 := Lib.hid (A2.out.kp hk); clear hs hk)
    | (go_at_call 22; (with_reducible refine (S2.out _ K3.out).mono ?_); rintro e' w4 ⟨v4, rfl, hs, hk⟩; have K4 := Lib.hid (Kp.trans K3.out hk); have D4 := Lib.hid hs; have A4 := Lib.hid (A3.out.kp hk); have B4 := Lib.hid (B3.out.kp hk); clear hs hk)
    | (go_at_call 21; (with_reducible refine (T1.out _ K4.out).mono ?_); rintro e' w5 ⟨v5, rfl, hs, hk⟩; have K5 := Lib.hid (Kp.trans K4.out hk); have E5 := Lib.hid hs; have A5 := Lib.hid (A4.out.kp hk); have B5 := Lib.hid (B4.out.kp hk); have D5 := Lib.hid (D4.out.kp hk); clear hs hk)
    | (go_at_call 25; (with_reducible refine (Q1.out v2 v3 _ A5.out B5.out).mono ?_); rintro e' w6 ⟨rfl, hk⟩; have K6 := Lib.hid (Kp.trans K5.out hk); have D6 := Lib.hid (D5.out.kp hk); have E6 := Lib.hid (E5.out.kp hk); clear hk)
    | (go_at_call 25; (with_reducible refine (Q2.out v4 v5 _ D6.out E6.out).mono ?_); rintro e' w7 ⟨rfl, hk⟩; have K7 := Lib.hid (Kp.trans K6.out hk); clear hk))
  go_loopw [13] (fun i wr => ∃ j : Nat, 1 ≤ j ∧ j ≤ 3 ∧ i = .int .i64 j ∧ Kp w wr) (fun i _ => 3 - (intOf i).toNat)
  case atStart => exact ⟨1, by omega, by omega, rfl, K7.out⟩
  case round =>
    obtain ⟨j, hj1, hj3, rfl, hk⟩ := hrel
    have HK := Lib.hid hk
    clear hk
    rcases (show j = 1 ∨ j = 2 ∨ j = 3 by omega) with rfl | rfl | rfl
    · cases hh : hasT p 1 s with
      | false =>
        have WW := W1.out
        simp only [hh, if_true] at WW
        obtain ⟨q, hq⟩ := errI_iface ads 1 (by decide)
        rw [hq] at WW
        have WW := Lib.hid WW
        clear hh hq
        go_wp2_with (go_at_call 16; (with_reducible refine (WW.out _ HK.out).mono ?_); rintro e' w8 ⟨rfl, hk⟩; have K8 := Lib.hid (Kp.trans HK.out hk); clear hk)
        go_roundw
        case rel => exact ⟨2, by omega, by omega, rfl, K8.out⟩
        case measure => simp [intOf]
      | true =>
        have WW := W1.out
        simp only [hh, Bool.true_eq_false, if_false, errI_nil] at WW
        have hin := I1.out hh
        obtain ⟨k, hk0⟩ : ∃ k, waitT 1 s = k := ⟨_, rfl⟩
        rw [hk0] at WW hin
        have WW := Lib.hid WW
        by_cases k0 : k = 0
        · subst k0
          clear hh hk0 hin
          go_wp2_with (go_at_call 16; (with_reducible refine (WW.out _ HK.out).mono ?_); rintro e' w8 ⟨rfl, hk⟩; have K8 := Lib.hid (Kp.trans HK.out hk); clear hk)
          go_roundw
          case rel => exact ⟨2, by omega, by omega, rfl, K8.out⟩
          case measure => simp [intOf]
        · have kb : (k == 0) = false := by simpa using k0
          have HIN := Lib.hid (hin k0)
          clear hh hk0 hin k0
          go_wp2_with (first
            | (go_at_call 16; (with_reducible refine (WW.out _ HK.out).mono ?_); rintro e' w8 ⟨rfl, hk⟩; have K8 := Lib.hid (Kp.trans HK.out hk); clear hk)
            | (go_at_call 22; (with_reducible refine (S1.out _ K8.out).mono ?_); rintro e' w9 ⟨v9, rfl, hs9, hk⟩; obtain ⟨a9, c9, rfl⟩ := hs9.form; have K9 := Lib.hid (Kp.trans K8.out hk); have S9 := Lib.hid hs9; clear hs9 hk)
            | (go_at_call 27; (with_reducible refine (N1.out k HIN.out _ _ _ S9.out).mono ?_); rintro e' wa ⟨rfl, hk⟩; have KA := Lib.hid (Kp.trans K9.out hk); clear hk))
          go_roundw
          case rel => exact ⟨2, by omega, by omega, rfl, KA.out⟩
          case measure => simp [intOf]
    · cases hh : hasT p 2 s with
      | false =>
        have WW := W2.out
        simp only [hh, if_true] at WW
        obtain ⟨q, hq⟩ := errI_iface ads 1 (by decide)
        rw [hq] at WW
        have WW := Lib.hid WW
        clear hh hq
        go_wp2_with (go_at_call 16; (with_reducible refine (WW.out _ HK.out).mono ?_); rintro e' w8 ⟨rfl, hk⟩; have K8 := Lib.hid (Kp.trans HK.out hk); clear hk)
        go_roundw
        case rel => exact ⟨3, by omega, by omega, rfl, K8.out⟩
        case measure => simp [intOf]
      | true =>
        have WW := W2.out
        simp only [hh, Bool.true_eq_false, if_false, errI_nil] at WW
        have hin := I2.out hh
        obtain ⟨k, hk0⟩ : ∃ k, waitT 2 s = k := ⟨_, rfl⟩
        rw [hk0] at WW hin
        have WW := Lib.hid WW
        by_cases k0 : k = 0
        · subst k0
          clear hh hk0 hin
          go_wp2_with (go_at_call 16; (with_reducible refine (WW.out _ HK.out).mono ?_); rintro e' w8 ⟨rfl, hk⟩; have K8 := Lib.hid (Kp.trans HK.out hk); clear hk)
          go_roundw
          case rel => exact ⟨3, by omega, by omega, rfl, K8.out⟩
          case measure => simp [intOf]
        · have kb : (k == 0) = false := by simpa using k0
          have HIN := Lib.hid (hin k0)
          clear hh hk0 hin k0
          go_wp2_with (first
            | (go_at_call 16; (with_reducible refine (WW.out _ HK.out).mono ?_); rintro e' w8 ⟨rfl, hk⟩; have K8 := Lib.hid (Kp.trans HK.out hk); clear hk)
            | (go_at_call 22; (with_reducible refine (S2.out _ K8.out).mono ?_); rintro e' w9 ⟨v9, rfl, hs9, hk⟩; obtain ⟨a9, c9, rfl⟩ := hs9.form; have K9 := Lib.hid (Kp.trans K8.out hk); have S9 := Lib.hid hs9; clear hs9 hk)
            | (go_at_call 27; (with_reducible refine (N2.out k HIN.out _ _ _ S9.out).mono ?_); rintro e' wa ⟨rfl, hk⟩; have KA := Lib.hid (Kp.trans K9.out hk); clear hk))
          go_roundw
          case rel => exact ⟨3, by omega, by omega, rfl, KA.out⟩
          case measure => simp [intOf]
    · go_wp2
      go_ret
      exact ⟨rfl, HK.out⟩
theorem tmeet_any (ads : List Addr) (p s : Int) (hp : i64T p) (hs : i64T s) (w : World) (C : TabC ads w) :
    Calls Tryd.prog 8 #[.int .i64 p, .int .i64 s] w fun e' w' => e' = .returned (.bool true) ∧ Kp w w' := by
  by_cases hr : p = 1 ∨ p = 2
  · exact tmeet_right ads p s hp hs hr w C
  · exact tmeet_wrong ads p s hp hr w C
end Go.Proofs.YtoeidlhcioponaaDoor
