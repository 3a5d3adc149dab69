/-
  TapePower's WALKS (own work), over TapC.
-/
import Derived.Test.YtjgakdcjkddpiaaDoorTal6
import Derived.Laws.Cover1
namespace Go.Proofs.YtjgakdcjkddpiaaDoor
open Go.RowKit Go.ChangeShapes Go.WideShapes
variable {ads : List Addr} {R : Nat → TM → (Nat → Prop) → World → Prop} {W : World}

/-- the tape behind j steps of a power that lasts A of them -/
def mP (A : Int) (j : Int) : TM := { sure := [], tail := [], room := 20, left := if j < A then A - j else 0, off := decide (A < j) }
theorem mP_0 (A : Int) (h : 0 ≤ A) : armM (newM 20) A = mP A 0 := by
  unfold armM mP newM
  rw [if_neg (by omega)]
  simp only [TM.mk.injEq, true_and]
  refine ⟨?_, ?_⟩
  · split <;> omega
  · simp only [Bool.false_eq, decide_eq_false_iff_not]; omega
theorem mP_lo {A j : Int} (h : j < A) : syncM (mP A j) = (0, mP A (j + 1)) := by
  have hs : stepM (mP A j) = (0, mP A (j + 1)) := by
    unfold stepM mP
    simp only [if_pos h, decide_eq_true_eq]
    rw [if_neg (by omega), if_pos (by omega)]
    simp only [Prod.mk.injEq, TM.mk.injEq, true_and]
    refine ⟨by split <;> omega, ?_⟩
    rw [decide_eq_decide]
    omega
  unfold syncM
  rw [hs]
  rfl
theorem mP_hi {A j : Int} (h : ¬ j < A) : syncM (mP A j) = (7, mP A (j + 1)) := by
  have hs : stepM (mP A j) = (7, mP A (j + 1)) := by
    unfold stepM mP
    simp only [if_neg h]
    rw [if_pos (by simp)]
    simp only [Prod.mk.injEq, TM.mk.injEq, true_and]
    refine ⟨by split <;> omega, ?_⟩
    simp only [Bool.true_eq, decide_eq_true_eq]
    omega
  unfold syncM
  rw [hs]
  rfl
theorem mP_ok {A j : Int} (h0 : 0 ≤ A) (h1 : A < 20) (h2 : 0 ≤ j) : Mok (mP A j) :=
  ⟨InB.nil, InB.nil, by show 0 + 0 ≤ 65536; omega, by show (0 : Int) ≤ 20; omega, by show (20 : Int) ≤ 65536; omega, by show -1 ≤ (if j < A then A - j else 0); split <;> omega, by show (if j < A then A - j else 0) ≤ 9223372036854775807; split <;> omega⟩
def zer21 : List Int := List.replicate 21 0
theorem zer_cells : (madeCells #[Value.int .u8 0] 21).toList = zer21.map (Value.int .u8) := by simp [madeCells, zer21]; rfl
theorem zer_in : InB zer21 := fun x hx => by
  have := List.eq_of_mem_replicate hx
  omega
theorem mP_app (A j : Int) : appM (mP A j) zer21 = (6, mP A j) := by
  unfold appM
  rw [if_pos]
  show (20 : Int) - 0 - 0 < 21
  omega
theorem mP_cut (A j : Int) : cutsM (mP A j) 100 = (1, mP A j) := by
  unfold cutsM
  rw [if_pos]
  right
  show (0 : Int) < 100
  omega
theorem rem_in (x k : Int) (hk : 0 < k) (hk2 : k ≤ 100) : 0 ≤ wrap64 ((IntKind.u64.wrap x).tmod k) ∧ wrap64 ((IntKind.u64.wrap x).tmod k) < k := by
  have h0 : 0 ≤ IntKind.u64.wrap x := by
    unfold IntKind.wrap
    simp [IntKind.signed, IntKind.bits]
    omega
  rw [Int.tmod_eq_emod_of_nonneg h0]
  have h1 := Int.emod_nonneg (IntKind.u64.wrap x) (show k ≠ 0 by omega)
  have h2 := Int.emod_lt_of_pos (IntKind.u64.wrap x) hk
  unfold wrap64
  omega

set_option maxRecDepth 20000 in
set_option maxHeartbeats 4000000 in
theorem power_any (C : TapC ads W R) (V : St ads W) (lasts steps : Int) :
    Calls Tryd.prog 5 #[.int .i64 lasts, .int .i64 steps] W fun e w' => e = .returned (.bool true) ∧ Kp W w' := by
  have HC := Lib.hid C
  have HV := Lib.hid V
  have HAL := Lib.hid (alive6 C)
  have H0 := Lib.hid (fun w1 (hk : Kp W w1) => C.new_ok w1 hk 20 (by decide) (by decide))
  have hA0 := rem_in lasts 20 (by decide) (by decide)
  have hB0 := rem_in steps 30 (by decide) (by decide)
  obtain ⟨A, hA⟩ : ∃ x, wrap64 ((IntKind.u64.wrap lasts).tmod 20) = x := ⟨_, rfl⟩
  obtain ⟨B, hB⟩ : ∃ x, wrap64 ((IntKind.u64.wrap steps).tmod 30) = x := ⟨_, rfl⟩
  rw [hA] at hA0
  rw [hB] at hB0
  have HAB := Lib.hid (And.intro hA0 hB0)
  have H1 := fun w1 g O (t : OneO R W g (newM 20) O w1) => C.arm w1 t.kW g _ O t.r (Mok.new (by decide) (by decide)) A (by omega) (by omega)
  rw [mP_0 A hA0.1] at H1
  have H1 := Lib.hid H1
  have HNU := Lib.hid (fun w1 (hk : Kp W w1) (k : Int) (h0 : 0 ≤ k) (h1 : k ≤ 14) => num_errN ads w1 (V.below hk) k h0 h1)
  have H2 := fun w1 g O j (hj : 0 ≤ j) (t : OneO R W g (mP A j) O w1) gg (q : SlB (.slice (some ⟨gg, 0, none⟩) 21 21) zer21 w1) (hno : ¬ O gg) => C.append w1 t.kW g _ O t.r (mP_ok hA0.1 hA0.2 hj) (some ⟨gg, 0, none⟩) 21 21 zer21 q rfl (by decide) zer_in (by decide) (fun _ ad e => by injection e with e; subst e; exact hno)
  simp only [mP_app] at H2
  have H2 := Lib.hid H2
  have H3 := fun w1 g O j (hj : 0 ≤ j) (t : OneO R W g (mP A j) O w1) => C.cut w1 t.kW g _ O t.r (mP_ok hA0.1 hA0.2 hj) 100 (by decide) (by decide)
  simp only [mP_cut] at H3
  have H3 := Lib.hid H3
  have h6 : 6 < ads.length := by rw [V.len]; decide
  obtain ⟨a6, ha6⟩ : ∃ a, ads[6]'h6 = a := ⟨_, rfl⟩
  have e7 : errI ads 7 = snt a6 := by rw [← ha6]; exact errI_at ads 6 h6
  have HE7 := Lib.hid e7
  have H4 := Lib.hid (fun w1 g O j (hj : 0 ≤ j) (t : OneO R W g (mP A j) O w1) => C.sync w1 t.kW g _ O t.r (mP_ok hA0.1 hA0.2 hj))
  have H5 := Lib.hid (fun w1 g O j (hj : 0 ≤ j) (t : OneO R W g (mP A j) O w1) => C.off w1 t.kW g _ O t.r (mP_ok hA0.1 hA0.2 hj))
  clear C V e7 ha6 h6
  go_enter Tryd.func5, Tryd.ntmps5
  go_wp2_with (first
    | (go_at_call 7; (with_reducible refine HAL.out.mono ?_); rintro e w1 ⟨rfl, hk⟩; have K1 := Lib.hid hk; clear hk)
    | (go_at_call 9; (with_reducible refine (H0.out _ K1.out).mono ?_); rintro e w2 ⟨g, O2, rfl, r, hn, hk⟩; have T2 := Lib.hid (OneO.mk r (Kp.trans K1.out hk) : OneO R W g _ O2 w2); clear r hn hk)
    | (go_at_call 20; (with_reducible refine (H1.out _ _ _ T2.out).mono ?_); rintro e w3 ⟨rfl, O3, r, ha⟩; have T3 := Lib.hid (T2.out.tape HC.out r ha); clear r ha))
  go_loopw [31] (fun i wr => ∃ (j : Int) (O : Nat → Prop), 0 ≤ j ∧ j ≤ B ∧ i = .int .i64 j ∧ OneO R W g (mP A j) O wr) (fun i _ => (B - intOf i).toNat)
  case atStart => exact ⟨0, O3, Int.le_refl _, HAB.out.2.1, rfl, T3.out⟩
  case round =>
    obtain ⟨jj, O, hj0, hjB, rfl, ht⟩ := hrel
    have T := Lib.hid ht
    have hB30 := HAB.out.2.2
    by_cases hlt : jj < B
    · have HJ := Lib.hid (And.intro hj0 hlt)
      have H2j := Lib.hid (fun w1 O t gg q hno => H2.out w1 g O jj hj0 t gg q hno)
      have H3j := Lib.hid (fun w1 O t => H3.out w1 g O jj hj0 t)
      have HN6 := Lib.hid (fun w1 (hk : Kp W w1) => HNU.out w1 hk 6 (by decide) (by decide))
      have HN1 := Lib.hid (fun w1 (hk : Kp W w1) => HNU.out w1 hk 1 (by decide) (by decide))
      have H4j := fun w1 O t => H4.out w1 g O jj hj0 t
      have NG := Lib.hid (ht.new HC.out)
      obtain ⟨i0, hi, hz0, hz1, hz2⟩ := info_parts info_byte
      clear ht hjB
      go_wp2_with (at_make; refine wpList_make_full _ rfl _ _ 33 rfl wr.heap.size 5 i0 (.int .u8 0) 1 Tryd.underlying33 hi hz0 hz1 .i64 .i64 _ _ 21 rfl rfl (by rfl) (by rfl) (by rw [hz2]; decide) (by decide) (Nat.le_refl _) ?_)
      intro wa hown hgr
      have ka : Kp wr wa := Below.grown (Kp.refl _) hgr (Nat.le_refl _) (fun k hk => by cases hk)
      have TA := Lib.hid (T.out.kp HC.out ka)
      rw [zer_cells] at hown
      have SZ := Lib.hid (own_slb hown)
      clear hi hz0 hz1 hz2 hown hgr ka
      by_cases hjA : jj < A
      · simp only [mP_lo hjA, errI_nil] at H4j
        have H4j := Lib.hid H4j
        have dA : decide (jj < A) = true := decide_eq_true hjA
        go_wp2_with (first
          | (go_at_call 17; (with_reducible refine (H2j.out _ _ TA.out _ SZ.out NG.out).mono ?_); rintro e w4 ⟨rfl, O4, r, ha⟩; have T4 := Lib.hid (TA.out.tape HC.out r ha); clear r ha)
          | (go_at_call 10; (with_reducible refine (HN6.out _ T4.out.kW).mono ?_); rintro e w5 ⟨rfl, hk⟩; have T5 := Lib.hid (T4.out.kp HC.out hk); clear hk)
          | (go_at_call 21; (with_reducible refine (H3j.out _ _ T5.out).mono ?_); rintro e w6 ⟨rfl, O6, r, ha⟩; have T6 := Lib.hid (T5.out.tape HC.out r ha); clear r ha)
          | (go_at_call 10; (with_reducible refine (HN1.out _ T6.out.kW).mono ?_); rintro e w6b ⟨rfl, hk⟩; have T6b := Lib.hid (T6.out.kp HC.out hk); clear hk)
          | (go_at_call 18; (with_reducible refine (H4j.out _ _ T6b.out).mono ?_); rintro e w7 ⟨rfl, O7, r, ha⟩; have T7 := Lib.hid (T6b.out.tape HC.out r ha); clear r ha))
        have hj2 := HJ.out
        exact ⟨⟨jj + 1, _, by omega, by omega, rfl, T7.out⟩, by simp [intOf]; omega⟩
      · simp only [mP_hi hjA, HE7.out] at H4j
        have H4j := Lib.hid H4j
        have HN7 := fun w1 (hk : Kp W w1) => HNU.out w1 hk 7 (by decide) (by decide)
        simp only [HE7.out] at HN7
        have HN7 := Lib.hid HN7
        have dA : decide (jj < A) = false := decide_eq_false hjA
        go_wp2_with (first
          | (go_at_call 17; (with_reducible refine (H2j.out _ _ TA.out _ SZ.out NG.out).mono ?_); rintro e w4 ⟨rfl, O4, r, ha⟩; have T4 := Lib.hid (TA.out.tape HC.out r ha); clear r ha)
          | (go_at_call 10; (with_reducible refine (HN6.out _ T4.out.kW).mono ?_); rintro e w5 ⟨rfl, hk⟩; have T5 := Lib.hid (T4.out.kp HC.out hk); clear hk)
          | (go_at_call 21; (with_reducible refine (H3j.out _ _ T5.out).mono ?_); rintro e w6 ⟨rfl, O6, r, ha⟩; have T6 := Lib.hid (T5.out.tape HC.out r ha); clear r ha)
          | (go_at_call 10; (with_reducible refine (HN1.out _ T6.out.kW).mono ?_); rintro e w6b ⟨rfl, hk⟩; have T6b := Lib.hid (T6.out.kp HC.out hk); clear hk)
          | (go_at_call 18; (with_reducible refine (H4j.out _ _ T6b.out).mono ?_); rintro e w7 ⟨rfl, O7, r, ha⟩; have T7 := Lib.hid (T6b.out.tape HC.out r ha); clear r ha)
          | (go_at_call 10; (with_reducible refine (HN7.out _ T7.out.kW).mono ?_); rintro e w8 ⟨rfl, hk⟩; have T8 := Lib.hid (T7.out.kp HC.out hk); clear hk))
        have hj2 := HJ.out
        exact ⟨⟨jj + 1, _, by omega, by omega, rfl, T8.out⟩, by simp [intOf]; omega⟩
    · have hjB2 : jj = B := by omega
      have H5j := fun w1 O t => H5.out w1 g O jj hj0 t
      have ho : (mP A jj).off = decide (A < B) := by rw [hjB2]; rfl
      simp only [ho] at H5j
      have H5j := Lib.hid H5j
      clear ht hj0 hjB ho hjB2
      go_wp2_with (go_at_call 16; (with_reducible refine (H5j.out _ _ T.out).mono ?_); rintro e w9 ⟨rfl, hk⟩; have T9 := Lib.hid (T.out.kp HC.out hk); clear hk)
      go_ret
      exact ⟨by first | rfl | simp, T9.out.kW⟩
end Go.Proofs.YtjgakdcjkddpiaaDoor
