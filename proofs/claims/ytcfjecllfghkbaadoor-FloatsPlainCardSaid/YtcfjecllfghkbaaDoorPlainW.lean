/-
  THE WALK OF FloatsPlain (own work).
-/
import Derived.Test.YtcfjecllfghkbaaDoorRows
import Derived.Test.YtcfjecllfghkbaaDoorFz
import Derived.Test.YtcfjecllfghkbaaDoorLaid
namespace Go.Proofs.YtcfjecllfghkbaaDoor
open Go.RowKit

theorem andNot63 {b : Nat} (hb : b < 18446744073709551616) : bits .andNot .u64 (b : Int) 9223372036854775808 = ((b % 9223372036854775808 : Nat) : Int) := by
  rw [show (9223372036854775808 : Int) = ((9223372036854775808 : Nat) : Int) from rfl, u64_andNot_nat b _ hb (by omega), show (18446744073709551615 - 9223372036854775808 : Nat) = 2 ^ 63 - 1 from rfl, Nat.and_two_pow_sub_one_eq_mod]
theorem andExp {b : Nat} (hb : b < 18446744073709551616) : bits .and .u64 (b : Int) 9218868437227405312 = ((b / 4503599627370496 % 2048 * 4503599627370496 : Nat) : Int) := by
  rw [show (9218868437227405312 : Int) = ((9218868437227405312 : Nat) : Int) from rfl, u64_and_nat b _ hb (by omega)]
  congr 1
  rw [show (9218868437227405312 : Nat) = (2 ^ 11 - 1) * 2 ^ 52 from rfl, show (4503599627370496 : Nat) = 2 ^ 52 from rfl, show (2048 : Nat) = 2 ^ 11 from rfl]
  apply Nat.eq_of_testBit_eq
  intro i
  rw [Nat.testBit_and, Nat.testBit_mul_two_pow, Nat.testBit_mul_two_pow, Nat.testBit_two_pow_sub_one, Nat.testBit_mod_two_pow, Nat.testBit_div_two_pow]
  by_cases h : 52 ≤ i
  · rw [show i - 52 + 52 = i by omega]
    simp [h, Bool.and_comm]
  · simp [h]
def fin (b : Nat) : Bool := decide (b % 9223372036854775808 < 9218868437227405312)
theorem exp_fin {b : Nat} (hb : b < 18446744073709551616) : (bits .and .u64 (b : Int) 9218868437227405312 != 9218868437227405312) = fin b := by
  rw [andExp hb]
  unfold fin
  rw [Bool.eq_iff_iff]
  simp only [bne_iff_ne, ne_eq, decide_eq_true_eq]
  omega
theorem abs_any (b : Nat) (w : World) (hb : b < 18446744073709551616) :
    Calls Tryd.prog 44 #[.float .f64 b] w fun e w' => e = .returned (.float .f64 (b % 9223372036854775808)) ∧ w = w' := by
  have e1 := ext_bits
  have e2 := ext_fromI
  have e3 := andNot63 hb
  go_enter Tryd.func44, Tryd.ntmps44
  go_wp2
  go_ret
  exact ⟨rfl, rfl⟩
theorem abs_gt {b : Nat} (hn : Fl.isNan b = false) : (FloatKind.f64.format.order (b % 9223372036854775808) 9218868437227405311 == some .gt) = !fin b := by
  have h1 : b % 9223372036854775808 < 18446744073709551616 := by omega
  have hle : b % 9223372036854775808 ≤ 9218868437227405312 := by unfold Fl.isNan at hn; have := of_decide_eq_false hn; omega
  have e : (FloatKind.f64.format.order (b % 9223372036854775808) 9218868437227405311 == some .gt) = Fl.isLt 9218868437227405311 (b % 9223372036854775808) := Fl.test_gt h1 (by omega)
  rw [e, Fl.dl_isLt (by kernel_rfl) (Fl.dl_of_le hle).1, (Fl.dl_of_le hle).2.2, show Fl.plain 9218868437227405311 = 9218868437227405311 by kernel_rfl]
  unfold fin
  rw [Bool.eq_iff_iff]
  simp; omega
theorem isInf_any (b : Nat) (w : World) (hb : b < 18446744073709551616) (hn : Fl.isNan b = false) :
    Calls Tryd.prog 40 #[.float .f64 b, .int .i64 0] w fun e w' => e = .returned (.bool (!fin b)) ∧ w = w' := by
  have HB := Lib.hid hb
  have HG := Lib.hid (abs_gt hn)
  clear hb hn
  go_enter Tryd.func40, Tryd.ntmps40
  go_wp2_with (go_at_call 44; (with_reducible refine (abs_any _ _ HB.out).mono ?_); rintro e w' ⟨rfl, rfl⟩)
  go_ret
  exact ⟨bool_ret HG.out, rfl⟩
theorem finite_any (b : Nat) (w : World) (hb : b < 18446744073709551616) :
    Calls Tryd.prog 23 #[.float .f64 b] w fun e w' => e = .returned (.bool (fin b)) ∧ w = w' := by
  cases hn : Fl.isNan b
  · obtain ⟨q, hq⟩ : ∃ q, fin b = q := ⟨_, rfl⟩
    have i : ∀ w, Calls Tryd.prog 40 #[.float .f64 b, .int .i64 0] w fun e w' => e = .returned (.bool (!q)) ∧ w = w' := by
      intro w; rw [← hq]; exact isInf_any b w hb hn
    rw [hq]
    have HQ := Lib.hid hq
    clear hq
    cases q
    all_goals
      go_enter Tryd.func23, Tryd.ntmps23
      go_wp2_with (first | (go_at_call 36; (with_reducible refine (isNaN_f b _ hb hn).mono ?_); rintro e w' ⟨rfl, rfl⟩) | (go_at_call 40; (with_reducible refine (i _).mono ?_); rintro e w' ⟨rfl, rfl⟩))
      go_ret
      exact ⟨rfl, rfl⟩
  · have hq : fin b = false := by unfold fin; unfold Fl.isNan at hn; have := of_decide_eq_true hn; exact decide_eq_false (by omega)
    rw [hq]
    go_enter Tryd.func23, Tryd.ntmps23
    go_wp2_with (go_at_call 36; (with_reducible refine (isNaN_t b _ hb hn).mono ?_); rintro e w' ⟨rfl, rfl⟩)
    go_ret
    exact ⟨rfl, rfl⟩

theorem same_refl (a : Nat) (w : World) :
    Calls Tryd.prog 16 #[.float .f64 a, .float .f64 a] w fun e w' => e = .returned (.bool true) ∧ w = w' := by
  have h := same_any a a w
  rw [decide_eq_true rfl] at h
  exact h
theorem bits_any (b : Nat) (w : World) (hb : b < 18446744073709551616) :
    Calls Tryd.prog 18 #[.float .f64 b] w fun e w' => e = .returned (.int .u64 (Fl.plain b)) ∧ w = w' := by
  have e1 := ext_bits
  go_enter Tryd.func18, Tryd.ntmps18
  go_wp2_with (go_at_call 13; (with_reducible refine (plain_any _ _ hb).mono ?_); rintro e w' ⟨rfl, rfl⟩)
  go_ret
  exact ⟨rfl, rfl⟩
theorem plain_plain (b : Nat) : Fl.plain (Fl.plain b) = Fl.plain b := by
  unfold Fl.plain
  cases hn : Fl.isNan b
  · simp only [Bool.false_eq_true, if_false]
    by_cases h : b = 9223372036854775808
    · rw [if_pos h]; rfl
    · rw [if_neg h, hn, if_neg (by simp), if_neg h]
  · simp only [if_true]
    have : Fl.isNan 9221120237041090561 = true := by kernel_rfl
    rw [this, if_pos rfl]

set_option maxHeartbeats 1000000 in
theorem plain_ok_true (a m p r : Nat) (w : World) 
    (p1 : ∀ w, Calls Tryd.prog 13 #[.float .f64 a] w fun e w' => e = .returned (.float .f64 p) ∧ w = w')
    (p2 : ∀ w, Calls Tryd.prog 17 #[.float .f64 a] w fun e w' => e = .returned (.float .f64 p) ∧ w = w')
    (p4 : ∀ w, Calls Tryd.prog 17 #[.float .f64 m] w fun e w' => e = .returned (.float .f64 r) ∧ w = w')
    (b1 : ∀ w, Calls Tryd.prog 18 #[.float .f64 a] w fun e w' => e = .returned (.int .u64 p) ∧ w = w')
    (b2 : ∀ w, Calls Tryd.prog 19 #[.float .f64 a] w fun e w' => e = .returned (.int .u64 p) ∧ w = w')
    (f1 : ∀ w, Calls Tryd.prog 20 #[.int .u64 p] w fun e w' => e = .returned (.float .f64 p) ∧ w = w')
    (f2 : ∀ w, Calls Tryd.prog 20 #[.int .u64 m] w fun e w' => e = .returned (.float .f64 r) ∧ w = w')
    (rd : ∀ w, Calls Tryd.prog 15 #[.float .f64 a] w fun e w' => e = .returned (.bool true) ∧ w = w')
    (fi : ∀ w, Calls Tryd.prog 23 #[.float .f64 m] w fun e w' => e = .returned (.bool true) ∧ w = w')
    (t1 : (bits .and .u64 (m : Int) 9218868437227405312 != 9218868437227405312) = true)
    (dd : ∀ w, Calls Tryd.prog 14 #[.float .f64 a] w fun e w' => e = .returned (.tuple #[.float .f64 p, .nilIface]) ∧ w = w') :
    Calls Tryd.prog 4 #[.float .f64 a, .int .u64 m] w fun e w' => e = .returned (.bool true) ∧ Below w.heap.size w w' := by
  have ex := ext_from
  go_enter Tryd.func4, Tryd.ntmps4
  go_wp2_with (first | (go_at_call 10; (with_reducible refine (alive_any _).mono ?_); rintro e w' ⟨rfl, rfl⟩) | (go_at_call 13; (with_reducible refine (p1 _).mono ?_); rintro e w' ⟨rfl, rfl⟩) | (go_at_call 15; (with_reducible refine (rd _).mono ?_); rintro e w' ⟨rfl, rfl⟩) | (go_at_call 17; (with_reducible refine (p2 _).mono ?_); rintro e w' ⟨rfl, rfl⟩) | (go_at_call 17; (with_reducible refine (p4 _).mono ?_); rintro e w' ⟨rfl, rfl⟩) | (go_at_call 18; (with_reducible refine (b1 _).mono ?_); rintro e w' ⟨rfl, rfl⟩) | (go_at_call 19; (with_reducible refine (b2 _).mono ?_); rintro e w' ⟨rfl, rfl⟩) | (go_at_call 20; (with_reducible refine (f1 _).mono ?_); rintro e w' ⟨rfl, rfl⟩) | (go_at_call 20; (with_reducible refine (f2 _).mono ?_); rintro e w' ⟨rfl, rfl⟩) | (go_at_call 16; (with_reducible refine (same_refl _ _).mono ?_); rintro e w' ⟨rfl, rfl⟩) | (go_at_call 23; (with_reducible refine (fi _).mono ?_); rintro e w' ⟨rfl, rfl⟩) | (go_at_call 14; (with_reducible refine (dd _).mono ?_); rintro e w' ⟨rfl, rfl⟩))
  go_ret
  exact ⟨rfl, Kp.refl _⟩

set_option maxHeartbeats 1000000 in
theorem plain_ok_false (a m p r : Nat) (w : World) 
    (p1 : ∀ w, Calls Tryd.prog 13 #[.float .f64 a] w fun e w' => e = .returned (.float .f64 p) ∧ w = w')
    (p2 : ∀ w, Calls Tryd.prog 17 #[.float .f64 a] w fun e w' => e = .returned (.float .f64 p) ∧ w = w')
    (p4 : ∀ w, Calls Tryd.prog 17 #[.float .f64 m] w fun e w' => e = .returned (.float .f64 r) ∧ w = w')
    (b1 : ∀ w, Calls Tryd.prog 18 #[.float .f64 a] w fun e w' => e = .returned (.int .u64 p) ∧ w = w')
    (b2 : ∀ w, Calls Tryd.prog 19 #[.float .f64 a] w fun e w' => e = .returned (.int .u64 p) ∧ w = w')
    (f1 : ∀ w, Calls Tryd.prog 20 #[.int .u64 p] w fun e w' => e = .returned (.float .f64 p) ∧ w = w')
    (f2 : ∀ w, Calls Tryd.prog 20 #[.int .u64 m] w fun e w' => e = .returned (.float .f64 r) ∧ w = w')
    (rd : ∀ w, Calls Tryd.prog 15 #[.float .f64 a] w fun e w' => e = .returned (.bool true) ∧ w = w')
    (fi : ∀ w, Calls Tryd.prog 23 #[.float .f64 m] w fun e w' => e = .returned (.bool false) ∧ w = w')
    (t1 : (bits .and .u64 (m : Int) 9218868437227405312 != 9218868437227405312) = false)
    (dd : ∀ w, Calls Tryd.prog 14 #[.float .f64 a] w fun e w' => e = .returned (.tuple #[.float .f64 p, .nilIface]) ∧ w = w') :
    Calls Tryd.prog 4 #[.float .f64 a, .int .u64 m] w fun e w' => e = .returned (.bool true) ∧ Below w.heap.size w w' := by
  have ex := ext_from
  go_enter Tryd.func4, Tryd.ntmps4
  go_wp2_with (first | (go_at_call 10; (with_reducible refine (alive_any _).mono ?_); rintro e w' ⟨rfl, rfl⟩) | (go_at_call 13; (with_reducible refine (p1 _).mono ?_); rintro e w' ⟨rfl, rfl⟩) | (go_at_call 15; (with_reducible refine (rd _).mono ?_); rintro e w' ⟨rfl, rfl⟩) | (go_at_call 17; (with_reducible refine (p2 _).mono ?_); rintro e w' ⟨rfl, rfl⟩) | (go_at_call 17; (with_reducible refine (p4 _).mono ?_); rintro e w' ⟨rfl, rfl⟩) | (go_at_call 18; (with_reducible refine (b1 _).mono ?_); rintro e w' ⟨rfl, rfl⟩) | (go_at_call 19; (with_reducible refine (b2 _).mono ?_); rintro e w' ⟨rfl, rfl⟩) | (go_at_call 20; (with_reducible refine (f1 _).mono ?_); rintro e w' ⟨rfl, rfl⟩) | (go_at_call 20; (with_reducible refine (f2 _).mono ?_); rintro e w' ⟨rfl, rfl⟩) | (go_at_call 16; (with_reducible refine (same_refl _ _).mono ?_); rintro e w' ⟨rfl, rfl⟩) | (go_at_call 23; (with_reducible refine (fi _).mono ?_); rintro e w' ⟨rfl, rfl⟩) | (go_at_call 14; (with_reducible refine (dd _).mono ?_); rintro e w' ⟨rfl, rfl⟩))
  go_ret
  exact ⟨rfl, Kp.refl _⟩

set_option maxHeartbeats 1000000 in
theorem plain_bad_true (a m p r : Nat) (w : World) (ads : List Addr) (hka : 3 < ads.length) (E : Errs gs14 ads w) 
    (p1 : ∀ w, Calls Tryd.prog 13 #[.float .f64 a] w fun e w' => e = .returned (.float .f64 p) ∧ w = w')
    (p2 : ∀ w, Calls Tryd.prog 17 #[.float .f64 a] w fun e w' => e = .returned (.float .f64 p) ∧ w = w')
    (p4 : ∀ w, Calls Tryd.prog 17 #[.float .f64 m] w fun e w' => e = .returned (.float .f64 r) ∧ w = w')
    (b1 : ∀ w, Calls Tryd.prog 18 #[.float .f64 a] w fun e w' => e = .returned (.int .u64 p) ∧ w = w')
    (b2 : ∀ w, Calls Tryd.prog 19 #[.float .f64 a] w fun e w' => e = .returned (.int .u64 p) ∧ w = w')
    (f1 : ∀ w, Calls Tryd.prog 20 #[.int .u64 p] w fun e w' => e = .returned (.float .f64 p) ∧ w = w')
    (f2 : ∀ w, Calls Tryd.prog 20 #[.int .u64 m] w fun e w' => e = .returned (.float .f64 r) ∧ w = w')
    (rd : ∀ w, Calls Tryd.prog 15 #[.float .f64 a] w fun e w' => e = .returned (.bool false) ∧ w = w')
    (fi : ∀ w, Calls Tryd.prog 23 #[.float .f64 m] w fun e w' => e = .returned (.bool true) ∧ w = w')
    (t1 : (bits .and .u64 (m : Int) 9218868437227405312 != 9218868437227405312) = true)
    (dd : Calls Tryd.prog 14 #[.float .f64 a] w fun e w' => e = .returned (.tuple #[.float .f64 0, .iface 72 (.pointer (some ads[3]))]) ∧ Kp w w') :
    Calls Tryd.prog 4 #[.float .f64 a, .int .u64 m] w fun e w' => e = .returned (.bool true) ∧ Below w.heap.size w w' := by
  have ex := ext_from
  have hif : Tryd.prog.isIface 29 = true := by kernel_rfl
  go_enter Tryd.func4, Tryd.ntmps4
  go_wp2_with (first | (go_at_call 10; (with_reducible refine (alive_any _).mono ?_); rintro e w' ⟨rfl, rfl⟩) | (go_at_call 13; (with_reducible refine (p1 _).mono ?_); rintro e w' ⟨rfl, rfl⟩) | (go_at_call 15; (with_reducible refine (rd _).mono ?_); rintro e w' ⟨rfl, rfl⟩) | (go_at_call 17; (with_reducible refine (p2 _).mono ?_); rintro e w' ⟨rfl, rfl⟩) | (go_at_call 17; (with_reducible refine (p4 _).mono ?_); rintro e w' ⟨rfl, rfl⟩) | (go_at_call 18; (with_reducible refine (b1 _).mono ?_); rintro e w' ⟨rfl, rfl⟩) | (go_at_call 19; (with_reducible refine (b2 _).mono ?_); rintro e w' ⟨rfl, rfl⟩) | (go_at_call 20; (with_reducible refine (f1 _).mono ?_); rintro e w' ⟨rfl, rfl⟩) | (go_at_call 20; (with_reducible refine (f2 _).mono ?_); rintro e w' ⟨rfl, rfl⟩) | (go_at_call 16; (with_reducible refine (same_refl _ _).mono ?_); rintro e w' ⟨rfl, rfl⟩) | (go_at_call 23; (with_reducible refine (fi _).mono ?_); rintro e w' ⟨rfl, rfl⟩) | (go_at_call 14; (with_reducible refine dd.mono ?_); rintro e w1 ⟨rfl, hk1⟩) | (go_at_call 21; (with_reducible refine (num_err ads _ (Kp.errs hk1 E) 3 (by omega) hka).mono ?_); rintro e w2 ⟨rfl, hk2⟩))
  go_ret
  exact ⟨rfl, Kp.trans hk1 hk2⟩

set_option maxHeartbeats 1000000 in
theorem plain_bad_false (a m p r : Nat) (w : World) (ads : List Addr) (hka : 3 < ads.length) (E : Errs gs14 ads w) 
    (p1 : ∀ w, Calls Tryd.prog 13 #[.float .f64 a] w fun e w' => e = .returned (.float .f64 p) ∧ w = w')
    (p2 : ∀ w, Calls Tryd.prog 17 #[.float .f64 a] w fun e w' => e = .returned (.float .f64 p) ∧ w = w')
    (p4 : ∀ w, Calls Tryd.prog 17 #[.float .f64 m] w fun e w' => e = .returned (.float .f64 r) ∧ w = w')
    (b1 : ∀ w, Calls Tryd.prog 18 #[.float .f64 a] w fun e w' => e = .returned (.int .u64 p) ∧ w = w')
    (b2 : ∀ w, Calls Tryd.prog 19 #[.float .f64 a] w fun e w' => e = .returned (.int .u64 p) ∧ w = w')
    (f1 : ∀ w, Calls Tryd.prog 20 #[.int .u64 p] w fun e w' => e = .returned (.float .f64 p) ∧ w = w')
    (f2 : ∀ w, Calls Tryd.prog 20 #[.int .u64 m] w fun e w' => e = .returned (.float .f64 r) ∧ w = w')
    (rd : ∀ w, Calls Tryd.prog 15 #[.float .f64 a] w fun e w' => e = .returned (.bool false) ∧ w = w')
    (fi : ∀ w, Calls Tryd.prog 23 #[.float .f64 m] w fun e w' => e = .returned (.bool false) ∧ w = w')
    (t1 : (bits .and .u64 (m : Int) 9218868437227405312 != 9218868437227405312) = false)
    (dd : Calls Tryd.prog 14 #[.float .f64 a] w fun e w' => e = .returned (.tuple #[.float .f64 0, .iface 72 (.pointer (some ads[3]))]) ∧ Kp w w') :
    Calls Tryd.prog 4 #[.float .f64 a, .int .u64 m] w fun e w' => e = .returned (.bool true) ∧ Below w.heap.size w w' := by
  have ex := ext_from
  have hif : Tryd.prog.isIface 29 = true := by kernel_rfl
  go_enter Tryd.func4, Tryd.ntmps4
  go_wp2_with (first | (go_at_call 10; (with_reducible refine (alive_any _).mono ?_); rintro e w' ⟨rfl, rfl⟩) | (go_at_call 13; (with_reducible refine (p1 _).mono ?_); rintro e w' ⟨rfl, rfl⟩) | (go_at_call 15; (with_reducible refine (rd _).mono ?_); rintro e w' ⟨rfl, rfl⟩) | (go_at_call 17; (with_reducible refine (p2 _).mono ?_); rintro e w' ⟨rfl, rfl⟩) | (go_at_call 17; (with_reducible refine (p4 _).mono ?_); rintro e w' ⟨rfl, rfl⟩) | (go_at_call 18; (with_reducible refine (b1 _).mono ?_); rintro e w' ⟨rfl, rfl⟩) | (go_at_call 19; (with_reducible refine (b2 _).mono ?_); rintro e w' ⟨rfl, rfl⟩) | (go_at_call 20; (with_reducible refine (f1 _).mono ?_); rintro e w' ⟨rfl, rfl⟩) | (go_at_call 20; (with_reducible refine (f2 _).mono ?_); rintro e w' ⟨rfl, rfl⟩) | (go_at_call 16; (with_reducible refine (same_refl _ _).mono ?_); rintro e w' ⟨rfl, rfl⟩) | (go_at_call 23; (with_reducible refine (fi _).mono ?_); rintro e w' ⟨rfl, rfl⟩) | (go_at_call 14; (with_reducible refine dd.mono ?_); rintro e w1 ⟨rfl, hk1⟩) | (go_at_call 21; (with_reducible refine (num_err ads _ (Kp.errs hk1 E) 3 (by omega) hka).mono ?_); rintro e w2 ⟨rfl, hk2⟩))
  go_ret
  exact ⟨rfl, Kp.trans hk1 hk2⟩

theorem floatsPlain_walk (a : Nat) (n : Int) (W : World) (ha : a < 18446744073709551616) (hn : 0 ≤ n ∧ n ≤ 18446744073709551615)
    (hL : laidMetH Tryd.prog Rows.floatsPlainRow.laid W) :
    Calls Tryd.prog 4 #[.float .f64 a, .int .u64 n] W fun e w' => e = .returned (.bool true) ∧ Below W.heap.size W w' := by
  obtain ⟨ads, E⟩ := errs14_of_laid rfl hL
  have hlen : ads.length = 14 := E.len
  obtain ⟨m, rfl⟩ := Int.eq_ofNat_of_zero_le hn.1
  have hm : m < 18446744073709551616 := by omega
  have f1 : ∀ w, Calls Tryd.prog 20 #[.int .u64 (Fl.plain a)] w fun e w' => e = .returned (.float .f64 (Fl.plain a)) ∧ w = w' := by
    intro w; have := from_any (Fl.plain a) w (Fl.plain_lt ha); rw [plain_plain a] at this; exact this
  have rd := fun w => refDelay_any a w ha
  have fi := fun w => finite_any m w hm
  have t1 := exp_fin hm
  cases hd : Fl.dl a <;> cases hq : fin m
  all_goals simp only [hd] at rd
  all_goals simp only [hq] at fi t1
  · exact plain_bad_false a m _ _ W ads (by omega) E (fun w => plain_any a w ha) (fun w => refPlain_any a w ha) (fun w => refPlain_any m w hm) (fun w => bits_any a w ha) (fun w => refBits_any a w ha) f1 (fun w => from_any m w hm) rd fi t1 (delay_err a _ W ha hd (E.cell 3 (by decide)))
  · exact plain_bad_true a m _ _ W ads (by omega) E (fun w => plain_any a w ha) (fun w => refPlain_any a w ha) (fun w => refPlain_any m w hm) (fun w => bits_any a w ha) (fun w => refBits_any a w ha) f1 (fun w => from_any m w hm) rd fi t1 (delay_err a _ W ha hd (E.cell 3 (by decide)))
  · exact plain_ok_false a m _ _ W (fun w => plain_any a w ha) (fun w => refPlain_any a w ha) (fun w => refPlain_any m w hm) (fun w => bits_any a w ha) (fun w => refBits_any a w ha) f1 (fun w => from_any m w hm) rd fi t1 (fun w => delay_ok a w hd)
  · exact plain_ok_true a m _ _ W (fun w => plain_any a w ha) (fun w => refPlain_any a w ha) (fun w => refPlain_any m w hm) (fun w => bits_any a w ha) (fun w => refBits_any a w ha) f1 (fun w => from_any m w hm) rd fi t1 (fun w => delay_ok a w hd)

end Go.Proofs.YtcfjecllfghkbaaDoor
