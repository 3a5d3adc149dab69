/-
  WALKS (own work): delays, times, sums, and the document's doubling; the calls that answer an error.
-/
import Derived.Test.YtanbeaebdingeaaDoorFy
import Derived.Test.YtanbeaebdingeaaDoorFo
import Derived.Test.YtanbeaebdingeaaDoorNum
import Derived.RegionTactic
import Derived.ChangeAlike
import Derived.Test.YtanbeaebdingeaaDoorKp
namespace Go.Proofs.YtanbeaebdingeaaDoor
open Go.RowKit

theorem refBits_any (b : Nat) (w : World) (hb : b < 18446744073709551616) :
    Calls Tryd.prog 61 #[.float .f64 b] w fun e w' => e = .returned (.int .u64 (Fl.plain b)) ∧ w = w' := by
  cases hn : Fl.isNan b
  · obtain ⟨n, hbn⟩ : ∃ n : Int, (b : Int) = n := ⟨_, rfl⟩
    have HB := Lib.hid hb
    have HN := Lib.hid hbn
    have R : ∀ w, Calls Tryd.prog 31 #[.float .f64 b] w fun e w' => e = .returned (.int .u64 n) ∧ w = w' := by
      intro w; rw [← hbn]; exact raw_any b w
    cases ht : (n == 9223372036854775808)
    · clear hb hbn
      go_enter Tryd.func61, Tryd.ntmps61
      go_wp2_with (first | (go_at_call 59; (with_reducible refine (refNaN_f _ _ HB.out hn).mono ?_); rintro e w' ⟨rfl, rfl⟩) | (go_at_call 31; (with_reducible refine (R _).mono ?_); rintro e w' ⟨rfl, rfl⟩))
      go_ret
      exact ⟨u64_ret (by have := HN.out; have hz : n ≠ 9223372036854775808 := by simpa using ht
                         unfold Fl.plain; rw [hn, if_neg (by simp), if_neg (by omega)]; omega), rfl⟩
    · clear hb hbn
      go_enter Tryd.func61, Tryd.ntmps61
      go_wp2_with (first | (go_at_call 59; (with_reducible refine (refNaN_f _ _ HB.out hn).mono ?_); rintro e w' ⟨rfl, rfl⟩) | (go_at_call 31; (with_reducible refine (R _).mono ?_); rintro e w' ⟨rfl, rfl⟩))
      go_ret
      exact ⟨u64_ret (by have := HN.out; have hz : n = 9223372036854775808 := by simpa using ht
                         unfold Fl.plain; rw [hn, if_neg (by simp), if_pos (by omega)]; rfl), rfl⟩
  · go_enter Tryd.func61, Tryd.ntmps61
    go_wp2_with (go_at_call 59; (with_reducible refine (refNaN_t _ _ hb hn).mono ?_); rintro e w' ⟨rfl, rfl⟩)
    go_ret
    exact ⟨u64_ret (by unfold Fl.plain; rw [if_pos hn]; rfl), rfl⟩
theorem refPlain_any (b : Nat) (w : World) (hb : b < 18446744073709551616) :
    Calls Tryd.prog 44 #[.float .f64 b] w fun e w' => e = .returned (.float .f64 (Fl.plain b)) ∧ w = w' := by
  have e1 := ext_fromI
  go_enter Tryd.func44, Tryd.ntmps44
  go_wp2_with (go_at_call 61; (with_reducible refine (refBits_any _ _ hb).mono ?_); rintro e w' ⟨rfl, rfl⟩)
  go_ret
  exact ⟨rfl, rfl⟩
theorem refDelay_any (b : Nat) (w : World) (hb : b < 18446744073709551616) :
    Calls Tryd.prog 43 #[.float .f64 b] w fun e w' => e = .returned (.bool (Fl.dl b)) ∧ w = w' := by
  cases hn : Fl.isNan b
  · obtain ⟨n, hbn⟩ : ∃ n : Int, (b : Int) = n := ⟨_, rfl⟩
    have HB := Lib.hid hb
    have HN := Lib.hid hbn
    have R : ∀ w, Calls Tryd.prog 31 #[.float .f64 b] w fun e w' => e = .returned (.int .u64 n) ∧ w = w' := by
      intro w; rw [← hbn]; exact raw_any b w
    have D : Fl.dl b = decide (n ≤ 9223372036854775808) := by
      unfold Fl.dl; rw [hn, Bool.eq_iff_iff]; simp; omega
    rw [D]
    by_cases hs : n < 9223372036854775808
    · clear hb hbn
      go_enter Tryd.func43, Tryd.ntmps43
      go_wp2_with (first | (go_at_call 59; (with_reducible refine (refNaN_f _ _ HB.out hn).mono ?_); rintro e w' ⟨rfl, rfl⟩) | (go_at_call 31; (with_reducible refine (R _).mono ?_); rintro e w' ⟨rfl, rfl⟩))
      go_ret
      exact ⟨bool_ret (by simp; omega), rfl⟩
    · cases ht : (n == 9223372036854775808)
      · clear hb hbn
        go_enter Tryd.func43, Tryd.ntmps43
        go_wp2_with (first | (go_at_call 59; (with_reducible refine (refNaN_f _ _ HB.out hn).mono ?_); rintro e w' ⟨rfl, rfl⟩) | (go_at_call 31; (with_reducible refine (R _).mono ?_); rintro e w' ⟨rfl, rfl⟩))
        go_ret
        exact ⟨bool_ret (by have hz : n ≠ 9223372036854775808 := by simpa using ht
                            rw [Bool.eq_iff_iff]; simp; omega), rfl⟩
      · clear hb hbn
        go_enter Tryd.func43, Tryd.ntmps43
        go_wp2_with (first | (go_at_call 59; (with_reducible refine (refNaN_f _ _ HB.out hn).mono ?_); rintro e w' ⟨rfl, rfl⟩) | (go_at_call 31; (with_reducible refine (R _).mono ?_); rintro e w' ⟨rfl, rfl⟩))
        go_ret
        exact ⟨bool_ret (by have hz : n = 9223372036854775808 := by simpa using ht
                            rw [Bool.eq_iff_iff]; simp; omega), rfl⟩
  · have D : Fl.dl b = false := by unfold Fl.dl; rw [hn]; rfl
    rw [D]
    go_enter Tryd.func43, Tryd.ntmps43
    go_wp2_with (go_at_call 59; (with_reducible refine (refNaN_t _ _ hb hn).mono ?_); rintro e w' ⟨rfl, rfl⟩)
    go_ret
    exact ⟨rfl, rfl⟩

theorem later_ok (a b r : Nat) (w : World) (ha : Fl.dl a = true) (hb : Fl.dl b = true) (hr : Ieee.double.add a b = some r) :
    Calls Tryd.prog 42 #[.float .f64 a, .float .f64 b] w fun e w' => e = .returned (.tuple #[.float .f64 r, .nilIface]) ∧ w = w' := by
  have HA := Lib.hid ha
  have HB := Lib.hid hb
  have hadd : ∀ w, (binOp .add 28 (.float .f64 a) (.float .f64 b)).run Tryd.prog w = .ok (.float .f64 r) w := fun w => run_float_arith w .add 28 .f64 a b r hr
  clear ha hb hr
  go_enter Tryd.func42, Tryd.ntmps42
  go_wp2_with (first | (go_at_call 47; (with_reducible refine (isDelay_t a _ (Fl.dl_lt HA.out) HA.out).mono ?_); rintro e w' ⟨rfl, rfl⟩) | (go_at_call 47; (with_reducible refine (isDelay_t b _ (Fl.dl_lt HB.out) HB.out).mono ?_); rintro e w' ⟨rfl, rfl⟩))
  go_ret2
  exact ⟨rfl, rfl⟩
theorem later_err (a b : Nat) (v : Value) (w : World) (ha : a < 18446744073709551616) (hb : b < 18446744073709551616) (h : Fl.dl a = false ∨ Fl.dl b = false) (hc : w.cell? ⟨3, 0, none⟩ = some v) :
    Calls Tryd.prog 42 #[.float .f64 a, .float .f64 b] w fun e w' => e = .returned (.tuple #[.float .f64 0, v]) ∧ Kp w w' := by
  cases ga : Fl.dl a
  · go_enter Tryd.func42, Tryd.ntmps42
    go_wp2_with (go_at_call 47; (with_reducible refine (isDelay_f a _ ha ga).mono ?_); rintro e w' ⟨rfl, rfl⟩)
    go_region
    all_goals go_wp2
    all_goals go_ret2
    all_goals exact ⟨rfl, (Kp.refl _).drew⟩
  · have gb : Fl.dl b = false := by
      rcases h with h | h
      · rw [ga] at h; cases h
      · exact h
    clear h
    go_enter Tryd.func42, Tryd.ntmps42
    go_wp2_with (first | (go_at_call 47; (with_reducible refine (isDelay_t a _ ha ga).mono ?_); rintro e w' ⟨rfl, rfl⟩) | (go_at_call 47; (with_reducible refine (isDelay_f b _ hb gb).mono ?_); rintro e w' ⟨rfl, rfl⟩))
    go_region
    all_goals go_wp2
    all_goals go_ret2
    all_goals exact ⟨rfl, (Kp.refl _).drew⟩

theorem fle {x m : Nat} (h : Fl.dl x = true) (g : Fl.dl m = true) : (FloatKind.f64.format.order x m == some .lt || FloatKind.f64.format.order x m == some .eq) = decide (Fl.plain x ≤ Fl.plain m) := by
  have e1 : (FloatKind.f64.format.order x m == some .lt) = Fl.isLt x m := Fl.test_lt (Fl.dl_lt h) (Fl.dl_lt g)
  have e2 : (FloatKind.f64.format.order x m == some .eq) = Fl.isEq x m := Fl.test_eq (Fl.dl_lt h) (Fl.dl_lt g)
  rw [e1, e2, Fl.dl_isEq h g, Fl.dl_isLt h g, Bool.eq_iff_iff]; simp; omega
/-- Due(now, at) for two delays. -/
theorem due_ok (a b : Nat) (w : World) (ha : Fl.dl a = true) (hb : Fl.dl b = true) :
    Calls Tryd.prog 32 #[.float .f64 a, .float .f64 b] w fun e w' => e = .returned (.bool (decide (Fl.plain b ≤ Fl.plain a))) ∧ w = w' := by
  have HA := Lib.hid ha
  have HB := Lib.hid hb
  clear ha hb
  go_enter Tryd.func32, Tryd.ntmps32
  go_wp2_with (first | (go_at_call 47; (with_reducible refine (isDelay_t a _ (Fl.dl_lt HA.out) HA.out).mono ?_); rintro e w' ⟨rfl, rfl⟩) | (go_at_call 47; (with_reducible refine (isDelay_t b _ (Fl.dl_lt HB.out) HB.out).mono ?_); rintro e w' ⟨rfl, rfl⟩))
  all_goals go_ret
  all_goals exact ⟨bool_ret (fle HB.out HA.out), rfl⟩
theorem inf_one (w : World) :
    Calls Tryd.prog 54 #[.int .i64 1] w fun e w' => e = .returned (.float .f64 9218868437227405312) ∧ w = w' := by
  have e1 := ext_fromI
  go_enter Tryd.func54, Tryd.ntmps54
  go_wp2
  go_ret
  exact ⟨rfl, rfl⟩

theorem backoff_form (a m : Nat) (n : Int) (v : Value) (w : World) (ha : a < 18446744073709551616) (hm : m < 18446744073709551616) (h : Fl.dl a = false ∨ Fl.dl m = false) (hc : w.cell? ⟨3, 0, none⟩ = some v) :
    Calls Tryd.prog 56 #[.float .f64 a, .int .i64 n, .float .f64 m] w fun e w' => e = .returned (.tuple #[.float .f64 0, v]) ∧ Kp w w' := by
  cases ga : Fl.dl a
  · go_enter Tryd.func56, Tryd.ntmps56
    go_wp2_with (go_at_call 47; (with_reducible refine (isDelay_f a _ ha ga).mono ?_); rintro e w' ⟨rfl, rfl⟩)
    go_region
    all_goals go_wp2
    all_goals go_ret2
    all_goals exact ⟨rfl, (Kp.refl _).drew⟩
  · have gb : Fl.dl m = false := by
      rcases h with h | h
      · rw [ga] at h; cases h
      · exact h
    clear h
    go_enter Tryd.func56, Tryd.ntmps56
    go_wp2_with (first | (go_at_call 47; (with_reducible refine (isDelay_t a _ ha ga).mono ?_); rintro e w' ⟨rfl, rfl⟩) | (go_at_call 47; (with_reducible refine (isDelay_f m _ hm gb).mono ?_); rintro e w' ⟨rfl, rfl⟩))
    go_region
    all_goals go_wp2
    all_goals go_ret2
    all_goals exact ⟨rfl, (Kp.refl _).drew⟩
theorem backoff_range (a m : Nat) (n : Int) (v : Value) (w : World) (ha : Fl.dl a = true) (hm : Fl.dl m = true) (hn : n < 0) (hc : w.cell? ⟨0, 0, none⟩ = some v) :
    Calls Tryd.prog 56 #[.float .f64 a, .int .i64 n, .float .f64 m] w fun e w' => e = .returned (.tuple #[.float .f64 0, v]) ∧ Kp w w' := by
  have HA := Lib.hid ha
  have HM := Lib.hid hm
  clear ha hm
  go_enter Tryd.func56, Tryd.ntmps56
  go_wp2_with (first | (go_at_call 47; (with_reducible refine (isDelay_t a _ (Fl.dl_lt HA.out) HA.out).mono ?_); rintro e w' ⟨rfl, rfl⟩) | (go_at_call 47; (with_reducible refine (isDelay_t m _ (Fl.dl_lt HM.out) HM.out).mono ?_); rintro e w' ⟨rfl, rfl⟩))
  go_region
  all_goals go_wp2
  all_goals go_ret2
  all_goals exact ⟨rfl, (Kp.refl _).drew⟩

theorem refDelay_t (b : Nat) (w : World) (hb : b < 18446744073709551616) (h : Fl.dl b = true) :
    Calls Tryd.prog 43 #[.float .f64 b] w fun e w' => e = .returned (.bool true) ∧ w = w' := by
  rw [← h]; exact refDelay_any b w hb
theorem refDelay_f (b : Nat) (w : World) (hb : b < 18446744073709551616) (h : Fl.dl b = false) :
    Calls Tryd.prog 43 #[.float .f64 b] w fun e w' => e = .returned (.bool false) ∧ w = w' := by
  rw [← h]; exact refDelay_any b w hb
theorem refBack_form (a m : Nat) (n : Int) (w : World) (ha : a < 18446744073709551616) (hm : m < 18446744073709551616) (h : Fl.dl a = false ∨ Fl.dl m = false) :
    Calls Tryd.prog 45 #[.float .f64 a, .int .i64 n, .float .f64 m] w fun e w' => e = .returned (.tuple #[.float .f64 0, .int .i64 4]) ∧ w = w' := by
  cases ga : Fl.dl a
  · go_enter Tryd.func45, Tryd.ntmps45
    go_wp2_with (go_at_call 43; (with_reducible refine (refDelay_f a _ ha ga).mono ?_); rintro e w' ⟨rfl, rfl⟩)
    go_ret2
    exact ⟨rfl, rfl⟩
  · have gb : Fl.dl m = false := by
      rcases h with h | h
      · rw [ga] at h; cases h
      · exact h
    clear h
    go_enter Tryd.func45, Tryd.ntmps45
    go_wp2_with (first | (go_at_call 43; (with_reducible refine (refDelay_t a _ ha ga).mono ?_); rintro e w' ⟨rfl, rfl⟩) | (go_at_call 43; (with_reducible refine (refDelay_f m _ hm gb).mono ?_); rintro e w' ⟨rfl, rfl⟩))
    go_ret2
    exact ⟨rfl, rfl⟩
theorem refBack_range (a m : Nat) (n : Int) (w : World) (ha : Fl.dl a = true) (hm : Fl.dl m = true) (hn : n < 0) :
    Calls Tryd.prog 45 #[.float .f64 a, .int .i64 n, .float .f64 m] w fun e w' => e = .returned (.tuple #[.float .f64 0, .int .i64 1]) ∧ w = w' := by
  have HA := Lib.hid ha
  have HM := Lib.hid hm
  clear ha hm
  go_enter Tryd.func45, Tryd.ntmps45
  go_wp2_with (first | (go_at_call 43; (with_reducible refine (refDelay_t a _ (Fl.dl_lt HA.out) HA.out).mono ?_); rintro e w' ⟨rfl, rfl⟩) | (go_at_call 43; (with_reducible refine (refDelay_t m _ (Fl.dl_lt HM.out) HM.out).mono ?_); rintro e w' ⟨rfl, rfl⟩))
  go_ret2
  exact ⟨rfl, rfl⟩
set_option maxRecDepth 100000 in
set_option maxHeartbeats 1000000 in
theorem refBack_ok (a m : Nat) (n : Nat) (w : World) (ha : Fl.dl a = true) (hm : Fl.dl m = true) (hn : n ≤ 9223372036854775807) :
    Calls Tryd.prog 45 #[.float .f64 a, .int .i64 n, .float .f64 m] w fun e w' => e = .returned (.tuple #[.float .f64 (Fl.backR a n m), .int .i64 0]) ∧ w = w' := by
  have HA := Lib.hid ha
  have HM := Lib.hid hm
  clear ha hm
  go_enter Tryd.func45, Tryd.ntmps45
  go_wp2_with (first | (go_at_call 43; (with_reducible refine (refDelay_t a _ (Fl.dl_lt HA.out) HA.out).mono ?_); rintro e w' ⟨rfl, rfl⟩) | (go_at_call 43; (with_reducible refine (refDelay_t m _ (Fl.dl_lt HM.out) HM.out).mono ?_); rintro e w' ⟨rfl, rfl⟩) | (go_at_call 44; (with_reducible refine (refPlain_any a _ (Fl.dl_lt HA.out)).mono ?_); rintro e w' ⟨rfl, rfl⟩))
  go_loop [8, 9] (fun x i => ∃ k : Nat, k ≤ min n 2200 ∧ i = .int .i64 k ∧ x = .float .f64 (Fl.dbls k (Fl.plain a))) (fun _ i => n - (intOf i).toNat)
  case atStart => exact ⟨0, Nat.zero_le _, rfl, rfl⟩
  case round =>
    obtain ⟨k, hk, rfl, rfl⟩ := hrel
    have hx := Fl.dbls_le (Fl.dl_plain HA.out).1 k
    have hadd : ∀ w, (binOp .add 28 (.float .f64 (Fl.dbls k (Fl.plain a))) (.float .f64 (Fl.dbls k (Fl.plain a)))).run Tryd.prog w = .ok (.float .f64 (Fl.dbls (k + 1) (Fl.plain a))) w :=
      fun w => run_float_arith w .add 28 .f64 _ _ _ (Fl.add_self hx)
    by_cases hlt : k < min n 2200
    · have h1 : k < n := by omega
      have h2 : k < 2200 := by omega
      have HX := Lib.hid hx
      clear hx
      go_wp2
      go_round
      case rel => exact ⟨k + 1, by omega, by go_num, rfl⟩
      case measure => simp [intOf]; omega
    · have hkk : k = min n 2200 := by omega
      have R : min (Fl.dbls k (Fl.plain a)) (Fl.plain m) = Fl.backR a n m := by
        unfold Fl.backR; rw [Fl.dbls_cap (Fl.dl_plain HA.out).1 n, hkk]
      obtain ⟨y, hy⟩ : ∃ y, Fl.dbls k (Fl.plain a) = y := ⟨_, rfl⟩
      have hml := (Fl.dl_plain HM.out).1
      have o : ∀ w, Calls Tryd.prog 38 #[.float .f64 (Fl.plain m), .float .f64 y] w fun e w' => e = .returned (.int .i64 (Fl.cmpN (Fl.plain m) y)) ∧ w = w' := by
        intro w; rw [← hy, ← Fl.ord_of_le hml hx]; exact refOrder_any _ _ w (by omega) (by omega)
      rw [hy] at R
      simp only [hy]
      have RR := Lib.hid R
      have cs := Fl.cmpN_spec (Fl.plain m) y
      have KN : (k < n ∧ 2200 ≤ k) ∨ n ≤ k := by omega
      clear hadd hkk hx hy hlt R hml
      rcases KN with ⟨h1, h2⟩ | h1 <;> rcases cs with ⟨c, cl⟩ | ⟨c, cl⟩ | ⟨c, cl⟩ <;> rw [c] at o
      all_goals
        have CL := Lib.hid cl
        clear cl c
        go_wp2_with (first | (go_at_call 44; (with_reducible refine (refPlain_any m _ (Fl.dl_lt HM.out)).mono ?_); rintro e w' ⟨rfl, rfl⟩) | (go_at_call 38; (with_reducible refine (o _).mono ?_); rintro e w' ⟨rfl, rfl⟩))
        go_ret2
        exact ⟨by rw [← RR.out]; have := CL.out; first | rw [Nat.min_eq_right (by omega)]; rfl | rw [Nat.min_eq_left (by omega)]; rfl, rfl⟩
end Go.Proofs.YtanbeaebdingeaaDoor
