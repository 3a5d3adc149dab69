/-
  WALKS (own work): delays, times, sums, and the document's doubling; the calls that answer an error.
-/
import Derived.Test.YtldamfpoemgkpaaDoorFy
import Derived.Test.YtldamfpoemgkpaaDoorFo
import Derived.Test.YtldamfpoemgkpaaDoorNum
import Derived.RegionTactic
import Derived.ChangeAlike
import Derived.Test.YtldamfpoemgkpaaDoorKp
namespace Go.Proofs.YtldamfpoemgkpaaDoor
open Go.RowKit

theorem refBits_any (b : Nat) (w : World) (hb : b < 18446744073709551616) :
    Calls Tryd.prog 30 #[.float .f64 b] w fun e w' => e = .returned (.int .u64 (Fl.plain b)) ∧ w = w' := by
  cases hn : Fl.isNan b
  · obtain ⟨n, hbn⟩ : ∃ n : Int, (b : Int) = n := ⟨_, rfl⟩
    have HB := Lib.hid hb
    have HN := Lib.hid hbn
    have R : ∀ w, Calls Tryd.prog 37 #[.float .f64 b] w fun e w' => e = .returned (.int .u64 n) ∧ w = w' := by
      intro w; rw [← hbn]; exact raw_any b w
    cases ht : (n == 9223372036854775808)
    · clear hb hbn
      go_enter Tryd.func30, Tryd.ntmps30
      go_wp2_with (first | (go_at_call 49; (with_reducible refine (refNaN_f _ _ HB.out hn).mono ?_); rintro e w' ⟨rfl, rfl⟩) | (go_at_call 37; (with_reducible refine (R _).mono ?_); rintro e w' ⟨rfl, rfl⟩))
      go_ret
      exact ⟨u64_ret (by have := HN.out; have hz : n ≠ 9223372036854775808 := by simpa using ht
                         unfold Fl.plain; rw [hn, if_neg (by simp), if_neg (by omega)]; omega), rfl⟩
    · clear hb hbn
      go_enter Tryd.func30, Tryd.ntmps30
      go_wp2_with (first | (go_at_call 49; (with_reducible refine (refNaN_f _ _ HB.out hn).mono ?_); rintro e w' ⟨rfl, rfl⟩) | (go_at_call 37; (with_reducible refine (R _).mono ?_); rintro e w' ⟨rfl, rfl⟩))
      go_ret
      exact ⟨u64_ret (by have := HN.out; have hz : n = 9223372036854775808 := by simpa using ht
                         unfold Fl.plain; rw [hn, if_neg (by simp), if_pos (by omega)]; rfl), rfl⟩
  · go_enter Tryd.func30, Tryd.ntmps30
    go_wp2_with (go_at_call 49; (with_reducible refine (refNaN_t _ _ hb hn).mono ?_); rintro e w' ⟨rfl, rfl⟩)
    go_ret
    exact ⟨u64_ret (by unfold Fl.plain; rw [if_pos hn]; rfl), rfl⟩
theorem refPlain_any (b : Nat) (w : World) (hb : b < 18446744073709551616) :
    Calls Tryd.prog 29 #[.float .f64 b] w fun e w' => e = .returned (.float .f64 (Fl.plain b)) ∧ w = w' := by
  have e1 := ext_fromI
  go_enter Tryd.func29, Tryd.ntmps29
  go_wp2_with (go_at_call 30; (with_reducible refine (refBits_any _ _ hb).mono ?_); rintro e w' ⟨rfl, rfl⟩)
  go_ret
  exact ⟨rfl, rfl⟩
theorem refDelay_any (b : Nat) (w : World) (hb : b < 18446744073709551616) :
    Calls Tryd.prog 28 #[.float .f64 b] w fun e w' => e = .returned (.bool (Fl.dl b)) ∧ w = w' := by
  cases hn : Fl.isNan b
  · obtain ⟨n, hbn⟩ : ∃ n : Int, (b : Int) = n := ⟨_, rfl⟩
    have HB := Lib.hid hb
    have HN := Lib.hid hbn
    have R : ∀ w, Calls Tryd.prog 37 #[.float .f64 b] w fun e w' => e = .returned (.int .u64 n) ∧ w = w' := by
      intro w; rw [← hbn]; exact raw_any b w
    have D : Fl.dl b = decide (n ≤ 9223372036854775808) := by
      unfold Fl.dl; rw [hn, Bool.eq_iff_iff]; simp; omega
    rw [D]
    by_cases hs : n < 9223372036854775808
    · clear hb hbn
      go_enter Tryd.func28, Tryd.ntmps28
      go_wp2_with (first | (go_at_call 49; (with_reducible refine (refNaN_f _ _ HB.out hn).mono ?_); rintro e w' ⟨rfl, rfl⟩) | (go_at_call 37; (with_reducible refine (R _).mono ?_); rintro e w' ⟨rfl, rfl⟩))
      go_ret
      exact ⟨bool_ret (by simp; omega), rfl⟩
    · cases ht : (n == 9223372036854775808)
      · clear hb hbn
        go_enter Tryd.func28, Tryd.ntmps28
        go_wp2_with (first | (go_at_call 49; (with_reducible refine (refNaN_f _ _ HB.out hn).mono ?_); rintro e w' ⟨rfl, rfl⟩) | (go_at_call 37; (with_reducible refine (R _).mono ?_); rintro e w' ⟨rfl, rfl⟩))
        go_ret
        exact ⟨bool_ret (by have hz : n ≠ 9223372036854775808 := by simpa using ht
                            rw [Bool.eq_iff_iff]; simp; omega), rfl⟩
      · clear hb hbn
        go_enter Tryd.func28, Tryd.ntmps28
        go_wp2_with (first | (go_at_call 49; (with_reducible refine (refNaN_f _ _ HB.out hn).mono ?_); rintro e w' ⟨rfl, rfl⟩) | (go_at_call 37; (with_reducible refine (R _).mono ?_); rintro e w' ⟨rfl, rfl⟩))
        go_ret
        exact ⟨bool_ret (by have hz : n = 9223372036854775808 := by simpa using ht
                            rw [Bool.eq_iff_iff]; simp; omega), rfl⟩
  · have D : Fl.dl b = false := by unfold Fl.dl; rw [hn]; rfl
    rw [D]
    go_enter Tryd.func28, Tryd.ntmps28
    go_wp2_with (go_at_call 49; (with_reducible refine (refNaN_t _ _ hb hn).mono ?_); rintro e w' ⟨rfl, rfl⟩)
    go_ret
    exact ⟨rfl, rfl⟩

theorem delay_ok (b : Nat) (w : World) (h : Fl.dl b = true) :
    Calls Tryd.prog 38 #[.float .f64 b] w fun e w' => e = .returned (.tuple #[.float .f64 (Fl.plain b), .nilIface]) ∧ w = w' := by
  have H := Lib.hid h
  clear h
  go_enter Tryd.func38, Tryd.ntmps38
  go_wp2_with (first | (go_at_call 47; (with_reducible refine (isDelay_t b _ (Fl.dl_lt H.out) H.out).mono ?_); rintro e w' ⟨rfl, rfl⟩) | (go_at_call 26; (with_reducible refine (plain_any b _ (Fl.dl_lt H.out)).mono ?_); rintro e w' ⟨rfl, rfl⟩))
  go_ret2
  exact ⟨rfl, rfl⟩
theorem delay_err (b : Nat) (v : Value) (w : World) (hb : b < 18446744073709551616) (h : Fl.dl b = false) (hc : w.cell? ⟨3, 0, none⟩ = some v) :
    Calls Tryd.prog 38 #[.float .f64 b] w fun e w' => e = .returned (.tuple #[.float .f64 0, v]) ∧ Kp w w' := by
  have H := Lib.hid h
  clear h
  go_enter Tryd.func38, Tryd.ntmps38
  go_wp2_with (first | (go_at_call 47; (with_reducible refine (isDelay_f b _ hb H.out).mono ?_); rintro e w' ⟨rfl, rfl⟩))
  go_region
  all_goals go_wp2
  all_goals go_ret2
  all_goals exact ⟨rfl, (Kp.refl _).drew⟩

theorem later_ok (a b r : Nat) (w : World) (ha : Fl.dl a = true) (hb : Fl.dl b = true) (hr : Ieee.double.add a b = some r) :
    Calls Tryd.prog 25 #[.float .f64 a, .float .f64 b] w fun e w' => e = .returned (.tuple #[.float .f64 r, .nilIface]) ∧ w = w' := by
  have HA := Lib.hid ha
  have HB := Lib.hid hb
  have hadd : ∀ w, (binOp .add 24 (.float .f64 a) (.float .f64 b)).run Tryd.prog w = .ok (.float .f64 r) w := fun w => run_float_arith w .add 24 .f64 a b r hr
  clear ha hb hr
  go_enter Tryd.func25, Tryd.ntmps25
  go_wp2_with (first | (go_at_call 47; (with_reducible refine (isDelay_t a _ (Fl.dl_lt HA.out) HA.out).mono ?_); rintro e w' ⟨rfl, rfl⟩) | (go_at_call 47; (with_reducible refine (isDelay_t b _ (Fl.dl_lt HB.out) HB.out).mono ?_); rintro e w' ⟨rfl, rfl⟩))
  go_ret2
  exact ⟨rfl, rfl⟩
theorem later_err (a b : Nat) (v : Value) (w : World) (ha : a < 18446744073709551616) (hb : b < 18446744073709551616) (h : Fl.dl a = false ∨ Fl.dl b = false) (hc : w.cell? ⟨3, 0, none⟩ = some v) :
    Calls Tryd.prog 25 #[.float .f64 a, .float .f64 b] w fun e w' => e = .returned (.tuple #[.float .f64 0, v]) ∧ Kp w w' := by
  cases ga : Fl.dl a
  · go_enter Tryd.func25, Tryd.ntmps25
    go_wp2_with (go_at_call 47; (with_reducible refine (isDelay_f a _ ha ga).mono ?_); rintro e w' ⟨rfl, rfl⟩)
    go_region
    all_goals go_wp2
    all_goals go_ret2
    all_goals exact ⟨rfl, (Kp.refl _).drew⟩
  · have gb : Fl.dl b = false := by
      rcases h with h | h
      · rw [ga] at h; cases h
      · exact h
    clear h
    go_enter Tryd.func25, Tryd.ntmps25
    go_wp2_with (first | (go_at_call 47; (with_reducible refine (isDelay_t a _ ha ga).mono ?_); rintro e w' ⟨rfl, rfl⟩) | (go_at_call 47; (with_reducible refine (isDelay_f b _ hb gb).mono ?_); rintro e w' ⟨rfl, rfl⟩))
    go_region
    all_goals go_wp2
    all_goals go_ret2
    all_goals exact ⟨rfl, (Kp.refl _).drew⟩

theorem fle {x m : Nat} (h : Fl.dl x = true) (g : Fl.dl m = true) : (FloatKind.f64.format.order x m == some .lt || FloatKind.f64.format.order x m == some .eq) = decide (Fl.plain x ≤ Fl.plain m) := by
  have e1 : (FloatKind.f64.format.order x m == some .lt) = Fl.isLt x m := Fl.test_lt (Fl.dl_lt h) (Fl.dl_lt g)
  have e2 : (FloatKind.f64.format.order x m == some .eq) = Fl.isEq x m := Fl.test_eq (Fl.dl_lt h) (Fl.dl_lt g)
  rw [e1, e2, Fl.dl_isEq h g, Fl.dl_isLt h g, Bool.eq_iff_iff]; simp; omega
theorem inf_one (w : World) :
    Calls Tryd.prog 20 #[.int .i64 1] w fun e w' => e = .returned (.float .f64 9218868437227405312) ∧ w = w' := by
  have e1 := ext_fromI
  go_enter Tryd.func20, Tryd.ntmps20
  go_wp2
  go_ret
  exact ⟨rfl, rfl⟩

theorem refDelay_t (b : Nat) (w : World) (hb : b < 18446744073709551616) (h : Fl.dl b = true) :
    Calls Tryd.prog 28 #[.float .f64 b] w fun e w' => e = .returned (.bool true) ∧ w = w' := by
  rw [← h]; exact refDelay_any b w hb
theorem refDelay_f (b : Nat) (w : World) (hb : b < 18446744073709551616) (h : Fl.dl b = false) :
    Calls Tryd.prog 28 #[.float .f64 b] w fun e w' => e = .returned (.bool false) ∧ w = w' := by
  rw [← h]; exact refDelay_any b w hb
end Go.Proofs.YtldamfpoemgkpaaDoor
