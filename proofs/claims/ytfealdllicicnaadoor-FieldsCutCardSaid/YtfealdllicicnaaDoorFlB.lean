/-
  FLOATS' BITS (own work), at seats of later stages: math's own calls, package floats' Plain and Bits, the document's Raw, NaN and Bits.
-/
import Derived.Test.YtfealdllicicnaaDoorFm
import Derived.Test.YtfealdllicicnaaDoorKp
import Derived.WalkLawsBesides
import Derived.Laws.BitsAllLaws
import Derived.Laws.Externs
import Derived.Lib.Hide
namespace Go.Proofs.YtfealdllicicnaaDoor
open Go.RowKit

theorem ext_bits (b : Nat) (w : World) : (callFunc 53 #[.float .f64 b]).run Tryd.prog w = .ok (.value (.int .u64 b)) w := by
  rw [run_callFunc_extern (e := Extern.MathFloatBits.float64bits) Tryd.func53 (by kernel_rfl) (by kernel_rfl) (by kernel_rfl) (by kernel_rfl)]
  rfl
theorem ext_from (b : Nat) (w : World) : (callFunc 55 #[.int .u64 b]).run Tryd.prog w = .ok (.value (.float .f64 b)) w := by
  rw [run_callFunc_extern (e := Extern.MathFloatBits.float64frombits) Tryd.func55 (by kernel_rfl) (by kernel_rfl) (by kernel_rfl) (by kernel_rfl)]
  rfl

theorem and62 {b : Nat} (hb : b < 18446744073709551616) : bits .and .u64 (b : Int) 9223372036854775807 = ((b % 9223372036854775808 : Nat) : Int) := by
  rw [show (9223372036854775807 : Int) = ((9223372036854775807 : Nat) : Int) from rfl, u64_and_nat b _ hb (by omega), show (9223372036854775807 : Nat) = 2 ^ 63 - 1 from rfl, Nat.and_two_pow_sub_one_eq_mod]
theorem isNaN_any (b : Nat) (w : World) (hb : b < 18446744073709551616) :
    Calls Tryd.prog 69 #[.float .f64 b] w fun e w' => e = .returned (.bool (Fl.isNan b)) ∧ w = w' := by
  go_enter Tryd.func69, Tryd.ntmps69
  go_wp2
  go_ret
  exact ⟨by rw [← Fl.test_self hb]; rfl, rfl⟩
theorem isNaN_t (b : Nat) (w : World) (hb : b < 18446744073709551616) (h : Fl.isNan b = true) :
    Calls Tryd.prog 69 #[.float .f64 b] w fun e w' => e = .returned (.bool true) ∧ w = w' := by
  rw [← h]; exact isNaN_any b w hb
theorem isNaN_f (b : Nat) (w : World) (hb : b < 18446744073709551616) (h : Fl.isNan b = false) :
    Calls Tryd.prog 69 #[.float .f64 b] w fun e w' => e = .returned (.bool false) ∧ w = w' := by
  rw [← h]; exact isNaN_any b w hb

theorem u64_ret {a b : Int} (h : a = b) : Ending.returned (.int .u64 a) = .returned (.int .u64 b) := by rw [h]
theorem i64_ret {a b : Int} (h : a = b) : Ending.returned (.int .i64 a) = .returned (.int .i64 b) := by rw [h]
theorem bool_ret {a b : Bool} (h : a = b) : Ending.returned (.bool a) = .returned (.bool b) := by rw [h]

theorem raw_any (b : Nat) (w : World) :
    Calls Tryd.prog 29 #[.float .f64 b] w fun e w' => e = .returned (.int .u64 b) ∧ w = w' := by
  have e1 := ext_bits
  go_enter Tryd.func29, Tryd.ntmps29
  go_wp2
  go_ret
  exact ⟨rfl, rfl⟩
theorem refNaN_any (b : Nat) (w : World) (hb : b < 18446744073709551616) :
    Calls Tryd.prog 54 #[.float .f64 b] w fun e w' => e = .returned (.bool (Fl.isNan b)) ∧ w = w' := by
  have e1 := Lib.hid (and62 hb)
  go_enter Tryd.func54, Tryd.ntmps54
  go_wp2_with (go_at_call 29; refine (raw_any _ _).mono ?_; rintro e w' ⟨rfl, rfl⟩)
  go_ret
  exact ⟨bool_ret (by rw [e1.out]; unfold Fl.isNan; rw [Bool.eq_iff_iff]; simp; omega), rfl⟩
theorem refNaN_t (b : Nat) (w : World) (hb : b < 18446744073709551616) (h : Fl.isNan b = true) :
    Calls Tryd.prog 54 #[.float .f64 b] w fun e w' => e = .returned (.bool true) ∧ w = w' := by
  rw [← h]; exact refNaN_any b w hb
theorem refNaN_f (b : Nat) (w : World) (hb : b < 18446744073709551616) (h : Fl.isNan b = false) :
    Calls Tryd.prog 54 #[.float .f64 b] w fun e w' => e = .returned (.bool false) ∧ w = w' := by
  rw [← h]; exact refNaN_any b w hb
theorem ext_fromI (n : Int) (w : World) : (callFunc 55 #[.int .u64 n]).run Tryd.prog w = .ok (.value (.float .f64 n.toNat)) w := by
  rw [run_callFunc_extern (e := Extern.MathFloatBits.float64frombits) Tryd.func55 (by kernel_rfl) (by kernel_rfl) (by kernel_rfl) (by kernel_rfl)]
  rfl
theorem f64_ret {a b : Nat} (h : a = b) : Ending.returned (.float .f64 a) = .returned (.float .f64 b) := by rw [h]

theorem eq0 {b : Nat} (hb : b < 18446744073709551616) : (FloatKind.f64.format.order b 0 == some .eq) = (decide (b = 0) || decide (b = 9223372036854775808)) := by
  rw [← Fl.isEq0 hb]; exact Fl.test_eq hb (by omega)
theorem plain_any (b : Nat) (w : World) (hb : b < 18446744073709551616) :
    Calls Tryd.prog 65 #[.float .f64 b] w fun e w' => e = .returned (.float .f64 (Fl.plain b)) ∧ w = w' := by
  have e1 := ext_fromI
  cases hn : Fl.isNan b
  · cases ht : (decide (b = 0) || decide (b = 9223372036854775808))
    · have t1 : (FloatKind.f64.format.order b 0 == some .eq) = false := by rw [eq0 hb]; exact ht
      have HT := Lib.hid ht
      have HB := Lib.hid hb
      clear ht hb
      go_enter Tryd.func65, Tryd.ntmps65
      go_wp2_with (go_at_call 69; refine (isNaN_f _ _ HB.out hn).mono ?_; rintro e w' ⟨rfl, rfl⟩)
      go_ret
      exact ⟨f64_ret (by have := HT.out; simp at this; unfold Fl.plain; rw [hn, if_neg (by simp), if_neg (by omega)]), rfl⟩
    · have t1 : (FloatKind.f64.format.order b 0 == some .eq) = true := by rw [eq0 hb]; exact ht
      have HT := Lib.hid ht
      have HB := Lib.hid hb
      clear ht hb
      go_enter Tryd.func65, Tryd.ntmps65
      go_wp2_with (go_at_call 69; refine (isNaN_f _ _ HB.out hn).mono ?_; rintro e w' ⟨rfl, rfl⟩)
      go_ret
      exact ⟨f64_ret (by have := HT.out; simp at this; unfold Fl.plain; rw [hn, if_neg (by simp)]; split <;> omega), rfl⟩
  · go_enter Tryd.func65, Tryd.ntmps65
    go_wp2_with (go_at_call 69; refine (isNaN_t _ _ hb hn).mono ?_; rintro e w' ⟨rfl, rfl⟩)
    go_ret
    exact ⟨f64_ret (by unfold Fl.plain; rw [if_pos hn]), rfl⟩

theorem refBits_any (b : Nat) (w : World) (hb : b < 18446744073709551616) :
    Calls Tryd.prog 30 #[.float .f64 b] w fun e w' => e = .returned (.int .u64 (Fl.plain b)) ∧ w = w' := by
  cases hn : Fl.isNan b
  · obtain ⟨n, hbn⟩ : ∃ n : Int, (b : Int) = n := ⟨_, rfl⟩
    have HB := Lib.hid hb
    have HN := Lib.hid hbn
    have R : ∀ w, Calls Tryd.prog 29 #[.float .f64 b] w fun e w' => e = .returned (.int .u64 n) ∧ w = w' := by
      intro w; rw [← hbn]; exact raw_any b w
    cases ht : (n == 9223372036854775808)
    · clear hb hbn
      go_enter Tryd.func30, Tryd.ntmps30
      go_wp2_with (first | (go_at_call 54; (with_reducible refine (refNaN_f _ _ HB.out hn).mono ?_); rintro e w' ⟨rfl, rfl⟩) | (go_at_call 29; (with_reducible refine (R _).mono ?_); rintro e w' ⟨rfl, rfl⟩))
      go_ret
      exact ⟨u64_ret (by have := HN.out; have hz : n ≠ 9223372036854775808 := by simpa using ht
                         unfold Fl.plain; rw [hn, if_neg (by simp), if_neg (by omega)]; omega), rfl⟩
    · clear hb hbn
      go_enter Tryd.func30, Tryd.ntmps30
      go_wp2_with (first | (go_at_call 54; (with_reducible refine (refNaN_f _ _ HB.out hn).mono ?_); rintro e w' ⟨rfl, rfl⟩) | (go_at_call 29; (with_reducible refine (R _).mono ?_); rintro e w' ⟨rfl, rfl⟩))
      go_ret
      exact ⟨u64_ret (by have := HN.out; have hz : n = 9223372036854775808 := by simpa using ht
                         unfold Fl.plain; rw [hn, if_neg (by simp), if_pos (by omega)]; rfl), rfl⟩
  · go_enter Tryd.func30, Tryd.ntmps30
    go_wp2_with (go_at_call 54; (with_reducible refine (refNaN_t _ _ hb hn).mono ?_); rintro e w' ⟨rfl, rfl⟩)
    go_ret
    exact ⟨u64_ret (by unfold Fl.plain; rw [if_pos hn]; rfl), rfl⟩

theorem bits_any (b : Nat) (w : World) (hb : b < 18446744073709551616) :
    Calls Tryd.prog 49 #[.float .f64 b] w fun e w' => e = .returned (.int .u64 (Fl.plain b)) ∧ w = w' := by
  have e1 := ext_bits
  go_enter Tryd.func49, Tryd.ntmps49
  go_wp2_with (go_at_call 65; (with_reducible refine (plain_any _ _ hb).mono ?_); rintro e w' ⟨rfl, rfl⟩)
  go_ret
  exact ⟨rfl, rfl⟩
end Go.Proofs.YtfealdllicicnaaDoor
