/-
  WALKS OF PACKAGE floats' FUNCTIONS (own work): what each call answers, by the words' bits.
-/
import Derived.Test.YtanbeaebdingeaaDoorFm
import Derived.Test.YtanbeaebdingeaaDoorChecked
import Derived.WalkKit
import Derived.WalkSpells
import Derived.WalkLawsBesides
import Derived.Laws.BitsAllLaws
import Derived.Laws.Externs
import Derived.Lib.Hide
namespace Go.Proofs.YtanbeaebdingeaaDoor
open Go.RowKit

theorem ext_bits (b : Nat) (w : World) : (callFunc 46 #[.float .f64 b]).run Tryd.prog w = .ok (.value (.int .u64 b)) w := by
  rw [run_callFunc_extern (e := Extern.MathFloatBits.float64bits) Tryd.func46 (by kernel_rfl) (by kernel_rfl) (by kernel_rfl) (by kernel_rfl)]
  rfl
theorem ext_from (b : Nat) (w : World) : (callFunc 60 #[.int .u64 b]).run Tryd.prog w = .ok (.value (.float .f64 b)) w := by
  rw [run_callFunc_extern (e := Extern.MathFloatBits.float64frombits) Tryd.func60 (by kernel_rfl) (by kernel_rfl) (by kernel_rfl) (by kernel_rfl)]
  rfl

theorem and63 {b : Nat} (hb : b < 18446744073709551616) : bits .and .u64 (b : Int) 9223372036854775808 = ((b / 9223372036854775808 * 9223372036854775808 : Nat) : Int) := by
  rw [show (9223372036854775808 : Int) = ((9223372036854775808 : Nat) : Int) from rfl, u64_and_nat b _ hb (by omega), show (9223372036854775808 : Nat) = 2 ^ 63 from rfl, nat_bit]
  congr 2; omega
theorem and62 {b : Nat} (hb : b < 18446744073709551616) : bits .and .u64 (b : Int) 9223372036854775807 = ((b % 9223372036854775808 : Nat) : Int) := by
  rw [show (9223372036854775807 : Int) = ((9223372036854775807 : Nat) : Int) from rfl, u64_and_nat b _ hb (by omega), show (9223372036854775807 : Nat) = 2 ^ 63 - 1 from rfl, Nat.and_two_pow_sub_one_eq_mod]
theorem or63 {b : Nat} (hb : b < 9223372036854775808) : bits .or .u64 (b : Int) 9223372036854775808 = ((b + 9223372036854775808 : Nat) : Int) := by
  rw [show (9223372036854775808 : Int) = ((9223372036854775808 : Nat) : Int) from rfl, u64_or_nat b _ (by omega) (by omega), Nat.or_comm, nat_join 63 9223372036854775808 b (by decide) (by omega), Nat.add_comm]
theorem not64 {b : Nat} (hb : b < 18446744073709551616) : bits .xor .u64 IntKind.u64.max (b : Int) = ((18446744073709551615 - b : Nat) : Int) := by
  rw [show IntKind.u64.max = ((18446744073709551615 : Nat) : Int) from rfl, u64_xor_nat _ b (by omega) hb]
  congr 1
  apply Nat.eq_of_testBit_eq
  intro i
  rw [show 18446744073709551615 - b = 2 ^ 64 - (b + 1) by omega, Nat.testBit_two_pow_sub_succ (by omega : b < 2 ^ 64), Nat.testBit_xor, show (18446744073709551615 : Nat) = 2 ^ 64 - 1 from rfl, Nat.testBit_two_pow_sub_one]
  by_cases hi : i < 64
  · simp [hi]
  · have : Nat.testBit b i = false := Nat.testBit_lt_two_pow (Nat.lt_of_lt_of_le (by omega : b < 2 ^ 64) (Nat.pow_le_pow_right (by omega) (by omega)))
    simp [hi, this]

theorem isNaN_any (b : Nat) (w : World) (hb : b < 18446744073709551616) :
    Calls Tryd.prog 73 #[.float .f64 b] w fun e w' => e = .returned (.bool (Fl.isNan b)) ∧ w = w' := by
  go_enter Tryd.func73, Tryd.ntmps73
  go_wp2
  go_ret
  exact ⟨by rw [← Fl.test_self hb]; rfl, rfl⟩
theorem isNaN_t (b : Nat) (w : World) (hb : b < 18446744073709551616) (h : Fl.isNan b = true) :
    Calls Tryd.prog 73 #[.float .f64 b] w fun e w' => e = .returned (.bool true) ∧ w = w' := by
  rw [← h]; exact isNaN_any b w hb
theorem isNaN_f (b : Nat) (w : World) (hb : b < 18446744073709551616) (h : Fl.isNan b = false) :
    Calls Tryd.prog 73 #[.float .f64 b] w fun e w' => e = .returned (.bool false) ∧ w = w' := by
  rw [← h]; exact isNaN_any b w hb

theorem u64_ret {a b : Int} (h : a = b) : Ending.returned (.int .u64 a) = .returned (.int .u64 b) := by rw [h]
theorem i64_ret {a b : Int} (h : a = b) : Ending.returned (.int .i64 a) = .returned (.int .i64 b) := by rw [h]
theorem bool_ret {a b : Bool} (h : a = b) : Ending.returned (.bool a) = .returned (.bool b) := by rw [h]

theorem place_any (b : Nat) (w : World) (hb : b < 18446744073709551616) :
    Calls Tryd.prog 51 #[.float .f64 b] w fun e w' => e = .returned (.int .u64 (Fl.place b)) ∧ w = w' := by
  have e1 := ext_bits
  cases hn : Fl.isNan b
  · by_cases hs : 9223372036854775808 ≤ b
    · have t1 : (bits BinOp.and IntKind.u64 (↑b) 9223372036854775808 != 0) = true := by rw [and63 hb]; simp; omega
      go_enter Tryd.func51, Tryd.ntmps51
      go_wp2_with (go_at_call 73; refine (isNaN_f _ _ hb hn).mono ?_; rintro e w' ⟨rfl, rfl⟩)
      go_ret
      exact ⟨u64_ret (by unfold Fl.place; rw [hn, if_neg (by simp), if_pos hs, not64 hb]), rfl⟩
    · have t1 : (bits BinOp.and IntKind.u64 (↑b) 9223372036854775808 != 0) = false := by rw [and63 hb]; simp; omega
      go_enter Tryd.func51, Tryd.ntmps51
      go_wp2_with (go_at_call 73; refine (isNaN_f _ _ hb hn).mono ?_; rintro e w' ⟨rfl, rfl⟩)
      go_ret
      exact ⟨u64_ret (by unfold Fl.place; rw [hn, if_neg (by simp), if_neg hs, or63 (by omega)]), rfl⟩
  · go_enter Tryd.func51, Tryd.ntmps51
    go_wp2_with (go_at_call 73; refine (isNaN_t _ _ hb hn).mono ?_; rintro e w' ⟨rfl, rfl⟩)
    go_ret
    exact ⟨by unfold Fl.place; rw [if_pos hn]; rfl, rfl⟩

theorem cmpNaN_any (x : Int) (w : World) :
    Calls Tryd.prog 72 #[.int .u64 x] w fun e w' => e = .returned (.bool false) ∧ w = w' := by
  go_enter Tryd.func72, Tryd.ntmps72
  go_wp2
  go_ret
  exact ⟨rfl, rfl⟩
theorem cmp_any (x y : Nat) (w : World) :
    Calls Tryd.prog 50 #[.int .u64 x, .int .u64 y] w fun e w' => e = .returned (.int .i64 (Fl.cmpN x y)) ∧ w = w' := by
  by_cases h : x < y
  · go_enter Tryd.func50, Tryd.ntmps50
    go_wp2_with (go_at_call 72; refine (cmpNaN_any _ _).mono ?_; rintro e w' ⟨rfl, rfl⟩)
    go_ret
    exact ⟨i64_ret (by unfold Fl.cmpN; rw [if_pos h]), rfl⟩
  · by_cases g : y < x
    · go_enter Tryd.func50, Tryd.ntmps50
      go_wp2_with (go_at_call 72; refine (cmpNaN_any _ _).mono ?_; rintro e w' ⟨rfl, rfl⟩)
      go_ret
      exact ⟨i64_ret (by unfold Fl.cmpN; rw [if_neg h, if_pos g]), rfl⟩
    · go_enter Tryd.func50, Tryd.ntmps50
      go_wp2_with (go_at_call 72; refine (cmpNaN_any _ _).mono ?_; rintro e w' ⟨rfl, rfl⟩)
      go_ret
      exact ⟨i64_ret (by unfold Fl.cmpN; rw [if_neg h, if_neg g]), rfl⟩
theorem order_any (a b : Nat) (w : World) (ha : a < 18446744073709551616) (hb : b < 18446744073709551616) :
    Calls Tryd.prog 36 #[.float .f64 a, .float .f64 b] w fun e w' => e = .returned (.int .i64 (Fl.ord a b)) ∧ w = w' := by
  go_enter Tryd.func36, Tryd.ntmps36
  go_wp2_with (first | (go_at_call 51; refine (place_any _ _ (by assumption)).mono ?_; rintro e w' ⟨rfl, rfl⟩) | (go_at_call 50; refine (cmp_any _ _ _).mono ?_; rintro e w' ⟨rfl, rfl⟩))
  go_ret
  exact ⟨rfl, rfl⟩

theorem raw_any (b : Nat) (w : World) :
    Calls Tryd.prog 31 #[.float .f64 b] w fun e w' => e = .returned (.int .u64 b) ∧ w = w' := by
  have e1 := ext_bits
  go_enter Tryd.func31, Tryd.ntmps31
  go_wp2
  go_ret
  exact ⟨rfl, rfl⟩
theorem refNaN_any (b : Nat) (w : World) (hb : b < 18446744073709551616) :
    Calls Tryd.prog 59 #[.float .f64 b] w fun e w' => e = .returned (.bool (Fl.isNan b)) ∧ w = w' := by
  have e1 := Lib.hid (and62 hb)
  go_enter Tryd.func59, Tryd.ntmps59
  go_wp2_with (go_at_call 31; refine (raw_any _ _).mono ?_; rintro e w' ⟨rfl, rfl⟩)
  go_ret
  exact ⟨bool_ret (by rw [e1.out]; unfold Fl.isNan; rw [Bool.eq_iff_iff]; simp; omega), rfl⟩
theorem refNaN_t (b : Nat) (w : World) (hb : b < 18446744073709551616) (h : Fl.isNan b = true) :
    Calls Tryd.prog 59 #[.float .f64 b] w fun e w' => e = .returned (.bool true) ∧ w = w' := by
  rw [← h]; exact refNaN_any b w hb
theorem refNaN_f (b : Nat) (w : World) (hb : b < 18446744073709551616) (h : Fl.isNan b = false) :
    Calls Tryd.prog 59 #[.float .f64 b] w fun e w' => e = .returned (.bool false) ∧ w = w' := by
  rw [← h]; exact refNaN_any b w hb
end Go.Proofs.YtanbeaebdingeaaDoor
