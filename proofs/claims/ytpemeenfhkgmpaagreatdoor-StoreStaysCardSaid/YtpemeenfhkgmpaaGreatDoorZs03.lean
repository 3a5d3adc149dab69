/-
  PARTS OF THIS PROOF (own work): Fm, Fw, Fx, Fn, Fy, Fz, FlB, FlQ, Dig, TryK.
-/
import Ieee.Arith
import Derived.KernelRfl
import Derived.Test.YtpemeenfhkgmpaaGreatDoorChecked
import Derived.WalkKit
import Derived.WalkSpells
import Derived.WalkLawsBesides
import Derived.Laws.BitsAllLaws
import Derived.Laws.Externs
import Derived.Lib.Hide
import Derived.BigQuiet
import Derived.Deep.QuietTactic
import Derived.Test.YtpemeenfhkgmpaaGreatDoorZs01
import Derived.RegionTactic
import Derived.ChangeAlike
import Derived.Laws.OwnMore
import Derived.Test.YtpemeenfhkgmpaaGreatDoorZs02
import Derived.Defers
namespace Go.Proofs.YtpemeenfhkgmpaaGreatDoor.Fl
open Ieee

theorem sw : double.signWeight = 9223372036854775808 := by rfl
theorem bi : double.binade = 4503599627370496 := by rfl
theorem ir : double.infRung = 9218868437227405312 := by rfl
theorem lp : double.leastPlace = -1074 := by rfl

/-- is a word a NaN -/
def isNan (b : Nat) : Bool := decide (9218868437227405312 < b % 9223372036854775808)

/-- a number that rises as a float's value does (both zeros alike) -/
def key (b : Nat) : Int := if b < 9223372036854775808 then (b : Int) else -((b : Int) - 9223372036854775808)

/-- a rung's magnitude, in units of the least place -/
def val (r : Nat) : Nat := if r < 4503599627370496 then r else (4503599627370496 + r % 4503599627370496) * 2 ^ (r / 4503599627370496 - 1)

theorem val_lt {r s : Nat} (h : r < s) : val r < val s := by
  unfold val
  by_cases hs : s < 4503599627370496
  · rw [if_pos (by omega), if_pos hs]; exact h
  · rw [if_neg hs]
    have hq : 1 ≤ s / 4503599627370496 := by omega
    have p1 : 1 ≤ 2 ^ (s / 4503599627370496 - 1) := Nat.one_le_two_pow
    by_cases hr : r < 4503599627370496
    · rw [if_pos hr]
      calc r < 4503599627370496 + s % 4503599627370496 := by omega
        _ = (4503599627370496 + s % 4503599627370496) * 1 := by omega
        _ ≤ _ := Nat.mul_le_mul_left _ p1
    · rw [if_neg hr]
      by_cases he : r / 4503599627370496 = s / 4503599627370496
      · rw [he]
        exact Nat.mul_lt_mul_of_pos_right (by omega) (by omega)
      · have hlt : r / 4503599627370496 + 1 ≤ s / 4503599627370496 := by omega
        have hrq : 1 ≤ r / 4503599627370496 := by omega
        have e1 : 2 ^ (s / 4503599627370496 - 1) = 2 ^ (r / 4503599627370496 - 1) * 2 ^ (s / 4503599627370496 - r / 4503599627370496) := by
          rw [← Nat.pow_add]; congr 1; omega
        have e2 : 2 ≤ 2 ^ (s / 4503599627370496 - r / 4503599627370496) := by
          calc 2 = 2 ^ 1 := rfl
            _ ≤ _ := Nat.pow_le_pow_right (by omega) (by omega)
        rw [e1]
        have pr : 1 ≤ 2 ^ (r / 4503599627370496 - 1) := Nat.one_le_two_pow
        calc (4503599627370496 + r % 4503599627370496) * 2 ^ (r / 4503599627370496 - 1)
            < 9007199254740992 * 2 ^ (r / 4503599627370496 - 1) := Nat.mul_lt_mul_of_pos_right (by omega) (by omega)
          _ = 4503599627370496 * (2 ^ (r / 4503599627370496 - 1) * 2) := by omega
          _ ≤ 4503599627370496 * (2 ^ (r / 4503599627370496 - 1) * 2 ^ (s / 4503599627370496 - r / 4503599627370496)) := Nat.mul_le_mul_left _ (Nat.mul_le_mul_left _ e2)
          _ ≤ _ := Nat.mul_le_mul_right _ (by omega)

theorem val_le {r s : Nat} (h : r ≤ s) : val r ≤ val s := by
  rcases Nat.lt_or_eq_of_le h with h | h
  · exact Nat.le_of_lt (val_lt h)
  · rw [h]; exact Nat.le_refl _

/-- the significand and the place (above the least one) of a rung -/
def mag (r : Nat) : Nat := if r < 4503599627370496 then r else 4503599627370496 + r % 4503599627370496
def plc (r : Nat) : Nat := if r < 4503599627370496 then 0 else r / 4503599627370496 - 1
theorem val_eq (r : Nat) : val r = mag r * 2 ^ plc r := by
  unfold val mag plc; split <;> simp

theorem read_pos_fin {b : Nat} (h : b < 9218868437227405312) : double.read b = .number false (mag b) (-1074 + (plc b : Nat)) := by
  unfold Format.read mag plc
  rw [sw, bi, ir, lp]
  have e1 : b / 9223372036854775808 = 0 := by omega
  have e2 : b % 9223372036854775808 = b := by omega
  simp only [e1, e2]
  by_cases hb : b < 4503599627370496
  · simp [hb]
  · simp [hb, h]

theorem read_neg_fin {b : Nat} (h : b < 9218868437227405312) : double.read (b + 9223372036854775808) = .number true (mag b) (-1074 + (plc b : Nat)) := by
  unfold Format.read mag plc
  rw [sw, bi, ir, lp]
  have e1 : (b + 9223372036854775808) / 9223372036854775808 = 1 := by omega
  have e2 : (b + 9223372036854775808) % 9223372036854775808 = b := by omega
  simp only [e1, e2]
  by_cases hb : b < 4503599627370496
  · simp [hb]
  · simp [hb, h]

theorem read_inf : double.read 9218868437227405312 = .infinity false := by kernel_rfl
theorem read_ninf : double.read 18442240474082181120 = .infinity true := by kernel_rfl

theorem read_nan {b : Nat} (hn : isNan b = true) : ∃ s f, double.read b = .nan s f := by
  unfold isNan at hn
  have hn := of_decide_eq_true hn
  unfold Format.read
  rw [sw, bi, ir, lp]
  exact ⟨_, _, by rw [if_neg (by omega), if_neg (by omega), if_neg (by omega)]⟩

/-- the four ways of a word that is no NaN -/
theorem four {b : Nat} (h : b < 18446744073709551616) (hn : isNan b = false) :
    b < 9218868437227405312 ∨ (∃ c, c < 9218868437227405312 ∧ b = c + 9223372036854775808) ∨ b = 9218868437227405312 ∨ b = 18442240474082181120 := by
  unfold isNan at hn
  have hn := of_decide_eq_false hn
  by_cases h1 : b < 9223372036854775808
  · omega
  · have : b % 9223372036854775808 = b - 9223372036854775808 := by omega
    by_cases h2 : b = 18442240474082181120
    · omega
    · right; left; exact ⟨b - 9223372036854775808, by omega, by omega⟩

theorem signed_scale (s : Bool) (m u c : Nat) : signed s m (u + c) = signed s m u * (2 ^ c : Nat) := by
  unfold signed
  simp only [Nat.shiftLeft_eq, Nat.pow_add]
  split <;> push_cast <;> simp [Int.neg_mul, Int.mul_assoc]

theorem compare_scale (x y : Int) (c : Nat) : compare (x * (2 ^ c : Nat)) (y * (2 ^ c : Nat)) = compare x y := by
  have hc : (0 : Int) < (2 ^ c : Nat) := by exact_mod_cast Nat.two_pow_pos c
  rw [Int.compare_eq_ite_lt, Int.compare_eq_ite_lt]
  have a : x * ((2 ^ c : Nat) : Int) < y * ((2 ^ c : Nat) : Int) ↔ x < y := Int.mul_lt_mul_right hc
  have b : y * ((2 ^ c : Nat) : Int) < x * ((2 ^ c : Nat) : Int) ↔ y < x := Int.mul_lt_mul_right hc
  simp only [a, b]

def sval (s : Bool) (r : Nat) : Int := if s then -(val r : Int) else (val r : Int)
theorem signed_val (s : Bool) (r : Nat) : signed s (mag r) (plc r) = sval s r := by
  unfold signed sval
  rw [val_eq, Nat.shiftLeft_eq]

theorem order_num (s t : Bool) (a b : Nat) :
    Datum.order (.number s (mag a) (-1074 + (plc a : Nat))) (.number t (mag b) (-1074 + (plc b : Nat))) = some (compare (sval s a) (sval t b)) := by
  unfold Datum.order
  simp only
  congr 1
  rw [← signed_val, ← signed_val]
  by_cases h : plc a ≤ plc b
  · have e1 : (-1074 + (plc a : Int) - min (-1074 + (plc a : Int)) (-1074 + (plc b : Int))).toNat = 0 := by omega
    have e2 : (-1074 + (plc b : Int) - min (-1074 + (plc a : Int)) (-1074 + (plc b : Int))).toNat = plc b - plc a := by omega
    rw [e1, e2, ← compare_scale _ _ (plc a), ← signed_scale, ← signed_scale]
    congr 2 <;> omega
  · have e1 : (-1074 + (plc a : Int) - min (-1074 + (plc a : Int)) (-1074 + (plc b : Int))).toNat = plc a - plc b := by omega
    have e2 : (-1074 + (plc b : Int) - min (-1074 + (plc a : Int)) (-1074 + (plc b : Int))).toNat = 0 := by omega
    rw [e1, e2, ← compare_scale _ _ (plc b), ← signed_scale, ← signed_scale]
    congr 2 <;> omega

theorem val_zero : val 0 = 0 := rfl
theorem val_lt_iff {r s : Nat} : val r < val s ↔ r < s := by
  constructor
  · intro h
    rcases Nat.lt_or_ge r s with h1 | h1
    · exact h1
    · have := val_le h1; omega
  · exact val_lt

theorem compare_sval (s t : Bool) (a b : Nat) : compare (sval s a) (sval t b) = compare (if s then -(a : Int) else (a : Int)) (if t then -(b : Int) else (b : Int)) := by
  have h1 := @val_lt_iff a b
  have h2 := @val_lt_iff b a
  have z1 : 0 < val a ↔ 0 < a := by rw [← val_zero]; exact val_lt_iff
  have z2 : 0 < val b ↔ 0 < b := by rw [← val_zero]; exact val_lt_iff
  rw [Int.compare_eq_ite_lt, Int.compare_eq_ite_lt]
  unfold sval
  have key : ∀ x y z u : Int, (x < y ↔ z < u) → (y < x ↔ u < z) → (if x < y then Ordering.lt else if y < x then Ordering.gt else Ordering.eq) = (if z < u then Ordering.lt else if u < z then Ordering.gt else Ordering.eq) := by
    intro x y z u g1 g2; simp only [g1, g2]
  apply key <;> cases s <;> cases t <;> simp only [if_true, if_false, Bool.false_eq_true] <;> omega

theorem key_pos {b : Nat} (h : b < 9223372036854775808) : key b = b := by unfold key; rw [if_pos h]
theorem key_neg (b : Nat) : key (b + 9223372036854775808) = -(b : Int) := by
  unfold key; rw [if_neg (by omega)]; omega

theorem order_eq {a b : Nat} (ha : a < 18446744073709551616) (hb : b < 18446744073709551616) (na : isNan a = false) (nb : isNan b = false) :
    double.order a b = some (compare (key a) (key b)) := by
  unfold Format.order
  have gt' : ∀ x y : Int, y < x → some (compare x y) = some Ordering.gt := by
    intro x y h; rw [Int.compare_eq_ite_lt, if_neg (by omega), if_pos h]
  have lt' : ∀ x y : Int, x < y → some (compare x y) = some Ordering.lt := by
    intro x y h; rw [Int.compare_eq_ite_lt, if_pos h]
  have eq' : ∀ x : Int, some (compare x x) = some Ordering.eq := by
    intro x; rw [Int.compare_eq_ite_lt, if_neg (by omega), if_neg (by omega)]
  have ki : key 9218868437227405312 = 9218868437227405312 := rfl
  have kn : key 18442240474082181120 = -9218868437227405312 := rfl
  rcases four ha na with h | ⟨c, h, rfl⟩ | rfl | rfl <;> rcases four hb nb with g | ⟨d, g, rfl⟩ | rfl | rfl
  all_goals try rw [read_pos_fin h]
  all_goals try rw [read_neg_fin h]
  all_goals try rw [read_pos_fin g]
  all_goals try rw [read_neg_fin g]
  all_goals try rw [read_inf]
  all_goals try rw [read_ninf]
  all_goals try rw [order_num, compare_sval]
  all_goals try rw [ki]
  all_goals try rw [kn]
  all_goals try rw [key_neg]
  all_goals try rw [key_neg]
  all_goals try rw [key_pos (by omega : a < 9223372036854775808)]
  all_goals try rw [key_pos (by omega : b < 9223372036854775808)]
  all_goals try rw [gt' _ _ (by omega)]
  all_goals try rw [lt' _ _ (by omega)]
  all_goals try rw [eq' _]
  all_goals rfl

theorem order_nan_left {a b : Nat} (na : isNan a = true) : double.order a b = none := by
  obtain ⟨s, f, h⟩ := read_nan na
  unfold Format.order; rw [h]; rfl
theorem order_nan_right {a b : Nat} (nb : isNan b = true) : double.order a b = none := by
  obtain ⟨s, f, h⟩ := read_nan nb
  unfold Format.order; rw [h]; cases double.read a <;> rfl

theorem compare_eq_gt (x y : Int) : (compare x y = .gt) ↔ y < x := by
  rw [Int.compare_eq_ite_lt]
  by_cases h : x < y
  · rw [if_pos h]; simp; omega
  · rw [if_neg h]
    by_cases g : y < x
    · rw [if_pos g]; simp [g]
    · rw [if_neg g]; simp; omega
/-- the tests of floats, by keys -/
def isLt (a b : Nat) : Bool := !isNan a && !isNan b && decide (key a < key b)
def isEq (a b : Nat) : Bool := !isNan a && !isNan b && decide (key a = key b)

theorem test_gt {a b : Nat} (ha : a < 18446744073709551616) (hb : b < 18446744073709551616) : (double.order a b == some .gt) = isLt b a := by
  unfold isLt
  cases na : isNan a
  · cases nb : isNan b
    · rw [order_eq ha hb na nb, Bool.eq_iff_iff]; simp [compare_eq_gt]
    · rw [order_nan_right nb]; rfl
  · rw [order_nan_left na]; cases isNan b <;> rfl
theorem test_eq {a b : Nat} (ha : a < 18446744073709551616) (hb : b < 18446744073709551616) : (double.order a b == some .eq) = isEq a b := by
  unfold isEq
  cases na : isNan a
  · cases nb : isNan b
    · rw [order_eq ha hb na nb, Bool.eq_iff_iff]; simp
    · rw [order_nan_right nb]; rfl
  · rw [order_nan_left na]; rfl
theorem test_self {a : Nat} (ha : a < 18446744073709551616) : (double.order a a != some .eq) = isNan a := by
  unfold bne; rw [test_eq ha ha]; unfold isEq; cases isNan a <;> simp

/-- the place of a word in floats' order -/
def place (b : Nat) : Nat := if isNan b then 18446744073709551615 else if 9223372036854775808 ≤ b then 18446744073709551615 - b else b + 9223372036854775808
/-- the plain form; which words are delays -/
def plain (b : Nat) : Nat := if isNan b then 9221120237041090561 else if b = 9223372036854775808 then 0 else b
def dl (b : Nat) : Bool := !isNan b && decide (b ≤ 9223372036854775808)
theorem plain_lt {b : Nat} (h : b < 18446744073709551616) : plain b < 18446744073709551616 := by
  unfold plain; split
  · omega
  · split <;> omega
theorem nan0 : isNan 0 = false := rfl
theorem key0 : key 0 = 0 := rfl
theorem key_zero {b : Nat} (h : b < 18446744073709551616) : key b = 0 ↔ (b = 0 ∨ b = 9223372036854775808) := by
  unfold key; split <;> omega
theorem isEq0 {b : Nat} (h : b < 18446744073709551616) : isEq b 0 = (decide (b = 0) || decide (b = 9223372036854775808)) := by
  unfold isEq
  rw [nan0, key0, Bool.eq_iff_iff]
  simp only [Bool.and_eq_true, Bool.not_eq_true', Bool.not_false, Bool.or_eq_true, decide_eq_true_eq, key_zero h, and_true]
  constructor
  · exact fun g => g.2
  · intro g
    refine ⟨?_, g⟩
    rcases g with rfl | rfl <;> rfl
theorem isGe0 {b : Nat} (h : b < 18446744073709551616) : (isLt 0 b || isEq b 0) = dl b := by
  unfold dl
  cases hn : isNan b
  · rw [isEq0 h]
    unfold isLt
    rw [nan0, key0, hn, Bool.eq_iff_iff]
    unfold key
    simp only [Bool.and_eq_true, Bool.not_false, Bool.or_eq_true, decide_eq_true_eq, true_and]
    split <;> omega
  · unfold isLt isEq; rw [hn]; simp

end Go.Proofs.YtpemeenfhkgmpaaGreatDoor.Fl

namespace Go.Proofs.YtpemeenfhkgmpaaGreatDoor
open Go.RowKit

theorem ext_bits (b : Nat) (w : World) : (callFunc 64 #[.float .f64 b]).run Tryz.prog w = .ok (.value (.int .u64 b)) w := by
  rw [run_callFunc_extern (e := Extern.MathFloatBits.float64bits) Tryz.func64 (by kernel_rfl) (by kernel_rfl) (by kernel_rfl) (by kernel_rfl)]
  rfl
theorem isNaN_any (b : Nat) (w : World) (hb : b < 18446744073709551616) :
    Calls Tryz.prog 156 #[.float .f64 b] w fun e w' => e = .returned (.bool (Fl.isNan b)) ∧ w = w' := by
  go_enter Tryz.func156, Tryz.ntmps156
  go_wp2
  go_ret
  exact ⟨by rw [← Fl.test_self hb]; rfl, rfl⟩
theorem isNaN_t (b : Nat) (w : World) (hb : b < 18446744073709551616) (h : Fl.isNan b = true) :
    Calls Tryz.prog 156 #[.float .f64 b] w fun e w' => e = .returned (.bool true) ∧ w = w' := by
  rw [← h]; exact isNaN_any b w hb
theorem isNaN_f (b : Nat) (w : World) (hb : b < 18446744073709551616) (h : Fl.isNan b = false) :
    Calls Tryz.prog 156 #[.float .f64 b] w fun e w' => e = .returned (.bool false) ∧ w = w' := by
  rw [← h]; exact isNaN_any b w hb

theorem bool_ret {a b : Bool} (h : a = b) : Ending.returned (.bool a) = .returned (.bool b) := by rw [h]

open Go.RowKit

theorem ext_fromI (n : Int) (w : World) : (callFunc 99 #[.int .u64 n]).run Tryz.prog w = .ok (.value (.float .f64 n.toNat)) w := by
  rw [run_callFunc_extern (e := Extern.MathFloatBits.float64frombits) Tryz.func99 (by kernel_rfl) (by kernel_rfl) (by kernel_rfl) (by kernel_rfl)]
  rfl
theorem f64_ret {a b : Nat} (h : a = b) : Ending.returned (.float .f64 a) = .returned (.float .f64 b) := by rw [h]

theorem eq0 {b : Nat} (hb : b < 18446744073709551616) : (FloatKind.f64.format.order b 0 == some .eq) = (decide (b = 0) || decide (b = 9223372036854775808)) := by
  rw [← Fl.isEq0 hb]; exact Fl.test_eq hb (by omega)
theorem ge0 {b : Nat} (hb : b < 18446744073709551616) : (FloatKind.f64.format.order b 0 == some .gt || FloatKind.f64.format.order b 0 == some .eq) = Fl.dl b := by
  rw [← Fl.isGe0 hb]
  have e1 := Fl.test_gt hb (show 0 < 18446744073709551616 by omega)
  have e2 := Fl.test_eq hb (show 0 < 18446744073709551616 by omega)
  rw [← e1, ← e2]; rfl

theorem plain_any (b : Nat) (w : World) (hb : b < 18446744073709551616) :
    Calls Tryz.prog 141 #[.float .f64 b] w fun e w' => e = .returned (.float .f64 (Fl.plain b)) ∧ w = w' := by
  have e1 := ext_fromI
  cases hn : Fl.isNan b
  · cases ht : (decide (b = 0) || decide (b = 9223372036854775808))
    · have t1 : (FloatKind.f64.format.order b 0 == some .eq) = false := by rw [eq0 hb]; exact ht
      have HT := Lib.hid ht
      have HB := Lib.hid hb
      clear ht hb
      go_enter Tryz.func141, Tryz.ntmps141
      go_wp2_with (go_at_call 156; refine (isNaN_f _ _ HB.out hn).mono ?_; rintro e w' ⟨rfl, rfl⟩)
      go_ret
      exact ⟨f64_ret (by have := HT.out; simp at this; unfold Fl.plain; rw [hn, if_neg (by simp), if_neg (by omega)]), rfl⟩
    · have t1 : (FloatKind.f64.format.order b 0 == some .eq) = true := by rw [eq0 hb]; exact ht
      have HT := Lib.hid ht
      have HB := Lib.hid hb
      clear ht hb
      go_enter Tryz.func141, Tryz.ntmps141
      go_wp2_with (go_at_call 156; refine (isNaN_f _ _ HB.out hn).mono ?_; rintro e w' ⟨rfl, rfl⟩)
      go_ret
      exact ⟨f64_ret (by have := HT.out; simp at this; unfold Fl.plain; rw [hn, if_neg (by simp)]; split <;> omega), rfl⟩
  · go_enter Tryz.func141, Tryz.ntmps141
    go_wp2_with (go_at_call 156; refine (isNaN_t _ _ hb hn).mono ?_; rintro e w' ⟨rfl, rfl⟩)
    go_ret
    exact ⟨f64_ret (by unfold Fl.plain; rw [if_pos hn]), rfl⟩

theorem isDelay_any (b : Nat) (w : World) (hb : b < 18446744073709551616) :
    Calls Tryz.prog 170 #[.float .f64 b] w fun e w' => e = .returned (.bool (Fl.dl b)) ∧ w = w' := by
  go_enter Tryz.func170, Tryz.ntmps170
  go_wp2
  go_ret
  exact ⟨bool_ret (ge0 hb), rfl⟩
end Go.Proofs.YtpemeenfhkgmpaaGreatDoor

namespace Go.Proofs.YtpemeenfhkgmpaaGreatDoor.Fl
open Ieee

/-- a delay's plain form is a rung up to infinity's -/
theorem dl_plain {b : Nat} (h : dl b = true) : plain b ≤ 9218868437227405312 ∧ (b ≤ 9218868437227405312 ∨ b = 9223372036854775808) := by
  unfold dl at h
  simp only [Bool.and_eq_true, Bool.not_eq_true', decide_eq_true_eq] at h
  obtain ⟨hn, hb⟩ := h
  unfold plain
  rw [hn]
  unfold isNan at hn
  have hn := of_decide_eq_false hn
  simp only [Bool.false_eq_true, if_false]
  split <;> omega
theorem dl_lt {b : Nat} (h : dl b = true) : b < 18446744073709551616 := by rcases (dl_plain h).2 with g | g <;> omega

end Go.Proofs.YtpemeenfhkgmpaaGreatDoor.Fl

namespace Go.Proofs.YtpemeenfhkgmpaaGreatDoor
open Go.RowKit

theorem isDelay_t (b : Nat) (w : World) (hb : b < 18446744073709551616) (h : Fl.dl b = true) :
    Calls Tryz.prog 170 #[.float .f64 b] w fun e w' => e = .returned (.bool true) ∧ w = w' := by
  rw [← h]; exact isDelay_any b w hb
theorem isDelay_f (b : Nat) (w : World) (hb : b < 18446744073709551616) (h : Fl.dl b = false) :
    Calls Tryz.prog 170 #[.float .f64 b] w fun e w' => e = .returned (.bool false) ∧ w = w' := by
  rw [← h]; exact isDelay_any b w hb

open Go.RowKit

theorem delay_ok (b : Nat) (w : World) (h : Fl.dl b = true) :
    Calls Tryz.prog 164 #[.float .f64 b] w fun e w' => e = .returned (.tuple #[.float .f64 (Fl.plain b), .nilIface]) ∧ w = w' := by
  have H := Lib.hid h
  clear h
  go_enter Tryz.func164, Tryz.ntmps164
  go_wp2_with (first | (go_at_call 170; (with_reducible refine (isDelay_t b _ (Fl.dl_lt H.out) H.out).mono ?_); rintro e w' ⟨rfl, rfl⟩) | (go_at_call 141; (with_reducible refine (plain_any b _ (Fl.dl_lt H.out)).mono ?_); rintro e w' ⟨rfl, rfl⟩))
  go_ret2
  exact ⟨rfl, rfl⟩
theorem delay_err (b : Nat) (v : Value) (w : World) (hb : b < 18446744073709551616) (h : Fl.dl b = false) (hc : w.cell? ⟨3, 0, none⟩ = some v) :
    Calls Tryz.prog 164 #[.float .f64 b] w fun e w' => e = .returned (.tuple #[.float .f64 0, v]) ∧ Kp w w' := by
  have H := Lib.hid h
  clear h
  go_enter Tryz.func164, Tryz.ntmps164
  go_wp2_with (first | (go_at_call 170; (with_reducible refine (isDelay_f b _ hb H.out).mono ?_); rintro e w' ⟨rfl, rfl⟩))
  go_region
  all_goals go_wp2
  all_goals go_ret2
  all_goals exact ⟨rfl, (Kp.refl _).drew⟩

open Go.RowKit

theorem bits_any (b : Nat) (w : World) (hb : b < 18446744073709551616) :
    Calls Tryz.prog 98 #[.float .f64 b] w fun e w' => e = .returned (.int .u64 (Fl.plain b)) ∧ w = w' := by
  have e1 := ext_bits
  go_enter Tryz.func98, Tryz.ntmps98
  go_wp2_with (go_at_call 141; (with_reducible refine (plain_any _ _ hb).mono ?_); rintro e w' ⟨rfl, rfl⟩)
  go_ret
  exact ⟨rfl, rfl⟩
open Go.RowKit Go.ChangeShapes Go.WideShapes

/-- the i-th byte of a number from the low end; the eight of a word, the high one first -/
def fb (n i : Nat) : Int := ((n / 256 ^ i % 256 : Nat) : Int)
def f8 (n : Nat) : List Int := [fb n 7, fb n 6, fb n 5, fb n 4, fb n 3, fb n 2, fb n 1, fb n 0]

/-- WHAT ToFloat ANSWERS: the word, the error's number. -/
def toFl (bs : List Int) : Nat × Int := if bs.length = 8 ∧ Fl.plain (beNum bs).toNat = (beNum bs).toNat then ((beNum bs).toNat, 0) else (0, 4)

open Go.RowKit Go.ChangeShapes Go.WideShapes

/-- the n lowest bytes of x, the high one first; those that are laid behind i rounds -/
def digB (x n : Nat) : List Int := (List.range n).map fun p => fb x (n - 1 - p)
def digP (x n i : Nat) : List Value := (List.range n).map fun p => Value.int .u8 (if n - 1 - p < i then fb x (n - 1 - p) else 0)
theorem digP_len (x n i : Nat) : (digP x n i).length = n := by simp [digP]
theorem digP_full (x n : Nat) : digP x n n = (digB x n).map (Value.int .u8) := by
  unfold digP digB
  rw [List.map_map]
  refine List.map_congr_left fun p hp => ?_
  have := List.mem_range.1 hp
  simp only [Function.comp]
  rw [if_pos (by omega)]
theorem digP_next (x n i : Nat) (h : i < n) : (digP x n i).set (n - 1 - i) (.int .u8 (fb x i)) = digP x n (i + 1) := by
  refine List.ext_getElem (by simp [digP]) fun p h1 h2 => ?_
  have hp : p < n := by simpa [digP] using h2
  rw [List.getElem_set]
  split
  · rename_i e
    subst e
    have q : n - 1 - (n - 1 - i) = i := by omega
    simp [digP, q]
  · rename_i e
    simp only [digP, List.getElem_map, List.getElem_range]
    congr 1
    by_cases g : n - 1 - p < i
    · rw [if_pos g, if_pos (by omega)]
    · rw [if_neg g, if_neg (by omega)]

theorem shr_fb (x j : Nat) : (x : Int) / 2 ^ (8 * (j : Int)).toNat % 256 = fb x j := by
  have e : (8 * (j : Int)).toNat = 8 * j := by omega
  rw [e]
  have e2 : (2 : Int) ^ (8 * j) = ((256 ^ j : Nat) : Int) := by
    rw [Int.natCast_pow, show ((256 : Nat) : Int) = 2 ^ 8 from rfl, ← Int.pow_mul]
  rw [e2]
  unfold fb
  omega

theorem made_rep (z : Value) (n : Nat) : (madeCells #[z] n).toList = List.replicate n z := by
  rw [List.eq_replicate_iff]
  refine ⟨by simp [madeCells], fun b hb => ?_⟩
  simp [madeCells] at hb
  obtain ⟨p, _, h⟩ := hb
  rw [← h]
  simp [Nat.mod_one]

set_option maxRecDepth 100000 in
set_option maxHeartbeats 2000000 in
theorem digits_any (x n : Nat) (hx : x < 18446744073709551616) (hn : n ≤ 8) (xx nn : Int) (hxx : (x : Int) = xx) (hnn : (n : Int) = nn) (w : World) :
    Calls Tryz.prog 127 #[.int .u64 xx, .int .i64 nn] w fun e w' => e = .returned (.slice (some ⟨w.heap.size, 0, none⟩) n n) ∧ w'.ownsRow w.heap.size 5 1 (.slice (some ⟨w.heap.size, 0, none⟩) n n) n ((digB x n).map (Value.int .u8)) ∧ Kp w w' := by
  obtain ⟨i0, hi, hz0, hz1, hz2⟩ := info_parts info_byte
  have hfull := digP_full x n
  have hxb : 0 ≤ xx ∧ xx < 18446744073709551616 := by omega
  have hnb : 0 ≤ nn ∧ nn ≤ 8 := by omega
  have HI := Lib.hid (And.intro hz1 hz2)
  have HI2 := Lib.hid hi
  have HI3 := Lib.hid hz0
  have HF := Lib.hid hfull
  have HX := Lib.hid hxx
  have HN := Lib.hid hnn
  clear hz1 hz2 hi hz0 hfull hxx hnn hx
  go_enter Tryz.func127, Tryz.ntmps127
  go_wp2_with (first | (refine wpList_make_full _ rfl _ _ 55 rfl w.heap.size 5 i0 (.int .u8 0) 1 Tryz.underlying55 HI2.out HI3.out HI.out.1 .i64 .i64 _ _ n rfl rfl ?m1 ?m2 ?m3 ?m4 ?m5 ?_))
  case m1 => exact HN.out.symm
  case m2 => exact HN.out.symm
  case m3 => rw [HI.out.2]; omega
  case m4 => unfold maxLen; omega
  case m5 => exact Nat.le_refl _
  rintro w1 hown1 hgr1
  have K1 : Hid (Kp w w1) := Lib.hid ((Below.refl _ _).grown hgr1 (Nat.le_refl _) (fun k hk => by cases hk))
  have h0 : w1.ownsRow w.heap.size 5 1 (.slice (some ⟨w.heap.size, 0, none⟩) n n) n (digP x n 0) := by
    have e : (madeCells #[.int .u8 0] n).toList = digP x n 0 := by
      have e1 : digP x n 0 = List.replicate n (.int .u8 0) := by
        unfold digP
        rw [List.eq_replicate_iff]
        refine ⟨by simp, fun b hb => ?_⟩
        obtain ⟨p, _, rfl⟩ := List.mem_map.1 hb
        simp
      rw [e1]
      exact made_rep _ _
    rw [← e]; exact hown1
  have OW1 := Lib.hid h0
  clear hown1 hgr1 h0
  go_wp2
  go_loopw [11] (fun i wr => ∃ j : Nat, j ≤ n ∧ i = .int .i64 j ∧ Kp w wr ∧ wr.ownsRow w.heap.size 5 1 (.slice (some ⟨w.heap.size, 0, none⟩) n n) n (digP x n j)) (fun i _ => n - (intOf i).toNat)
  case atStart => exact ⟨0, Nat.zero_le _, rfl, K1.out, OW1.out⟩
  case round =>
    obtain ⟨j, hj, rfl, hk, hown⟩ := hrel
    have HK := Lib.hid hk
    have HO := Lib.hid hown
    clear hk hown
    obtain ⟨jj, hjj⟩ : ∃ jj : Int, (j : Int) = jj := ⟨_, rfl⟩
    rw [hjj]
    have hnl := HN.out
    by_cases hlt : j < n
    · obtain ⟨pp, hpp⟩ : ∃ pp : Nat, n - 1 - j = pp := ⟨_, rfl⟩
      have hpn : pp < n := by omega
      have hc : wr.cell? ⟨w.heap.size, pp, none⟩ = some (.int .u8 0) := by
        rw [HO.out.cellAt pp (by omega)]
        have hl : pp < (digP x n j).length := by rw [digP_len]; exact hpn
        rw [List.getElem?_eq_getElem hl]
        simp only [digP, List.getElem_map, List.getElem_range]
        rw [if_neg (by omega)]
      have hz := HO.out.frozenAt pp
      have hst := (HO.out.stored pp (.int .u8 (fb x j)))
      rw [← hpp, digP_next x n j hlt, hpp] at hst
      have HST := Lib.hid hst.1
      have HGR := Lib.hid (Below.grown HK.out hst.2 (Below.size HK.out) (fun k hk => by injection hk with hk; omega))
      obtain ⟨fx, hfx⟩ : ∃ fx, fb x j = fx := ⟨_, rfl⟩
      rw [hfx] at HST HGR
      have HFX := Lib.hid hfx
      obtain ⟨qq, hqq⟩ : ∃ qq : Int, (pp : Int) = qq := ⟨_, rfl⟩
      have e1 : qq.toNat = pp := by omega
      have hdiff : nn - 1 - jj = qq := by omega
      have hq0 : 0 ≤ qq := by omega
      have hqn : qq < n := by omega
      have hltj : jj < n := by omega
      rw [← e1] at hc hz
      have HJ := Lib.hid hjj
      have HE1 := Lib.hid e1
      have hj8 : 0 ≤ jj ∧ jj < 8 := by omega
      clear hst hfx hjj hqq e1 hpp hpn hnl hlt
      go_wp2
      have hval : xx / 2 ^ (8 * jj).toNat % 256 = fx := by rw [← HFX.out, ← HX.out, ← HJ.out]; exact shr_fb x j
      rw [hval, HE1.out]
      have hjj := HJ.out
      go_roundw
      case rel => exact ⟨j + 1, by omega, by congr 1; omega, HGR.out, HST.out⟩
      case measure => simp [intOf]; omega
    · obtain rfl : j = n := by omega
      have hex : ¬ jj < j := by omega
      have HO2 := HO.out
      rw [HF.out] at HO2
      have HO3 := Lib.hid HO2
      clear HO2 hjj hnl hlt
      go_wp2
      go_ret
      exact ⟨rfl, HO3.out, HK.out⟩
open Go.RowKit Go.Extern.Stop Go.Stop Go.Extern

/-- BLOCKS FROM B ON ARE AS THEY WERE. -/
def Past (B : Nat) (w w' : World) : Prop := w.heap.size ≤ w'.heap.size ∧ ∀ b, B ≤ b → b < w.heap.size → w'.heap[b]? = w.heap[b]?
/-- ALL BUT THE BLOCKS B, B + 1 IS AS IT WAS. -/
def Aside (B : Nat) (w w' : World) : Prop := w.heap.size ≤ w'.heap.size ∧ ∀ b, b ≠ B → b ≠ B + 1 → w'.heap[b]? = w.heap[b]?
theorem Aside.below {B : Nat} {w w' : World} (h : Below B w w') (hs : ∀ b, b ≠ B → b ≠ B + 1 → w'.heap[b]? = w.heap[b]?) : Aside B w w' := ⟨h.size, hs⟩
theorem past_of {w0 w w' : World} (h : Kp w w') : Past w0.heap.size w w' := ⟨Below.size h, fun b _ hb => Below.block h b hb⟩
/-- WHAT IS DONE WITHIN, between two stretches that turn no old memory. -/
def Mid (w : World) (G : World → World → Prop) (w' : World) : Prop := ∃ w1 w2, Below w.heap.size w w1 ∧ w1.heap.size = w.heap.size + 2 ∧ G w1 w2 ∧ Below w.heap.size w2 w'

theorem own_aside {w w' : World} {B base : Nat} {e : TypeId} {size n : Nat} {v : Value} {xs : List Value} (h : w.ownsRow base e size v n xs) (ha : Aside B w w') (hb : B + 2 ≤ base) : w'.ownsRow base e size v n xs := by
  obtain ⟨h1, h2⟩ := h
  refine ⟨h1, ?_⟩
  rcases h2 with h2 | ⟨g, cap, cur, hv, hg, hh, r⟩
  · exact Or.inl h2
  · exact Or.inr ⟨g, cap, cur, hv, hg, by rw [ha.2 g (by omega) (by omega)]; exact hh, r⟩

theorem try_new0 (w : World) (o o' : Obj) : ((w.alloc o).alloc o').heap[w.heap.size]? = some o := by
  rw [Below.heap_alloc _ _ _ (by simp)]
  exact (MapKept.heap_alloc w o).1
theorem try_new1 (w : World) (o o' : Obj) : ((w.alloc o).alloc o').heap[w.heap.size + 1]? = some o' := by
  have := (MapKept.heap_alloc (w.alloc o) o').1
  simpa using this
theorem heap_setCell_other (w : World) (q : Addr) (v : Value) (b : Nat) (h : b ≠ q.block) : (w.setCell q v).heap[b]? = w.heap[b]? := Below.heap_setCell w q v b h
end Go.Proofs.YtpemeenfhkgmpaaGreatDoor
