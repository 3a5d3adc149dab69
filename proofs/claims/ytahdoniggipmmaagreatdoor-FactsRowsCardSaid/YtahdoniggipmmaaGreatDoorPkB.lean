/-
  PARTS OF THIS PROOF (own work): Fm, Fn, Fo, Fw, Fx, Fy, Fz, CxM.
-/
import Ieee.Arith
import Derived.KernelRfl
import Derived.Test.YtahdoniggipmmaaGreatDoorChecked
import Derived.WalkKit
import Derived.WalkSpells
import Derived.WalkLawsBesides
import Derived.Laws.BitsAllLaws
import Derived.Laws.Externs
import Derived.Lib.Hide
import Derived.BigQuiet
import Derived.Deep.QuietTactic
import Derived.Test.YtahdoniggipmmaaGreatDoorPkA
import Derived.RegionTactic
import Derived.ChangeAlike

namespace Go.Proofs.YtahdoniggipmmaaGreatDoor.Fl
open Ieee

def B : Nat := 4503599627370496
def S : Nat := 9223372036854775808
def INF : Nat := 9218868437227405312

theorem sw : double.signWeight = 9223372036854775808 := by rfl
theorem bi : double.binade = 4503599627370496 := by rfl
theorem ir : double.infRung = 9218868437227405312 := by rfl
theorem lp : double.leastPlace = -1074 := by rfl

/-- is a word a NaN -/
def isNan (b : Nat) : Bool := decide (9218868437227405312 < b % 9223372036854775808)

/-- a number that rises as a float's value does (both zeros alike) -/
def key (b : Nat) : Int := if b < 9223372036854775808 then (b : Int) else -((b : Int) - 9223372036854775808)

/-- a rung's magnitude, in units of the least place -/
def val (r : Nat) : Nat := if r < 4503599627370496 then r else (4503599627370496 + r % 4503599627370496) * 2 ^ (r / 4503599627370496 - 1)

theorem val_lt {r s : Nat} (h : r < s) : val r < val s := by
  unfold val
  by_cases hs : s < 4503599627370496
  · rw [if_pos (by omega), if_pos hs]; exact h
  · rw [if_neg hs]
    have hq : 1 ≤ s / 4503599627370496 := by omega
    have p1 : 1 ≤ 2 ^ (s / 4503599627370496 - 1) := Nat.one_le_two_pow
    by_cases hr : r < 4503599627370496
    · rw [if_pos hr]
      calc r < 4503599627370496 + s % 4503599627370496 := by omega
        _ = (4503599627370496 + s % 4503599627370496) * 1 := by omega
        _ ≤ _ := Nat.mul_le_mul_left _ p1
    · rw [if_neg hr]
      by_cases he : r / 4503599627370496 = s / 4503599627370496
      · rw [he]
        exact Nat.mul_lt_mul_of_pos_right (by omega) (by omega)
      · have hlt : r / 4503599627370496 + 1 ≤ s / 4503599627370496 := by omega
        have hrq : 1 ≤ r / 4503599627370496 := by omega
        have e1 : 2 ^ (s / 4503599627370496 - 1) = 2 ^ (r / 4503599627370496 - 1) * 2 ^ (s / 4503599627370496 - r / 4503599627370496) := by
          rw [← Nat.pow_add]; congr 1; omega
        have e2 : 2 ≤ 2 ^ (s / 4503599627370496 - r / 4503599627370496) := by
          calc 2 = 2 ^ 1 := rfl
            _ ≤ _ := Nat.pow_le_pow_right (by omega) (by omega)
        rw [e1]
        have pr : 1 ≤ 2 ^ (r / 4503599627370496 - 1) := Nat.one_le_two_pow
        calc (4503599627370496 + r % 4503599627370496) * 2 ^ (r / 4503599627370496 - 1)
            < 9007199254740992 * 2 ^ (r / 4503599627370496 - 1) := Nat.mul_lt_mul_of_pos_right (by omega) (by omega)
          _ = 4503599627370496 * (2 ^ (r / 4503599627370496 - 1) * 2) := by omega
          _ ≤ 4503599627370496 * (2 ^ (r / 4503599627370496 - 1) * 2 ^ (s / 4503599627370496 - r / 4503599627370496)) := Nat.mul_le_mul_left _ (Nat.mul_le_mul_left _ e2)
          _ ≤ _ := Nat.mul_le_mul_right _ (by omega)

theorem val_le {r s : Nat} (h : r ≤ s) : val r ≤ val s := by
  rcases Nat.lt_or_eq_of_le h with h | h
  · exact Nat.le_of_lt (val_lt h)
  · rw [h]; exact Nat.le_refl _

/-- the significand and the place (above the least one) of a rung -/
def mag (r : Nat) : Nat := if r < 4503599627370496 then r else 4503599627370496 + r % 4503599627370496
def plc (r : Nat) : Nat := if r < 4503599627370496 then 0 else r / 4503599627370496 - 1
theorem val_eq (r : Nat) : val r = mag r * 2 ^ plc r := by
  unfold val mag plc; split <;> simp

theorem read_pos_fin {b : Nat} (h : b < 9218868437227405312) : double.read b = .number false (mag b) (-1074 + (plc b : Nat)) := by
  unfold Format.read mag plc
  rw [sw, bi, ir, lp]
  have e1 : b / 9223372036854775808 = 0 := by omega
  have e2 : b % 9223372036854775808 = b := by omega
  simp only [e1, e2]
  by_cases hb : b < 4503599627370496
  · simp [hb]
  · simp [hb, h]

theorem read_neg_fin {b : Nat} (h : b < 9218868437227405312) : double.read (b + 9223372036854775808) = .number true (mag b) (-1074 + (plc b : Nat)) := by
  unfold Format.read mag plc
  rw [sw, bi, ir, lp]
  have e1 : (b + 9223372036854775808) / 9223372036854775808 = 1 := by omega
  have e2 : (b + 9223372036854775808) % 9223372036854775808 = b := by omega
  simp only [e1, e2]
  by_cases hb : b < 4503599627370496
  · simp [hb]
  · simp [hb, h]

theorem read_inf : double.read 9218868437227405312 = .infinity false := by kernel_rfl
theorem read_ninf : double.read 18442240474082181120 = .infinity true := by kernel_rfl

theorem read_nan {b : Nat} (hn : isNan b = true) : ∃ s f, double.read b = .nan s f := by
  unfold isNan at hn
  have hn := of_decide_eq_true hn
  unfold Format.read
  rw [sw, bi, ir, lp]
  exact ⟨_, _, by rw [if_neg (by omega), if_neg (by omega), if_neg (by omega)]⟩

/-- the four ways of a word that is no NaN -/
theorem four {b : Nat} (h : b < 18446744073709551616) (hn : isNan b = false) :
    b < 9218868437227405312 ∨ (∃ c, c < 9218868437227405312 ∧ b = c + 9223372036854775808) ∨ b = 9218868437227405312 ∨ b = 18442240474082181120 := by
  unfold isNan at hn
  have hn := of_decide_eq_false hn
  by_cases h1 : b < 9223372036854775808
  · omega
  · have : b % 9223372036854775808 = b - 9223372036854775808 := by omega
    by_cases h2 : b = 18442240474082181120
    · omega
    · right; left; exact ⟨b - 9223372036854775808, by omega, by omega⟩

theorem signed_scale (s : Bool) (m u c : Nat) : signed s m (u + c) = signed s m u * (2 ^ c : Nat) := by
  unfold signed
  simp only [Nat.shiftLeft_eq, Nat.pow_add]
  split <;> push_cast <;> simp [Int.neg_mul, Int.mul_assoc]

theorem compare_scale (x y : Int) (c : Nat) : compare (x * (2 ^ c : Nat)) (y * (2 ^ c : Nat)) = compare x y := by
  have hc : (0 : Int) < (2 ^ c : Nat) := by exact_mod_cast Nat.two_pow_pos c
  rw [Int.compare_eq_ite_lt, Int.compare_eq_ite_lt]
  have a : x * ((2 ^ c : Nat) : Int) < y * ((2 ^ c : Nat) : Int) ↔ x < y := Int.mul_lt_mul_right hc
  have b : y * ((2 ^ c : Nat) : Int) < x * ((2 ^ c : Nat) : Int) ↔ y < x := Int.mul_lt_mul_right hc
  simp only [a, b]

def sval (s : Bool) (r : Nat) : Int := if s then -(val r : Int) else (val r : Int)
theorem signed_val (s : Bool) (r : Nat) : signed s (mag r) (plc r) = sval s r := by
  unfold signed sval
  rw [val_eq, Nat.shiftLeft_eq]

theorem order_num (s t : Bool) (a b : Nat) :
    Datum.order (.number s (mag a) (-1074 + (plc a : Nat))) (.number t (mag b) (-1074 + (plc b : Nat))) = some (compare (sval s a) (sval t b)) := by
  unfold Datum.order
  simp only
  congr 1
  rw [← signed_val, ← signed_val]
  by_cases h : plc a ≤ plc b
  · have e1 : (-1074 + (plc a : Int) - min (-1074 + (plc a : Int)) (-1074 + (plc b : Int))).toNat = 0 := by omega
    have e2 : (-1074 + (plc b : Int) - min (-1074 + (plc a : Int)) (-1074 + (plc b : Int))).toNat = plc b - plc a := by omega
    rw [e1, e2, ← compare_scale _ _ (plc a), ← signed_scale, ← signed_scale]
    congr 2 <;> omega
  · have e1 : (-1074 + (plc a : Int) - min (-1074 + (plc a : Int)) (-1074 + (plc b : Int))).toNat = plc a - plc b := by omega
    have e2 : (-1074 + (plc b : Int) - min (-1074 + (plc a : Int)) (-1074 + (plc b : Int))).toNat = 0 := by omega
    rw [e1, e2, ← compare_scale _ _ (plc b), ← signed_scale, ← signed_scale]
    congr 2 <;> omega

theorem val_zero : val 0 = 0 := rfl
theorem val_inj {r s : Nat} (h : val r = val s) : r = s := by
  rcases Nat.lt_trichotomy r s with h1 | h1 | h1
  · have := val_lt h1; omega
  · exact h1
  · have := val_lt h1; omega
theorem val_lt_iff {r s : Nat} : val r < val s ↔ r < s := by
  constructor
  · intro h
    rcases Nat.lt_or_ge r s with h1 | h1
    · exact h1
    · have := val_le h1; omega
  · exact val_lt

theorem compare_sval (s t : Bool) (a b : Nat) : compare (sval s a) (sval t b) = compare (if s then -(a : Int) else (a : Int)) (if t then -(b : Int) else (b : Int)) := by
  have h1 := @val_lt_iff a b
  have h2 := @val_lt_iff b a
  have z1 : 0 < val a ↔ 0 < a := by rw [← val_zero]; exact val_lt_iff
  have z2 : 0 < val b ↔ 0 < b := by rw [← val_zero]; exact val_lt_iff
  rw [Int.compare_eq_ite_lt, Int.compare_eq_ite_lt]
  unfold sval
  have key : ∀ x y z u : Int, (x < y ↔ z < u) → (y < x ↔ u < z) → (if x < y then Ordering.lt else if y < x then Ordering.gt else Ordering.eq) = (if z < u then Ordering.lt else if u < z then Ordering.gt else Ordering.eq) := by
    intro x y z u g1 g2; simp only [g1, g2]
  apply key <;> cases s <;> cases t <;> simp only [if_true, if_false, Bool.false_eq_true] <;> omega

theorem key_pos {b : Nat} (h : b < 9223372036854775808) : key b = b := by unfold key; rw [if_pos h]
theorem key_neg (b : Nat) : key (b + 9223372036854775808) = -(b : Int) := by
  unfold key; rw [if_neg (by omega)]; omega

theorem order_eq {a b : Nat} (ha : a < 18446744073709551616) (hb : b < 18446744073709551616) (na : isNan a = false) (nb : isNan b = false) :
    double.order a b = some (compare (key a) (key b)) := by
  unfold Format.order
  have gt' : ∀ x y : Int, y < x → some (compare x y) = some Ordering.gt := by
    intro x y h; rw [Int.compare_eq_ite_lt, if_neg (by omega), if_pos h]
  have lt' : ∀ x y : Int, x < y → some (compare x y) = some Ordering.lt := by
    intro x y h; rw [Int.compare_eq_ite_lt, if_pos h]
  have eq' : ∀ x : Int, some (compare x x) = some Ordering.eq := by
    intro x; rw [Int.compare_eq_ite_lt, if_neg (by omega), if_neg (by omega)]
  have ki : key 9218868437227405312 = 9218868437227405312 := rfl
  have kn : key 18442240474082181120 = -9218868437227405312 := rfl
  rcases four ha na with h | ⟨c, h, rfl⟩ | rfl | rfl <;> rcases four hb nb with g | ⟨d, g, rfl⟩ | rfl | rfl
  all_goals try rw [read_pos_fin h]
  all_goals try rw [read_neg_fin h]
  all_goals try rw [read_pos_fin g]
  all_goals try rw [read_neg_fin g]
  all_goals try rw [read_inf]
  all_goals try rw [read_ninf]
  all_goals try rw [order_num, compare_sval]
  all_goals try rw [ki]
  all_goals try rw [kn]
  all_goals try rw [key_neg]
  all_goals try rw [key_neg]
  all_goals try rw [key_pos (by omega : a < 9223372036854775808)]
  all_goals try rw [key_pos (by omega : b < 9223372036854775808)]
  all_goals try rw [gt' _ _ (by omega)]
  all_goals try rw [lt' _ _ (by omega)]
  all_goals try rw [eq' _]
  all_goals rfl

theorem order_nan_left {a b : Nat} (na : isNan a = true) : double.order a b = none := by
  obtain ⟨s, f, h⟩ := read_nan na
  unfold Format.order; rw [h]; rfl
theorem order_nan_right {a b : Nat} (nb : isNan b = true) : double.order a b = none := by
  obtain ⟨s, f, h⟩ := read_nan nb
  unfold Format.order; rw [h]; cases double.read a <;> rfl

theorem compare_eq_gt (x y : Int) : (compare x y = .gt) ↔ y < x := by
  rw [Int.compare_eq_ite_lt]
  by_cases h : x < y
  · rw [if_pos h]; simp; omega
  · rw [if_neg h]
    by_cases g : y < x
    · rw [if_pos g]; simp [g]
    · rw [if_neg g]; simp; omega
theorem compare_eq_lt (x y : Int) : (compare x y = .lt) ↔ x < y := by
  rw [Int.compare_eq_ite_lt]
  by_cases h : x < y
  · rw [if_pos h]; simp [h]
  · rw [if_neg h]
    by_cases g : y < x
    · rw [if_pos g]; simp [h]
    · rw [if_neg g]; simp [h]
theorem compare_eq_eq (x y : Int) : (compare x y = .eq) ↔ x = y := by
  rw [Int.compare_eq_ite_lt]
  by_cases h : x < y
  · rw [if_pos h]; simp; omega
  · rw [if_neg h]
    by_cases g : y < x
    · rw [if_pos g]; simp; omega
    · rw [if_neg g]; simp; omega

/-- the tests of floats, by keys -/
def isLt (a b : Nat) : Bool := !isNan a && !isNan b && decide (key a < key b)
def isEq (a b : Nat) : Bool := !isNan a && !isNan b && decide (key a = key b)

theorem test_lt {a b : Nat} (ha : a < 18446744073709551616) (hb : b < 18446744073709551616) : (double.order a b == some .lt) = isLt a b := by
  unfold isLt
  cases na : isNan a
  · cases nb : isNan b
    · rw [order_eq ha hb na nb, Bool.eq_iff_iff]; simp [compare_eq_lt]
    · rw [order_nan_right nb]; rfl
  · rw [order_nan_left na]; rfl
theorem test_gt {a b : Nat} (ha : a < 18446744073709551616) (hb : b < 18446744073709551616) : (double.order a b == some .gt) = isLt b a := by
  unfold isLt
  cases na : isNan a
  · cases nb : isNan b
    · rw [order_eq ha hb na nb, Bool.eq_iff_iff]; simp [compare_eq_gt]
    · rw [order_nan_right nb]; rfl
  · rw [order_nan_left na]; cases isNan b <;> rfl
theorem test_eq {a b : Nat} (ha : a < 18446744073709551616) (hb : b < 18446744073709551616) : (double.order a b == some .eq) = isEq a b := by
  unfold isEq
  cases na : isNan a
  · cases nb : isNan b
    · rw [order_eq ha hb na nb, Bool.eq_iff_iff]; simp
    · rw [order_nan_right nb]; rfl
  · rw [order_nan_left na]; rfl
theorem test_self {a : Nat} (ha : a < 18446744073709551616) : (double.order a a != some .eq) = isNan a := by
  unfold bne; rw [test_eq ha ha]; unfold isEq; cases isNan a <;> simp

/-- the place of a word in floats' order -/
def place (b : Nat) : Nat := if isNan b then 18446744073709551615 else if 9223372036854775808 ≤ b then 18446744073709551615 - b else b + 9223372036854775808
theorem place_lt {b : Nat} (h : b < 18446744073709551616) : place b < 18446744073709551616 := by
  unfold place; split
  · omega
  · split <;> omega
/-- the order of two words -/
def cmpN (x y : Nat) : Int := if x < y then -1 else if y < x then 1 else 0
def ord (a b : Nat) : Int := cmpN (place a) (place b)
theorem ord_swap (a b : Nat) : ord b a = - ord a b := by
  unfold ord cmpN
  by_cases h : place a < place b <;> by_cases g : place b < place a <;> simp only [h, g, if_true, if_false] <;> omega
theorem ord_range (a b : Nat) : -1 ≤ ord a b ∧ ord a b ≤ 1 := by unfold ord cmpN; split <;> (try split) <;> omega

/-- the plain form; which words are delays -/
def plain (b : Nat) : Nat := if isNan b then 9221120237041090561 else if b = 9223372036854775808 then 0 else b
def dl (b : Nat) : Bool := !isNan b && decide (b ≤ 9223372036854775808)
theorem plain_lt {b : Nat} (h : b < 18446744073709551616) : plain b < 18446744073709551616 := by
  unfold plain; split
  · omega
  · split <;> omega
theorem nan0 : isNan 0 = false := rfl
theorem key0 : key 0 = 0 := rfl
theorem key_zero {b : Nat} (h : b < 18446744073709551616) : key b = 0 ↔ (b = 0 ∨ b = 9223372036854775808) := by
  unfold key; split <;> omega
theorem isEq0 {b : Nat} (h : b < 18446744073709551616) : isEq b 0 = (decide (b = 0) || decide (b = 9223372036854775808)) := by
  unfold isEq
  rw [nan0, key0, Bool.eq_iff_iff]
  simp only [Bool.and_eq_true, Bool.not_eq_true', Bool.not_false, Bool.or_eq_true, decide_eq_true_eq, key_zero h, and_true]
  constructor
  · exact fun g => g.2
  · intro g
    refine ⟨?_, g⟩
    rcases g with rfl | rfl <;> rfl
theorem isGe0 {b : Nat} (h : b < 18446744073709551616) : (isLt 0 b || isEq b 0) = dl b := by
  unfold dl
  cases hn : isNan b
  · rw [isEq0 h]
    unfold isLt
    rw [nan0, key0, hn, Bool.eq_iff_iff]
    unfold key
    simp only [Bool.and_eq_true, Bool.not_false, Bool.or_eq_true, decide_eq_true_eq, true_and]
    split <;> omega
  · unfold isLt isEq; rw [hn]; simp

/-- the document's rank -/
def rkp (b : Nat) : Bool := isNan b || decide (b < 9223372036854775808)
def rkm (b : Nat) : Nat := if isNan b then 18446744073709551615 else if 9223372036854775808 ≤ b then 9223372036854775807 - (b - 9223372036854775808) else b
theorem place_rk {b : Nat} (h : b < 18446744073709551616) : place b = if rkp b then (if isNan b then 18446744073709551615 else rkm b + 9223372036854775808) else rkm b := by
  unfold place rkp rkm
  cases hn : isNan b
  · by_cases hs : 9223372036854775808 ≤ b
    · have : ¬ b < 9223372036854775808 := by omega
      simp [hs, this]; omega
    · have : b < 9223372036854775808 := by omega
      simp [hs, this]
  · simp
theorem rkm_small {b : Nat} (h : b < 18446744073709551616) (hn : isNan b = false) : rkm b ≤ 9223372036854775807 ∧ (rkp b = true → rkm b ≤ 9218868437227405312) := by
  unfold rkm rkp
  rw [hn]
  unfold isNan at hn
  have := of_decide_eq_false hn
  simp only [Bool.false_eq_true, if_false, Bool.false_or, decide_eq_true_eq]
  split <;> omega
theorem rkm_nan {b : Nat} (hn : isNan b = true) : rkm b = 18446744073709551615 := by unfold rkm; rw [if_pos hn]
theorem rkp_nan {b : Nat} (hn : isNan b = true) : rkp b = true := by unfold rkp; rw [hn]; rfl

theorem ord_ft {a b : Nat} (ha : a < 18446744073709551616) (hb : b < 18446744073709551616) (h : rkp a = false) (g : rkp b = true) : ord a b = -1 := by
  have na : isNan a = false := by cases hn : isNan a; rfl; rw [rkp_nan hn] at h; cases h
  have := (rkm_small ha na).1
  unfold ord cmpN
  rw [place_rk ha, place_rk hb, h, g]
  simp only [Bool.false_eq_true, if_false, if_true]
  split
  · rw [if_pos (by omega)]
  · rw [if_pos (by omega)]
theorem ord_tf {a b : Nat} (ha : a < 18446744073709551616) (hb : b < 18446744073709551616) (h : rkp a = true) (g : rkp b = false) : ord a b = 1 := by
  rw [ord_swap b a, ord_ft hb ha g h]; rfl
theorem ord_same {a b : Nat} (ha : a < 18446744073709551616) (hb : b < 18446744073709551616) (h : rkp a = rkp b) : ord a b = cmpN (rkm a) (rkm b) := by
  unfold ord cmpN
  rw [place_rk ha, place_rk hb, h]
  cases hp : rkp b
  · simp
  · simp only [if_true]
    cases na : isNan a <;> cases nb : isNan b
    · simp only [Bool.false_eq_true, if_false]
      have e1 : (rkm a + 9223372036854775808 < rkm b + 9223372036854775808) ↔ rkm a < rkm b := by omega
      have e2 : (rkm b + 9223372036854775808 < rkm a + 9223372036854775808) ↔ rkm b < rkm a := by omega
      simp only [e1, e2]
    · have := (rkm_small ha na).2 (by rw [h, hp]); rw [rkm_nan nb]
      simp only [Bool.false_eq_true, if_false, if_true]
      rw [if_pos (by omega), if_pos (by omega)]
    · have := (rkm_small hb nb).2 hp; rw [rkm_nan na]
      simp only [Bool.false_eq_true, if_false, if_true]
      rw [if_neg (by omega), if_pos (by omega), if_neg (by omega), if_pos (by omega)]
    · rw [rkm_nan na, rkm_nan nb]; simp
end Go.Proofs.YtahdoniggipmmaaGreatDoor.Fl

namespace Go.Proofs.YtahdoniggipmmaaGreatDoor.Fl
open Ieee

theorem log2_mul_pow {m : Nat} (h : 0 < m) (k : Nat) : (m * 2 ^ k).log2 = m.log2 + k := by
  induction k with
  | zero => simp
  | succ k ih =>
    have hp : 0 < m * 2 ^ k := Nat.mul_pos h (Nat.two_pow_pos k)
    rw [show m * 2 ^ (k + 1) = 2 * (m * 2 ^ k) by rw [Nat.pow_succ]; ac_rfl, Nat.log2_two_mul (by omega), ih]; omega

theorem log2_of {m n : Nat} (h1 : 2 ^ n ≤ m) (h2 : m < 2 ^ (n + 1)) : m.log2 = n := by
  have h0 : m ≠ 0 := by have := Nat.two_pow_pos n; omega
  have a : n ≤ m.log2 := (Nat.le_log2 h0).2 h1
  have b : m.log2 < n + 1 := (Nat.log2_lt h0).2 h2
  omega

theorem cut_exact (neg : Bool) (m k : Nat) (hm : 0 < m) : Toward.even.cut neg (m * 2 ^ k) k = m := by
  unfold Toward.cut
  rw [log2_mul_pow hm]
  have e : min k (m.log2 + k + 2) = k := by omega
  have hp : 0 < 2 ^ k := Nat.two_pow_pos k
  simp only [e, Nat.shiftLeft_eq, Nat.one_mul, Nat.mul_div_cancel m hp, Nat.mul_mod_left]
  have : (decide (2 ^ k < 2 * 0) || (2 ^ k == 2 * 0 && m % 2 == 1)) = false := by
    simp
  rw [this]; rfl

theorem mag_pos {r : Nat} (h : 0 < r) : 0 < mag r := by unfold mag; split <;> omega
theorem plc_mag (r : Nat) : plc r * 4503599627370496 + mag r = r := by
  unfold plc mag
  split
  · omega
  · have : 1 ≤ r / 4503599627370496 := by omega
    rw [Nat.sub_mul]; omega

theorem wordF (r : Nat) : double.word false r = r := rfl

/-- an exact value's word is its rung; too great a one's is infinity's -/
theorem nearest_mag (r k : Nat) : double.nearest false (mag r * 2 ^ k) (-1074 + (plc r : Nat) - (k : Nat)) = min r 9218868437227405312 := by
  unfold Format.nearest
  rw [ir, lp, bi]
  by_cases h0 : r = 0
  · subst h0
    rw [if_pos (by simp [mag])]
    rfl
  · have hm := mag_pos (Nat.pos_of_ne_zero h0)
    have hp : 0 < 2 ^ k := Nat.two_pow_pos k
    rw [if_neg (by intro h; rcases Nat.mul_eq_zero.1 h with h | h <;> omega)]
    have hl := log2_mul_pow hm k
    have hlast : max (-1074 + (plc r : Int) - (k : Int) + ((mag r * 2 ^ k).log2 : Int) - (double.fractionBits : Int)) (-1074) = -1074 + (plc r : Int) := by
      rw [hl, show (double.fractionBits : Int) = 52 from rfl]
      by_cases hr : r < 4503599627370496
      · have : (mag r).log2 < 52 := (Nat.log2_lt (by omega)).2 (by unfold mag; rw [if_pos hr]; exact hr)
        have : plc r = 0 := by unfold plc; rw [if_pos hr]
        omega
      · have : (mag r).log2 = 52 := log2_of (by unfold mag; rw [if_neg hr]; omega) (by unfold mag; rw [if_neg hr]; omega)
        omega
    dsimp only
    rw [hlast]
    have e1 : (-1074 + (plc r : Int) - (k : Int) - (-1074 + (plc r : Int))).toNat = 0 := by omega
    have e2 : (-1074 + (plc r : Int) - (-1074 + (plc r : Int) - (k : Int))).toNat = k := by omega
    have e3 : (-1074 + (plc r : Int) - (-1074)).toNat = plc r := by omega
    rw [e1, e2, e3, Nat.shiftLeft_zero, cut_exact false _ _ hm, plc_mag, wordF]

/-- doubling, by rungs -/
def dblR (b : Nat) : Nat := if b < 4503599627370496 then 2 * b else min (b + 4503599627370496) 9218868437227405312

theorem mag_dbl_small {b : Nat} (h : b < 4503599627370496) : mag (2 * b) = 2 * b ∧ plc (2 * b) = 0 := by
  unfold mag plc
  by_cases g : 2 * b < 4503599627370496
  · rw [if_pos g, if_pos g]; omega
  · rw [if_neg g, if_neg g]; omega
theorem mag_dbl_great {b : Nat} (h : ¬ b < 4503599627370496) : mag (b + 4503599627370496) = mag b ∧ plc (b + 4503599627370496) = plc b + 1 := by
  unfold mag plc
  rw [if_neg h, if_neg h, if_neg (by omega), if_neg (by omega)]; omega

theorem read_two : double.read 4611686018427387904 = .number false 4503599627370496 (-51) := by kernel_rfl

theorem mul_two {b : Nat} (h : b ≤ 9218868437227405312) : double.mul b 4611686018427387904 = some (dblR b) := by
  unfold Format.mul
  rw [read_two]
  rcases Nat.lt_or_eq_of_le h with h1 | h1
  · rw [read_pos_fin h1]
    simp only [Datum.product, Option.map_some, Format.write]
    congr 1
    unfold dblR
    rw [show (false ^^ false) = false from rfl]
    by_cases hs : b < 4503599627370496
    · rw [if_pos hs]
      obtain ⟨e1, e2⟩ := mag_dbl_small hs
      have hm : mag b = b := by unfold mag; rw [if_pos hs]
      have hp : plc b = 0 := by unfold plc; rw [if_pos hs]
      have := nearest_mag (2 * b) 51
      rw [e1, e2] at this
      rw [hm, hp]
      rw [show b * 4503599627370496 = 2 * b * 2 ^ 51 by omega, show (-1074 + ((0 : Nat) : Int) + -51) = (-1074 + ((0 : Nat) : Int) - ((51 : Nat) : Int)) by omega, this]
      omega
    · rw [if_neg hs]
      obtain ⟨e1, e2⟩ := mag_dbl_great hs
      have := nearest_mag (b + 4503599627370496) 52
      rw [e1, e2] at this
      rw [← this, show mag b * 4503599627370496 = mag b * 2 ^ 52 by omega, show (-1074 + (plc b : Int) + -51) = (-1074 + ((plc b + 1 : Nat) : Int) - ((52 : Nat) : Int)) by omega]
  · subst h1
    rw [read_inf]; kernel_rfl

theorem add_self {b : Nat} (h : b ≤ 9218868437227405312) : double.add b b = some (dblR b) := by
  unfold Format.add
  rcases Nat.lt_or_eq_of_le h with h1 | h1
  · rw [read_pos_fin h1]
    simp only [Datum.sum, Option.map_some, Format.write]
    congr 1
    have e0 : min (-1074 + (plc b : Int)) (-1074 + (plc b : Int)) = -1074 + (plc b : Int) := by omega
    rw [e0, Int.sub_self, Int.toNat_zero]
    have e1 : signed false (mag b) 0 + signed false (mag b) 0 = ((2 * mag b : Nat) : Int) := by unfold signed; simp; omega
    rw [e1, Int.natAbs_natCast]
    have e2 : (if ((2 * mag b : Nat) : Int) = 0 then (false && false) else decide (((2 * mag b : Nat) : Int) < 0)) = false := by
      split
      · rfl
      · simp; omega
    rw [e2]
    unfold dblR
    by_cases hs : b < 4503599627370496
    · rw [if_pos hs]
      obtain ⟨e3, e4⟩ := mag_dbl_small hs
      have hm : mag b = b := by unfold mag; rw [if_pos hs]
      have hp : plc b = 0 := by unfold plc; rw [if_pos hs]
      have := nearest_mag (2 * b) 0
      rw [e3, e4] at this
      rw [hm, hp]
      rw [Nat.pow_zero, Nat.mul_one, show (-1074 + ((0 : Nat) : Int) - ((0 : Nat) : Int)) = (-1074 + ((0 : Nat) : Int)) by omega] at this
      rw [this]
      omega
    · rw [if_neg hs]
      obtain ⟨e3, e4⟩ := mag_dbl_great hs
      have := nearest_mag (b + 4503599627370496) 1
      rw [e3, e4] at this
      rw [← this, show 2 * mag b = mag b * 2 ^ 1 by omega, show (-1074 + (plc b : Int)) = (-1074 + ((plc b + 1 : Nat) : Int) - ((1 : Nat) : Int)) by omega]
  · subst h1
    rw [read_inf]; kernel_rfl

theorem dblR_le {b : Nat} (h : b ≤ 9218868437227405312) : dblR b ≤ 9218868437227405312 := by unfold dblR; split <;> omega
theorem le_dblR {b : Nat} (h : b ≤ 9218868437227405312) : b ≤ dblR b := by unfold dblR; split <;> omega

/-- doubled n times -/
def dbls : Nat → Nat → Nat
  | 0, b => b
  | n + 1, b => dblR (dbls n b)
theorem dbls_succ (n b : Nat) : dbls (n + 1) b = dblR (dbls n b) := rfl
theorem dbls_le {b : Nat} (h : b ≤ 9218868437227405312) (n : Nat) : dbls n b ≤ 9218868437227405312 := by
  induction n with
  | zero => exact h
  | succ n ih => exact dblR_le ih
theorem dbls_mono {b : Nat} (h : b ≤ 9218868437227405312) {n m : Nat} (hnm : n ≤ m) : dbls n b ≤ dbls m b := by
  induction hnm with
  | refl => exact Nat.le_refl _
  | step _ ih => exact Nat.le_trans ih (le_dblR (dbls_le h _))
theorem dbls_zero (n : Nat) : dbls n 0 = 0 := by
  induction n with
  | zero => rfl
  | succ n ih => show dblR (dbls n 0) = 0; rw [ih]; rfl
theorem dbls_from {b : Nat} {n m : Nat} (hnm : n ≤ m) (h : dbls n b = 0) : dbls m b = 0 := by
  induction hnm with
  | refl => exact h
  | step _ ih => show dblR (dbls _ b) = 0; rw [ih]; rfl
theorem dbls_pow {b : Nat} (hb : 1 ≤ b) (n : Nat) (hn : n ≤ 52) : 2 ^ n ≤ dbls n b := by
  induction n with
  | zero => exact hb
  | succ n ih =>
    have ih := ih (by omega)
    have h52 : 2 ^ (n + 1) ≤ 2 ^ 52 := Nat.pow_le_pow_right (by omega) hn
    show 2 ^ (n + 1) ≤ dblR (dbls n b)
    unfold dblR
    split
    · rw [Nat.pow_succ]; omega
    · omega
theorem far_step {x y t u : Nat} (hu : u = t + 4503599627370496) (ih : min t 9218868437227405312 ≤ x) (ht : 4503599627370496 ≤ t)
    (h2 : min (x + 4503599627370496) 9218868437227405312 ≤ y ∨ x < 4503599627370496) : min u 9218868437227405312 ≤ y := by
  subst hu
  by_cases h : t ≤ 9218868437227405312
  · rw [Nat.min_eq_left h] at ih
    omega
  · rw [Nat.min_eq_right (by omega)] at ih
    omega
theorem dbls_far {b : Nat} (hb : 1 ≤ b) (n : Nat) : ∀ m, m = n + 52 → min ((n + 1) * 4503599627370496) 9218868437227405312 ≤ dbls m b := by
  induction n with
  | zero =>
    intro m hm
    have := dbls_pow hb m (by omega)
    have e : 2 ^ m = 4503599627370496 := by rw [show m = 52 by omega]
    rw [e] at this
    rw [Nat.zero_add, Nat.one_mul]
    exact Nat.le_trans (Nat.min_le_left _ _) this
  | succ n ih =>
    intro m hm
    obtain ⟨k, rfl⟩ : ∃ k, m = k + 1 := ⟨m - 1, by omega⟩
    have ih := ih k (by omega)
    rw [dbls_succ]
    refine far_step (Nat.succ_mul _ _) ih ?_ ?_
    · exact Nat.le_mul_of_pos_left _ (Nat.succ_pos n)
    · unfold dblR
      by_cases g : dbls k b < 4503599627370496
      · exact Or.inr g
      · rw [if_neg g]; exact Or.inl (Nat.le_refl _)
theorem dbls_end {b : Nat} (hb : 1 ≤ b) (h : b ≤ 9218868437227405312) {n : Nat} (hn : 2200 ≤ n) : dbls n b = 9218868437227405312 := by
  have h1 := dbls_far hb 2148 2200 (by omega)
  have h2 := dbls_mono h hn
  have h3 := dbls_le h n
  have e : min ((2148 + 1) * 4503599627370496) 9218868437227405312 = 9218868437227405312 := by omega
  rw [e] at h1
  omega
theorem dbls_cap {b : Nat} (h : b ≤ 9218868437227405312) (n : Nat) : dbls n b = dbls (min n 2200) b := by
  by_cases hn : n ≤ 2200
  · rw [Nat.min_eq_left hn]
  · rw [Nat.min_eq_right (by omega)]
    by_cases hb : b = 0
    · subst hb; rw [dbls_zero, dbls_zero]
    · rw [dbls_end (by omega) h (by omega), dbls_end (by omega) h (by omega)]

/-- a delay's plain form is a rung up to infinity's -/
theorem dl_plain {b : Nat} (h : dl b = true) : plain b ≤ 9218868437227405312 ∧ (b ≤ 9218868437227405312 ∨ b = 9223372036854775808) := by
  unfold dl at h
  simp only [Bool.and_eq_true, Bool.not_eq_true', decide_eq_true_eq] at h
  obtain ⟨hn, hb⟩ := h
  unfold plain
  rw [hn]
  unfold isNan at hn
  have hn := of_decide_eq_false hn
  simp only [Bool.false_eq_true, if_false]
  split <;> omega
theorem dl_of_le {b : Nat} (h : b ≤ 9218868437227405312) : dl b = true ∧ isNan b = false ∧ plain b = b := by
  have hn : isNan b = false := by unfold isNan; exact decide_eq_false (by omega)
  refine ⟨?_, hn, ?_⟩
  · unfold dl; rw [hn]; simp; omega
  · unfold plain; rw [hn]; simp; omega
theorem ord_of_le {a b : Nat} (h : a ≤ 9218868437227405312) (g : b ≤ 9218868437227405312) : ord a b = cmpN a b := by
  obtain ⟨_, ha, _⟩ := dl_of_le h
  obtain ⟨_, hb, _⟩ := dl_of_le g
  unfold ord place cmpN
  rw [ha, hb]
  simp only [Bool.false_eq_true, if_false]
  rw [if_neg (show ¬ 9223372036854775808 ≤ a by omega), if_neg (show ¬ 9223372036854775808 ≤ b by omega)]
  have e1 : (a + 9223372036854775808 < b + 9223372036854775808) ↔ a < b := by omega
  have e2 : (b + 9223372036854775808 < a + 9223372036854775808) ↔ b < a := by omega
  simp only [e1, e2]

/-- among delays the key is the plain form -/
theorem dl_key {b : Nat} (h : dl b = true) : key b = (plain b : Int) ∧ isNan b = false := by
  have hn : isNan b = false := by unfold dl at h; simp only [Bool.and_eq_true, Bool.not_eq_true'] at h; exact h.1
  refine ⟨?_, hn⟩
  rcases (dl_plain h).2 with g | rfl
  · rw [(dl_of_le g).2.2, key_pos (by omega)]
  · rfl
theorem dl_lt {b : Nat} (h : dl b = true) : b < 18446744073709551616 := by rcases (dl_plain h).2 with g | g <;> omega

/-- the lesser of two, as the builtin min has it -/
def mn2 (a b : Nat) : Nat := if key a < key b then a else if key b < key a then b else if 9223372036854775808 ≤ a then a else b
theorem mn2_plain {a b : Nat} (ha : dl a = true) (hb : dl b = true) : plain (mn2 a b) = min (plain a) (plain b) ∧ dl (mn2 a b) = true := by
  obtain ⟨ka, _⟩ := dl_key ha
  obtain ⟨kb, _⟩ := dl_key hb
  unfold mn2
  rw [ka, kb]
  by_cases h1 : (plain a : Int) < (plain b : Int)
  · rw [if_pos h1]; exact ⟨by omega, ha⟩
  · rw [if_neg h1]
    by_cases h2 : (plain b : Int) < (plain a : Int)
    · rw [if_pos h2]; exact ⟨by omega, hb⟩
    · rw [if_neg h2]
      split
      · exact ⟨by omega, ha⟩
      · exact ⟨by omega, hb⟩
/-- the tests of two delays -/
theorem dl_isLt {a b : Nat} (ha : dl a = true) (hb : dl b = true) : isLt a b = decide (plain a < plain b) := by
  unfold isLt; rw [(dl_key ha).1, (dl_key ha).2, (dl_key hb).1, (dl_key hb).2, Bool.eq_iff_iff]; simp
theorem dl_isEq {a b : Nat} (ha : dl a = true) (hb : dl b = true) : isEq a b = decide (plain a = plain b) := by
  unfold isEq; rw [(dl_key ha).1, (dl_key ha).2, (dl_key hb).1, (dl_key hb).2, Bool.eq_iff_iff]; simp; omega

/-- the walk's invariant: x has been doubled k times -/
def Inv (a k x : Nat) : Prop := dl x = true ∧ plain x = dbls k (plain a)
theorem inv_start {a : Nat} (h : dl a = true) : Inv a 0 a := ⟨h, rfl⟩
theorem inv_step {a k x : Nat} (h : Inv a k x) (hz : plain x ≠ 0) : x ≤ 9218868437227405312 ∧ Inv a (k + 1) (dblR x) := by
  obtain ⟨hd, hp⟩ := h
  rcases (dl_plain hd).2 with g | g
  · obtain ⟨_, _, e⟩ := dl_of_le g
    obtain ⟨d1, _, e1⟩ := dl_of_le (dblR_le g)
    refine ⟨g, d1, ?_⟩
    rw [e1, dbls_succ, ← hp, e]
  · exact absurd (by rw [g]; rfl) hz
/-- a delay doubled, the most at most -/
def backR (base times most : Nat) : Nat := min (dbls times (plain base)) (plain most)
theorem back_end {a n m x : Nat} (h : Inv a n x) (hm : dl m = true) : plain (mn2 x m) = backR a n m := by
  rw [(mn2_plain h.1 hm).1, h.2]; rfl
theorem back_zero {a k n m x : Nat} (h : Inv a k x) (hk : k ≤ n) (hm : dl m = true) (hz : plain x = 0) : plain (mn2 x m) = backR a n m := by
  rw [(mn2_plain h.1 hm).1, hz]
  unfold backR
  rw [dbls_from hk (h.2 ▸ hz)]
theorem back_most {a k n m x : Nat} (ha : dl a = true) (h : Inv a k x) (hk : k ≤ n) (hm : dl m = true) (hz : plain m ≤ plain x) : plain (mn2 x m) = backR a n m := by
  rw [(mn2_plain h.1 hm).1]
  unfold backR
  have := dbls_mono (dl_plain ha).1 hk
  rw [← h.2] at this
  omega

theorem ord_self (a : Nat) : ord a a = 0 := by unfold ord cmpN; rw [if_neg (by omega), if_neg (by omega)]
theorem cmpN_spec (x y : Nat) : (cmpN x y = -1 ∧ x < y) ∨ (cmpN x y = 1 ∧ y < x) ∨ (cmpN x y = 0 ∧ x = y) := by
  unfold cmpN
  by_cases h : x < y
  · left; rw [if_pos h]; exact ⟨rfl, h⟩
  · rw [if_neg h]
    by_cases g : y < x
    · right; left; rw [if_pos g]; exact ⟨rfl, g⟩
    · right; right; rw [if_neg g]; exact ⟨rfl, by omega⟩
theorem ord_trans (a b c : Nat) (h1 : ord a b ≤ 0) (h2 : ord b c ≤ 0) : ord a c = min (ord a b) (ord b c) := by
  unfold ord at *
  have x := cmpN_spec (place a) (place b)
  have y := cmpN_spec (place b) (place c)
  have z := cmpN_spec (place a) (place c)
  omega
theorem lt_ord {a b : Nat} (ha : a < 18446744073709551616) (hb : b < 18446744073709551616) (h : isLt a b = true) : ord a b = -1 := by
  unfold isLt at h
  simp only [Bool.and_eq_true, Bool.not_eq_true', decide_eq_true_eq] at h
  obtain ⟨⟨na, nb⟩, hk⟩ := h
  unfold ord cmpN place
  rw [na, nb]
  simp only [Bool.false_eq_true, if_false]
  unfold key at hk
  rw [if_pos]
  split at hk <;> split at hk <;> split <;> split <;> omega
theorem ord_zero (a b : Nat) : ord a b = 0 ↔ place a = place b := by
  unfold ord cmpN
  constructor
  · intro h
    by_cases g : place a < place b
    · rw [if_pos g] at h; omega
    · rw [if_neg g] at h
      by_cases g2 : place b < place a
      · rw [if_pos g2] at h; omega
      · omega
  · intro h; rw [h, if_neg (by omega), if_neg (by omega)]
theorem place_inj {a b : Nat} (ha : a < 18446744073709551616) (hb : b < 18446744073709551616) (h : place a = place b) : (isNan a = true ∧ isNan b = true) ∨ a = b := by
  unfold place at h
  cases na : isNan a <;> cases nb : isNan b
  · right
    rw [na, nb] at h
    simp only [Bool.false_eq_true, if_false] at h
    split at h <;> split at h <;> omega
  · exfalso
    rw [na, nb] at h
    unfold isNan at na
    have na := of_decide_eq_false na
    simp only [Bool.false_eq_true, if_false, if_true] at h
    split at h <;> omega
  · exfalso
    rw [na, nb] at h
    unfold isNan at nb
    have nb := of_decide_eq_false nb
    simp only [Bool.false_eq_true, if_false, if_true] at h
    split at h <;> omega
  · left; exact ⟨rfl, rfl⟩
/-- of two that aren't both zeros: the order tells them apart just as their plain forms do -/
theorem ord_plain {a b : Nat} (ha : a < 18446744073709551616) (hb : b < 18446744073709551616) (hz : isEq a 0 = false ∨ isEq b 0 = false) : ord a b = 0 ↔ plain a = plain b := by
  rw [ord_zero a b]
  have nz : ∀ c, c < 18446744073709551616 → isEq c 0 = false → c ≠ 0 ∧ c ≠ 9223372036854775808 := by
    intro c hc h
    rw [isEq0 hc] at h
    simpa using h
  constructor
  · intro h
    rcases place_inj ha hb h with ⟨na, nb⟩ | rfl
    · unfold plain; rw [na, nb, if_pos rfl, if_pos rfl]
    · rfl
  · intro h
    unfold plain at h
    cases na : isNan a <;> cases nb : isNan b
    · rw [na, nb] at h
      simp only [Bool.false_eq_true, if_false] at h
      have : a = b := by
        rcases hz with g | g
        · have := nz a ha g; split at h <;> (try split at h) <;> omega
        · have := nz b hb g; split at h <;> (try split at h) <;> omega
      rw [this]
    · exfalso
      rw [na, nb] at h
      unfold isNan at na
      have na := of_decide_eq_false na
      simp only [Bool.false_eq_true, if_false, if_true] at h
      split at h <;> omega
    · exfalso
      rw [na, nb] at h
      unfold isNan at nb
      have nb := of_decide_eq_false nb
      simp only [Bool.false_eq_true, if_false, if_true] at h
      split at h <;> omega
    · unfold place; rw [na, nb, if_pos rfl, if_pos rfl]
end Go.Proofs.YtahdoniggipmmaaGreatDoor.Fl

namespace Go.Proofs.YtahdoniggipmmaaGreatDoor.Fl
open Ieee

/-- what is rounded is not below a word that is not above it -/
theorem cut_ge (neg : Bool) (n drop : Nat) (_hn : 0 < n) (hd : drop ≤ n.log2 + 2) : n / 2 ^ drop ≤ Toward.even.cut neg n drop := by
  unfold Toward.cut
  have e : min drop (n.log2 + 2) = drop := by omega
  simp only [e, Nat.shiftLeft_eq, Nat.one_mul]
  omega
theorem nearest_ge {N r p : Nat} (hN : 0 < N) (hr : r ≤ 9218868437227405312) (h : val r ≤ N * 2 ^ p) : r ≤ double.nearest false N (-1074 + (p : Nat)) := by
  unfold Format.nearest
  rw [ir, lp, bi, if_neg (by omega)]
  dsimp only
  rw [show (double.fractionBits : Int) = 52 from rfl, wordF]
  have hl0 : 2 ^ N.log2 ≤ N := Nat.log2_self_le (by omega)
  have hl1 : N < 2 ^ (N.log2 + 1) := Nat.lt_log2_self
  refine Nat.le_min.2 ⟨?_, hr⟩
  by_cases hsmall : p + N.log2 ≤ 52
  · have e : max (-1074 + (p : Int) + (N.log2 : Int) - 52) (-1074) = -1074 := by omega
    rw [e]
    have e1 : (-1074 + (p : Int) - -1074).toNat = p := by omega
    have e2 : (-1074 - (-1074 + (p : Int))).toNat = 0 := by omega
    have e3 : ((-1074 : Int) - -1074).toNat = 0 := by omega
    rw [e1, e2, e3, Nat.zero_mul, Nat.zero_add]
    have hpos : 0 < N <<< p := by rw [Nat.shiftLeft_eq]; exact Nat.mul_pos hN (Nat.two_pow_pos p)
    have hc := cut_ge false (N <<< p) 0 hpos (by omega)
    rw [Nat.pow_zero, Nat.div_one] at hc
    refine Nat.le_trans ?_ hc
    rw [Nat.shiftLeft_eq]
    refine Nat.le_trans ?_ h
    have : mag r * 1 ≤ mag r * 2 ^ plc r := Nat.mul_le_mul_left _ Nat.one_le_two_pow
    -- a rung of more than one binade is above 2^53
    have hup : N * 2 ^ p < 2 ^ 53 := by
      calc N * 2 ^ p < 2 ^ (N.log2 + 1) * 2 ^ p := Nat.mul_lt_mul_of_pos_right hl1 (Nat.two_pow_pos p)
        _ = 2 ^ (N.log2 + 1 + p) := (Nat.pow_add _ _ _).symm
        _ ≤ 2 ^ 53 := Nat.pow_le_pow_right (by omega) (by omega)
    have hv := val_eq r
    have hpl : plc r = 0 := by
      by_cases g : plc r = 0
      · exact g
      · exfalso
        have hm : 4503599627370496 ≤ mag r := by
          unfold plc at g; unfold mag
          by_cases g2 : r < 4503599627370496
          · rw [if_pos g2] at g; omega
          · rw [if_neg g2]; omega
        have : 2 ^ 1 ≤ 2 ^ plc r := Nat.pow_le_pow_right (by omega) (by omega)
        have : 4503599627370496 * 2 ^ 1 ≤ mag r * 2 ^ plc r := Nat.mul_le_mul hm this
        omega
    have hpm := plc_mag r
    rw [hpl] at hpm hv
    rw [hv, Nat.pow_zero, Nat.mul_one]
    omega
  · obtain ⟨e, he⟩ : ∃ e, p + N.log2 = 52 + e := ⟨p + N.log2 - 52, by omega⟩
    have hlast : max (-1074 + (p : Int) + (N.log2 : Int) - 52) (-1074) = -1074 + (e : Int) := by omega
    rw [hlast]
    have e3 : ((-1074 + (e : Int)) - -1074).toNat = e := by omega
    rw [e3]
    -- the kept digits are at least the whole quotient
    have hkey : N * 2 ^ p / 2 ^ e ≤ Toward.even.cut false (N <<< (-1074 + (p : Int) - (-1074 + (e : Int))).toNat) (-1074 + (e : Int) - (-1074 + (p : Int))).toNat := by
      by_cases hpe : e ≤ p
      · have a1 : (-1074 + (p : Int) - (-1074 + (e : Int))).toNat = p - e := by omega
        have a2 : (-1074 + (e : Int) - (-1074 + (p : Int))).toNat = 0 := by omega
        rw [a1, a2]
        have hpos : 0 < N <<< (p - e) := by rw [Nat.shiftLeft_eq]; exact Nat.mul_pos hN (Nat.two_pow_pos _)
        have hc := cut_ge false (N <<< (p - e)) 0 hpos (by omega)
        rw [Nat.pow_zero, Nat.div_one] at hc
        refine Nat.le_trans (Nat.le_of_eq ?_) hc
        rw [Nat.shiftLeft_eq, show 2 ^ p = 2 ^ (p - e) * 2 ^ e by rw [← Nat.pow_add]; congr 1; omega, ← Nat.mul_assoc, Nat.mul_div_cancel _ (Nat.two_pow_pos e)]
      · have a1 : (-1074 + (p : Int) - (-1074 + (e : Int))).toNat = 0 := by omega
        have a2 : (-1074 + (e : Int) - (-1074 + (p : Int))).toNat = e - p := by omega
        rw [a1, a2, Nat.shiftLeft_zero]
        refine Nat.le_trans (Nat.le_of_eq ?_) (cut_ge false N (e - p) hN (by omega))
        rw [show 2 ^ e = 2 ^ (e - p) * 2 ^ p by rw [← Nat.pow_add]; congr 1; omega, Nat.mul_div_mul_right _ _ (Nat.two_pow_pos p)]
    refine Nat.le_trans ?_ (Nat.add_le_add_left hkey _)
    have h52 : (2 : Nat) ^ 52 = 4503599627370496 := by rfl
    -- the quotient has a digit at place 52
    have hq : 4503599627370496 ≤ N * 2 ^ p / 2 ^ e := by
      rw [Nat.le_div_iff_mul_le (Nat.two_pow_pos e), ← h52, ← Nat.pow_add, ← he, Nat.add_comm, Nat.pow_add]
      exact Nat.mul_le_mul_right _ hl0
    have hpm := plc_mag r
    by_cases hc : plc r < e
    · have hm : mag r < 9007199254740992 := by unfold mag; split <;> omega
      have : plc r * 4503599627370496 + 4503599627370496 ≤ e * 4503599627370496 := by
        rw [← Nat.succ_mul]; exact Nat.mul_le_mul_right _ hc
      omega
    · have hge : e ≤ plc r := by omega
      have hv := val_eq r
      have hup : N * 2 ^ p < 2 ^ (53 + e) := by
        calc N * 2 ^ p < 2 ^ (N.log2 + 1) * 2 ^ p := Nat.mul_lt_mul_of_pos_right hl1 (Nat.two_pow_pos p)
          _ = 2 ^ (N.log2 + 1 + p) := (Nat.pow_add _ _ _).symm
          _ = 2 ^ (53 + e) := by congr 1; omega
      have heq : plc r = e := by
        by_cases g : plc r = e
        · exact g
        · exfalso
          have hp1 : 0 < plc r := by omega
          have hm : 4503599627370496 ≤ mag r := by
            unfold plc at hp1; unfold mag
            by_cases g2 : r < 4503599627370496
            · rw [if_pos g2] at hp1; omega
            · rw [if_neg g2]; omega
          have h1 : 2 ^ (e + 1) ≤ 2 ^ plc r := Nat.pow_le_pow_right (by omega) (by omega)
          have h2 : 4503599627370496 * 2 ^ (e + 1) ≤ mag r * 2 ^ plc r := Nat.mul_le_mul hm h1
          rw [← h52, ← Nat.pow_add, show 52 + (e + 1) = 53 + e by omega] at h2
          omega
      have : mag r ≤ N * 2 ^ p / 2 ^ e := by
        rw [Nat.le_div_iff_mul_le (Nat.two_pow_pos e), ← heq, ← hv]; exact h
      rw [← hpm, heq]
      omega

/-- the sum of two rungs -/
def addR (a b : Nat) : Nat := (double.add a b).getD 0
theorem sum_fin {a b : Nat} (ha : a < 9218868437227405312) (hb : b < 9218868437227405312) :
    ∃ N p : Nat, double.add a b = some (double.nearest false N (-1074 + (p : Nat))) ∧ val a + val b = N * 2 ^ p := by
  unfold Format.add
  rw [read_pos_fin ha, read_pos_fin hb]
  simp only [Datum.sum, Option.map_some, Format.write]
  have e0 : min (-1074 + (plc a : Int)) (-1074 + (plc b : Int)) = -1074 + ((min (plc a) (plc b) : Nat) : Int) := by omega
  rw [e0]
  have e1 : (-1074 + (plc a : Int) - (-1074 + ((min (plc a) (plc b) : Nat) : Int))).toNat = plc a - min (plc a) (plc b) := by omega
  have e2 : (-1074 + (plc b : Int) - (-1074 + ((min (plc a) (plc b) : Nat) : Int))).toNat = plc b - min (plc a) (plc b) := by omega
  rw [e1, e2]
  have e3 : signed false (mag a) (plc a - min (plc a) (plc b)) + signed false (mag b) (plc b - min (plc a) (plc b)) =
      ((mag a * 2 ^ (plc a - min (plc a) (plc b)) + mag b * 2 ^ (plc b - min (plc a) (plc b)) : Nat) : Int) := by
    unfold signed; simp [Nat.shiftLeft_eq]
  rw [e3, Int.natAbs_natCast]
  refine ⟨mag a * 2 ^ (plc a - min (plc a) (plc b)) + mag b * 2 ^ (plc b - min (plc a) (plc b)), min (plc a) (plc b), ?_, ?_⟩
  · congr 2
    split
    · rfl
    · exact decide_eq_false (Int.not_lt.2 (Int.natCast_nonneg _))
  · rw [val_eq, val_eq, Nat.add_mul, Nat.mul_assoc, Nat.mul_assoc, ← Nat.pow_add, ← Nat.pow_add]
    congr 3 <;> omega
theorem nearest_le_inf (N : Nat) (p : Int) : double.nearest false N p ≤ 9218868437227405312 := by
  unfold Format.nearest
  rw [ir]
  dsimp only
  split
  · rw [wordF]; omega
  · rw [wordF]; exact Nat.min_le_right _ _

/-- A SUM OF TWO DELAYS: there is one; it is a delay; none of both is above it. -/
theorem add_delay {a b : Nat} (ha : dl a = true) (hb : dl b = true) : ∃ r, double.add a b = some r ∧ dl r = true ∧ plain a ≤ plain r ∧ plain b ≤ plain r := by
  have key : ∀ a b : Nat, a ≤ 9218868437227405312 → b ≤ 9218868437227405312 → ∃ r, double.add a b = some r ∧ r ≤ 9218868437227405312 ∧ a ≤ r ∧ b ≤ r := by
    intro a b ha hb
    rcases Nat.lt_or_eq_of_le ha with ga | rfl
    · rcases Nat.lt_or_eq_of_le hb with gb | rfl
      · obtain ⟨N, p, h1, h2⟩ := sum_fin ga gb
        refine ⟨_, h1, nearest_le_inf _ _, ?_⟩
        by_cases hN : N = 0
        · subst hN
          have z1 : val a = 0 := by omega
          have z2 : val b = 0 := by omega
          have a0 : a = 0 := val_inj (z1.trans val_zero.symm)
          have b0 : b = 0 := val_inj (z2.trans val_zero.symm)
          omega
        · exact ⟨nearest_ge (by omega) ha (by omega), nearest_ge (by omega) hb (by omega)⟩
      · refine ⟨9218868437227405312, ?_, Nat.le_refl _, ha, Nat.le_refl _⟩
        unfold Format.add
        rw [read_pos_fin ga, read_inf]; kernel_rfl
    · refine ⟨9218868437227405312, ?_, Nat.le_refl _, Nat.le_refl _, hb⟩
      unfold Format.add
      rcases Nat.lt_or_eq_of_le hb with gb | rfl
      · rw [read_pos_fin gb, read_inf]; kernel_rfl
      · rw [read_inf]; kernel_rfl
  have fin : ∀ a b : Nat, a ≤ 9218868437227405312 → b ≤ 9218868437227405312 → ∃ r, double.add a b = some r ∧ dl r = true ∧ plain a ≤ plain r ∧ plain b ≤ plain r := by
    intro a b ha hb
    obtain ⟨r, h1, h2, h3, h4⟩ := key a b ha hb
    rw [(dl_of_le ha).2.2, (dl_of_le hb).2.2]
    exact ⟨r, h1, (dl_of_le h2).1, by rw [(dl_of_le h2).2.2]; exact h3, by rw [(dl_of_le h2).2.2]; exact h4⟩
  have nz : double.read 9223372036854775808 = .number true 0 (-1074) := by kernel_rfl
  -- minus zero and a number: the number's value
  have zl : ∀ b : Nat, b < 9218868437227405312 → double.add 9223372036854775808 b = double.add 0 b ∧ double.add b 9223372036854775808 = double.add b 0 := by
    intro b hb
    unfold Format.add
    rw [nz, read_pos_fin hb, show double.read 0 = .number false 0 (-1074) by kernel_rfl]
    constructor <;> simp [Datum.sum, signed]
  rcases (dl_plain ha).2 with ga | rfl <;> rcases (dl_plain hb).2 with gb | rfl
  · exact fin a b ga gb
  · rcases Nat.lt_or_eq_of_le ga with g | rfl
    · rw [(zl a g).2]; exact fin a 0 ga (by omega)
    · exact ⟨9218868437227405312, by kernel_rfl, by kernel_rfl, by decide +kernel, by decide +kernel⟩
  · rcases Nat.lt_or_eq_of_le gb with g | rfl
    · rw [(zl b g).1]; exact fin 0 b (by omega) gb
    · exact ⟨9218868437227405312, by kernel_rfl, by kernel_rfl, by decide +kernel, by decide +kernel⟩
  · exact ⟨9223372036854775808, by kernel_rfl, by kernel_rfl, by decide +kernel, by decide +kernel⟩
theorem add_comm (a b : Nat) : double.add a b = double.add b a := by
  unfold Format.add
  congr 1
  unfold Datum.sum
  cases double.read a <;> cases double.read b <;> simp only
  · rename_i s m i t n j
    rw [Int.min_comm i j, Int.add_comm, Bool.and_comm]
  · rename_i s t
    by_cases h : s = t
    · subst h; rfl
    · rw [if_neg h, if_neg (fun e => h e.symm)]
end Go.Proofs.YtahdoniggipmmaaGreatDoor.Fl

namespace Go.Proofs.YtahdoniggipmmaaGreatDoor
open Go.RowKit

theorem ext_bits (b : Nat) (w : World) : (callFunc 30 #[.float .f64 b]).run Tryz.prog w = .ok (.value (.int .u64 b)) w := by
  rw [run_callFunc_extern (e := Extern.MathFloatBits.float64bits) Tryz.func30 (by kernel_rfl) (by kernel_rfl) (by kernel_rfl) (by kernel_rfl)]
  rfl
theorem ext_from (b : Nat) (w : World) : (callFunc 83 #[.int .u64 b]).run Tryz.prog w = .ok (.value (.float .f64 b)) w := by
  rw [run_callFunc_extern (e := Extern.MathFloatBits.float64frombits) Tryz.func83 (by kernel_rfl) (by kernel_rfl) (by kernel_rfl) (by kernel_rfl)]
  rfl

theorem and63 {b : Nat} (hb : b < 18446744073709551616) : bits .and .u64 (b : Int) 9223372036854775808 = ((b / 9223372036854775808 * 9223372036854775808 : Nat) : Int) := by
  rw [show (9223372036854775808 : Int) = ((9223372036854775808 : Nat) : Int) from rfl, u64_and_nat b _ hb (by omega), show (9223372036854775808 : Nat) = 2 ^ 63 from rfl, nat_bit]
  congr 2; omega
theorem and62 {b : Nat} (hb : b < 18446744073709551616) : bits .and .u64 (b : Int) 9223372036854775807 = ((b % 9223372036854775808 : Nat) : Int) := by
  rw [show (9223372036854775807 : Int) = ((9223372036854775807 : Nat) : Int) from rfl, u64_and_nat b _ hb (by omega), show (9223372036854775807 : Nat) = 2 ^ 63 - 1 from rfl, Nat.and_two_pow_sub_one_eq_mod]
theorem or63 {b : Nat} (hb : b < 9223372036854775808) : bits .or .u64 (b : Int) 9223372036854775808 = ((b + 9223372036854775808 : Nat) : Int) := by
  rw [show (9223372036854775808 : Int) = ((9223372036854775808 : Nat) : Int) from rfl, u64_or_nat b _ (by omega) (by omega), Nat.or_comm, nat_join 63 9223372036854775808 b (by decide) (by omega), Nat.add_comm]
theorem not64 {b : Nat} (hb : b < 18446744073709551616) : bits .xor .u64 IntKind.u64.max (b : Int) = ((18446744073709551615 - b : Nat) : Int) := by
  rw [show IntKind.u64.max = ((18446744073709551615 : Nat) : Int) from rfl, u64_xor_nat _ b (by omega) hb]
  congr 1
  apply Nat.eq_of_testBit_eq
  intro i
  rw [show 18446744073709551615 - b = 2 ^ 64 - (b + 1) by omega, Nat.testBit_two_pow_sub_succ (by omega : b < 2 ^ 64), Nat.testBit_xor, show (18446744073709551615 : Nat) = 2 ^ 64 - 1 from rfl, Nat.testBit_two_pow_sub_one]
  by_cases hi : i < 64
  · simp [hi]
  · have : Nat.testBit b i = false := Nat.testBit_lt_two_pow (Nat.lt_of_lt_of_le (by omega : b < 2 ^ 64) (Nat.pow_le_pow_right (by omega) (by omega)))
    simp [hi, this]

theorem isNaN_any (b : Nat) (w : World) (hb : b < 18446744073709551616) :
    Calls Tryz.prog 96 #[.float .f64 b] w fun e w' => e = .returned (.bool (Fl.isNan b)) ∧ w = w' := by
  go_enter Tryz.func96, Tryz.ntmps96
  go_wp2
  go_ret
  exact ⟨by rw [← Fl.test_self hb]; rfl, rfl⟩
theorem isNaN_t (b : Nat) (w : World) (hb : b < 18446744073709551616) (h : Fl.isNan b = true) :
    Calls Tryz.prog 96 #[.float .f64 b] w fun e w' => e = .returned (.bool true) ∧ w = w' := by
  rw [← h]; exact isNaN_any b w hb
theorem isNaN_f (b : Nat) (w : World) (hb : b < 18446744073709551616) (h : Fl.isNan b = false) :
    Calls Tryz.prog 96 #[.float .f64 b] w fun e w' => e = .returned (.bool false) ∧ w = w' := by
  rw [← h]; exact isNaN_any b w hb

theorem u64_ret {a b : Int} (h : a = b) : Ending.returned (.int .u64 a) = .returned (.int .u64 b) := by rw [h]
theorem i64_ret {a b : Int} (h : a = b) : Ending.returned (.int .i64 a) = .returned (.int .i64 b) := by rw [h]
theorem bool_ret {a b : Bool} (h : a = b) : Ending.returned (.bool a) = .returned (.bool b) := by rw [h]

theorem raw_any (b : Nat) (w : World) :
    Calls Tryz.prog 36 #[.float .f64 b] w fun e w' => e = .returned (.int .u64 b) ∧ w = w' := by
  have e1 := ext_bits
  go_enter Tryz.func36, Tryz.ntmps36
  go_wp2
  go_ret
  exact ⟨rfl, rfl⟩
theorem refNaN_any (b : Nat) (w : World) (hb : b < 18446744073709551616) :
    Calls Tryz.prog 82 #[.float .f64 b] w fun e w' => e = .returned (.bool (Fl.isNan b)) ∧ w = w' := by
  have e1 := Lib.hid (and62 hb)
  go_enter Tryz.func82, Tryz.ntmps82
  go_wp2_with (go_at_call 36; refine (raw_any _ _).mono ?_; rintro e w' ⟨rfl, rfl⟩)
  go_ret
  exact ⟨bool_ret (by rw [e1.out]; unfold Fl.isNan; rw [Bool.eq_iff_iff]; simp; omega), rfl⟩
theorem refNaN_t (b : Nat) (w : World) (hb : b < 18446744073709551616) (h : Fl.isNan b = true) :
    Calls Tryz.prog 82 #[.float .f64 b] w fun e w' => e = .returned (.bool true) ∧ w = w' := by
  rw [← h]; exact refNaN_any b w hb
theorem refNaN_f (b : Nat) (w : World) (hb : b < 18446744073709551616) (h : Fl.isNan b = false) :
    Calls Tryz.prog 82 #[.float .f64 b] w fun e w' => e = .returned (.bool false) ∧ w = w' := by
  rw [← h]; exact refNaN_any b w hb
end Go.Proofs.YtahdoniggipmmaaGreatDoor

namespace Go.Proofs.YtahdoniggipmmaaGreatDoor
open Go.RowKit

theorem ext_fromI (n : Int) (w : World) : (callFunc 83 #[.int .u64 n]).run Tryz.prog w = .ok (.value (.float .f64 n.toNat)) w := by
  rw [run_callFunc_extern (e := Extern.MathFloatBits.float64frombits) Tryz.func83 (by kernel_rfl) (by kernel_rfl) (by kernel_rfl) (by kernel_rfl)]
  rfl
theorem f64_ret {a b : Nat} (h : a = b) : Ending.returned (.float .f64 a) = .returned (.float .f64 b) := by rw [h]

theorem eq0 {b : Nat} (hb : b < 18446744073709551616) : (FloatKind.f64.format.order b 0 == some .eq) = (decide (b = 0) || decide (b = 9223372036854775808)) := by
  rw [← Fl.isEq0 hb]; exact Fl.test_eq hb (by omega)
theorem ge0 {b : Nat} (hb : b < 18446744073709551616) : (FloatKind.f64.format.order b 0 == some .gt || FloatKind.f64.format.order b 0 == some .eq) = Fl.dl b := by
  rw [← Fl.isGe0 hb]
  have e1 := Fl.test_gt hb (show 0 < 18446744073709551616 by omega)
  have e2 := Fl.test_eq hb (show 0 < 18446744073709551616 by omega)
  rw [← e1, ← e2]; rfl

theorem plain_any (b : Nat) (w : World) (hb : b < 18446744073709551616) :
    Calls Tryz.prog 85 #[.float .f64 b] w fun e w' => e = .returned (.float .f64 (Fl.plain b)) ∧ w = w' := by
  have e1 := ext_fromI
  cases hn : Fl.isNan b
  · cases ht : (decide (b = 0) || decide (b = 9223372036854775808))
    · have t1 : (FloatKind.f64.format.order b 0 == some .eq) = false := by rw [eq0 hb]; exact ht
      have HT := Lib.hid ht
      have HB := Lib.hid hb
      clear ht hb
      go_enter Tryz.func85, Tryz.ntmps85
      go_wp2_with (go_at_call 96; refine (isNaN_f _ _ HB.out hn).mono ?_; rintro e w' ⟨rfl, rfl⟩)
      go_ret
      exact ⟨f64_ret (by have := HT.out; simp at this; unfold Fl.plain; rw [hn, if_neg (by simp), if_neg (by omega)]), rfl⟩
    · have t1 : (FloatKind.f64.format.order b 0 == some .eq) = true := by rw [eq0 hb]; exact ht
      have HT := Lib.hid ht
      have HB := Lib.hid hb
      clear ht hb
      go_enter Tryz.func85, Tryz.ntmps85
      go_wp2_with (go_at_call 96; refine (isNaN_f _ _ HB.out hn).mono ?_; rintro e w' ⟨rfl, rfl⟩)
      go_ret
      exact ⟨f64_ret (by have := HT.out; simp at this; unfold Fl.plain; rw [hn, if_neg (by simp)]; split <;> omega), rfl⟩
  · go_enter Tryz.func85, Tryz.ntmps85
    go_wp2_with (go_at_call 96; refine (isNaN_t _ _ hb hn).mono ?_; rintro e w' ⟨rfl, rfl⟩)
    go_ret
    exact ⟨f64_ret (by unfold Fl.plain; rw [if_pos hn]), rfl⟩

theorem isDelay_any (b : Nat) (w : World) (hb : b < 18446744073709551616) :
    Calls Tryz.prog 106 #[.float .f64 b] w fun e w' => e = .returned (.bool (Fl.dl b)) ∧ w = w' := by
  go_enter Tryz.func106, Tryz.ntmps106
  go_wp2
  go_ret
  exact ⟨bool_ret (ge0 hb), rfl⟩
end Go.Proofs.YtahdoniggipmmaaGreatDoor

namespace Go.Proofs.YtahdoniggipmmaaGreatDoor
open Go.RowKit

/-- THE BUILTIN min AT TWO FLOATS THAT ARE DELAYS. -/
theorem run_min_float (P : Program) (ts : Array TypeId) (t : TypeId) {a b : Nat} (ha : Fl.dl a = true) (hb : Fl.dl b = true) (w : World) :
    (Builtin.min_ ts t #[.float .f64 a, .float .f64 b]).run P w = .ok (.float .f64 (Fl.mn2 a b)) w := by
  have ho : FloatKind.f64.format.order a b = some (compare (Fl.key a) (Fl.key b)) :=
    Fl.order_eq (Fl.dl_lt ha) (Fl.dl_lt hb) (Fl.dl_key ha).2 (Fl.dl_key hb).2
  have hr : Builtin.min_ ts t #[.float .f64 a, .float .f64 b] = Builtin.min2 (.float .f64 a) (.float .f64 b) := by
    simp [Builtin.min_]
  rw [hr]
  unfold Builtin.min2 Fl.mn2
  simp only [ho]
  by_cases h1 : Fl.key a < Fl.key b
  · rw [(Fl.compare_eq_lt _ _).2 h1, if_pos h1]; rfl
  · rw [if_neg h1]
    by_cases h2 : Fl.key b < Fl.key a
    · rw [(Fl.compare_eq_gt _ _).2 h2, if_pos h2]; rfl
    · rw [(Fl.compare_eq_eq _ _).2 (by omega), if_neg h2]
      have e : (FloatKind.f64.decode a).neg = decide (9223372036854775808 ≤ a) := by
        rcases (Fl.dl_plain ha).2 with g | g
        · rcases Nat.lt_or_eq_of_le g with g1 | g1
          · show (Ieee.double.read a).neg = _
            rw [Fl.read_pos_fin g1]
            show false = _
            rw [decide_eq_false (by omega)]
          · subst g1; kernel_rfl
        · subst g; kernel_rfl
      simp only [e]
      by_cases h3 : 9223372036854775808 ≤ a
      · rw [if_pos h3, decide_eq_true h3]; rfl
      · rw [if_neg h3, decide_eq_false h3]; rfl

theorem isDelay_t (b : Nat) (w : World) (hb : b < 18446744073709551616) (h : Fl.dl b = true) :
    Calls Tryz.prog 106 #[.float .f64 b] w fun e w' => e = .returned (.bool true) ∧ w = w' := by
  rw [← h]; exact isDelay_any b w hb
theorem isDelay_f (b : Nat) (w : World) (hb : b < 18446744073709551616) (h : Fl.dl b = false) :
    Calls Tryz.prog 106 #[.float .f64 b] w fun e w' => e = .returned (.bool false) ∧ w = w' := by
  rw [← h]; exact isDelay_any b w hb

theorem fzero {x : Nat} (h : Fl.dl x = true) : (FloatKind.f64.format.order x 0 == some .eq) = decide (Fl.plain x = 0) := by
  have e : (FloatKind.f64.format.order x 0 == some .eq) = Fl.isEq x 0 := Fl.test_eq (Fl.dl_lt h) (by omega)
  rw [e, Fl.dl_isEq h (show Fl.dl 0 = true from rfl)]; rfl
theorem fge {x m : Nat} (h : Fl.dl x = true) (g : Fl.dl m = true) : (FloatKind.f64.format.order x m == some .gt || FloatKind.f64.format.order x m == some .eq) = decide (Fl.plain m ≤ Fl.plain x) := by
  have e1 : (FloatKind.f64.format.order x m == some .gt) = Fl.isLt m x := Fl.test_gt (Fl.dl_lt h) (Fl.dl_lt g)
  have e2 : (FloatKind.f64.format.order x m == some .eq) = Fl.isEq x m := Fl.test_eq (Fl.dl_lt h) (Fl.dl_lt g)
  rw [e1, e2, Fl.dl_isEq h g, Fl.dl_isLt g h, Bool.eq_iff_iff]; simp; omega

end Go.Proofs.YtahdoniggipmmaaGreatDoor

namespace Go.Proofs.YtahdoniggipmmaaGreatDoor
open Go.RowKit

theorem refBits_any (b : Nat) (w : World) (hb : b < 18446744073709551616) :
    Calls Tryz.prog 49 #[.float .f64 b] w fun e w' => e = .returned (.int .u64 (Fl.plain b)) ∧ w = w' := by
  cases hn : Fl.isNan b
  · obtain ⟨n, hbn⟩ : ∃ n : Int, (b : Int) = n := ⟨_, rfl⟩
    have HB := Lib.hid hb
    have HN := Lib.hid hbn
    have R : ∀ w, Calls Tryz.prog 36 #[.float .f64 b] w fun e w' => e = .returned (.int .u64 n) ∧ w = w' := by
      intro w; rw [← hbn]; exact raw_any b w
    cases ht : (n == 9223372036854775808)
    · clear hb hbn
      go_enter Tryz.func49, Tryz.ntmps49
      go_wp2_with (first | (go_at_call 82; (with_reducible refine (refNaN_f _ _ HB.out hn).mono ?_); rintro e w' ⟨rfl, rfl⟩) | (go_at_call 36; (with_reducible refine (R _).mono ?_); rintro e w' ⟨rfl, rfl⟩))
      go_ret
      exact ⟨u64_ret (by have := HN.out; have hz : n ≠ 9223372036854775808 := by simpa using ht
                         unfold Fl.plain; rw [hn, if_neg (by simp), if_neg (by omega)]; omega), rfl⟩
    · clear hb hbn
      go_enter Tryz.func49, Tryz.ntmps49
      go_wp2_with (first | (go_at_call 82; (with_reducible refine (refNaN_f _ _ HB.out hn).mono ?_); rintro e w' ⟨rfl, rfl⟩) | (go_at_call 36; (with_reducible refine (R _).mono ?_); rintro e w' ⟨rfl, rfl⟩))
      go_ret
      exact ⟨u64_ret (by have := HN.out; have hz : n = 9223372036854775808 := by simpa using ht
                         unfold Fl.plain; rw [hn, if_neg (by simp), if_pos (by omega)]; rfl), rfl⟩
  · go_enter Tryz.func49, Tryz.ntmps49
    go_wp2_with (go_at_call 82; (with_reducible refine (refNaN_t _ _ hb hn).mono ?_); rintro e w' ⟨rfl, rfl⟩)
    go_ret
    exact ⟨u64_ret (by unfold Fl.plain; rw [if_pos hn]; rfl), rfl⟩
theorem from_fz (b : Nat) (w : World) (hb : b < 18446744073709551616) :
    Calls Tryz.prog 80 #[.int .u64 b] w fun e w' => e = .returned (.float .f64 (Fl.plain b)) ∧ w = w' := by
  have e1 := ext_fromI
  go_enter Tryz.func80, Tryz.ntmps80
  go_wp2_with (go_at_call 85; (with_reducible refine (plain_any _ _ hb).mono ?_); rintro e w' ⟨rfl, rfl⟩)
  go_ret
  exact ⟨rfl, rfl⟩
theorem refDelay_any (b : Nat) (w : World) (hb : b < 18446744073709551616) :
    Calls Tryz.prog 69 #[.float .f64 b] w fun e w' => e = .returned (.bool (Fl.dl b)) ∧ w = w' := by
  cases hn : Fl.isNan b
  · obtain ⟨n, hbn⟩ : ∃ n : Int, (b : Int) = n := ⟨_, rfl⟩
    have HB := Lib.hid hb
    have HN := Lib.hid hbn
    have R : ∀ w, Calls Tryz.prog 36 #[.float .f64 b] w fun e w' => e = .returned (.int .u64 n) ∧ w = w' := by
      intro w; rw [← hbn]; exact raw_any b w
    have D : Fl.dl b = decide (n ≤ 9223372036854775808) := by
      unfold Fl.dl; rw [hn, Bool.eq_iff_iff]; simp; omega
    rw [D]
    by_cases hs : n < 9223372036854775808
    · clear hb hbn
      go_enter Tryz.func69, Tryz.ntmps69
      go_wp2_with (first | (go_at_call 82; (with_reducible refine (refNaN_f _ _ HB.out hn).mono ?_); rintro e w' ⟨rfl, rfl⟩) | (go_at_call 36; (with_reducible refine (R _).mono ?_); rintro e w' ⟨rfl, rfl⟩))
      go_ret
      exact ⟨bool_ret (by simp; omega), rfl⟩
    · cases ht : (n == 9223372036854775808)
      · clear hb hbn
        go_enter Tryz.func69, Tryz.ntmps69
        go_wp2_with (first | (go_at_call 82; (with_reducible refine (refNaN_f _ _ HB.out hn).mono ?_); rintro e w' ⟨rfl, rfl⟩) | (go_at_call 36; (with_reducible refine (R _).mono ?_); rintro e w' ⟨rfl, rfl⟩))
        go_ret
        exact ⟨bool_ret (by have hz : n ≠ 9223372036854775808 := by simpa using ht
                            rw [Bool.eq_iff_iff]; simp; omega), rfl⟩
      · clear hb hbn
        go_enter Tryz.func69, Tryz.ntmps69
        go_wp2_with (first | (go_at_call 82; (with_reducible refine (refNaN_f _ _ HB.out hn).mono ?_); rintro e w' ⟨rfl, rfl⟩) | (go_at_call 36; (with_reducible refine (R _).mono ?_); rintro e w' ⟨rfl, rfl⟩))
        go_ret
        exact ⟨bool_ret (by have hz : n = 9223372036854775808 := by simpa using ht
                            rw [Bool.eq_iff_iff]; simp; omega), rfl⟩
  · have D : Fl.dl b = false := by unfold Fl.dl; rw [hn]; rfl
    rw [D]
    go_enter Tryz.func69, Tryz.ntmps69
    go_wp2_with (go_at_call 82; (with_reducible refine (refNaN_t _ _ hb hn).mono ?_); rintro e w' ⟨rfl, rfl⟩)
    go_ret
    exact ⟨rfl, rfl⟩

theorem delay_ok (b : Nat) (w : World) (h : Fl.dl b = true) :
    Calls Tryz.prog 103 #[.float .f64 b] w fun e w' => e = .returned (.tuple #[.float .f64 (Fl.plain b), .nilIface]) ∧ w = w' := by
  have H := Lib.hid h
  clear h
  go_enter Tryz.func103, Tryz.ntmps103
  go_wp2_with (first | (go_at_call 106; (with_reducible refine (isDelay_t b _ (Fl.dl_lt H.out) H.out).mono ?_); rintro e w' ⟨rfl, rfl⟩) | (go_at_call 85; (with_reducible refine (plain_any b _ (Fl.dl_lt H.out)).mono ?_); rintro e w' ⟨rfl, rfl⟩))
  go_ret2
  exact ⟨rfl, rfl⟩
theorem delay_err (b : Nat) (v : Value) (w : World) (hb : b < 18446744073709551616) (h : Fl.dl b = false) (hc : w.cell? ⟨0, 0, none⟩ = some v) :
    Calls Tryz.prog 103 #[.float .f64 b] w fun e w' => e = .returned (.tuple #[.float .f64 0, v]) ∧ Kp w w' := by
  have H := Lib.hid h
  clear h
  go_enter Tryz.func103, Tryz.ntmps103
  go_wp2_with (first | (go_at_call 106; (with_reducible refine (isDelay_f b _ hb H.out).mono ?_); rintro e w' ⟨rfl, rfl⟩))
  go_region
  all_goals go_wp2
  all_goals go_ret2
  all_goals exact ⟨rfl, (Kp.refl _).drew⟩

theorem fle {x m : Nat} (h : Fl.dl x = true) (g : Fl.dl m = true) : (FloatKind.f64.format.order x m == some .lt || FloatKind.f64.format.order x m == some .eq) = decide (Fl.plain x ≤ Fl.plain m) := by
  have e1 : (FloatKind.f64.format.order x m == some .lt) = Fl.isLt x m := Fl.test_lt (Fl.dl_lt h) (Fl.dl_lt g)
  have e2 : (FloatKind.f64.format.order x m == some .eq) = Fl.isEq x m := Fl.test_eq (Fl.dl_lt h) (Fl.dl_lt g)
  rw [e1, e2, Fl.dl_isEq h g, Fl.dl_isLt h g, Bool.eq_iff_iff]; simp; omega
theorem refDelay_t (b : Nat) (w : World) (hb : b < 18446744073709551616) (h : Fl.dl b = true) :
    Calls Tryz.prog 69 #[.float .f64 b] w fun e w' => e = .returned (.bool true) ∧ w = w' := by
  rw [← h]; exact refDelay_any b w hb
theorem refDelay_f (b : Nat) (w : World) (hb : b < 18446744073709551616) (h : Fl.dl b = false) :
    Calls Tryz.prog 69 #[.float .f64 b] w fun e w' => e = .returned (.bool false) ∧ w = w' := by
  rw [← h]; exact refDelay_any b w hb
end Go.Proofs.YtahdoniggipmmaaGreatDoor

namespace Go.Proofs.YtahdoniggipmmaaGreatDoor
open Go.RowKit

structure CX where
  n : Int
  s : Int
  o : Int
  d : Int
  x : Nat
deriving DecidableEq
def CX.nums (c : CX) : List Int := [c.n, c.s, c.o, c.d]
def CX.cells (c : CX) : Array Value := #[.int .i64 c.n, .int .i64 c.s, .int .i64 c.o, .int .i64 c.d, .float .f64 c.x]
/-- its time is a float's bits -/
def CX.wf (c : CX) : Prop := c.x < 18446744073709551616
def noX : CX := ⟨0, 0, 0, 0, 0⟩
theorem noX_wf : noX.wf := by unfold CX.wf noX; decide
/-- a time in its plain form -/
def tmX (x : Nat) : Bool := Fl.dl x && decide (Fl.plain x = x)
def outX (o : Int) : Bool := decide (o = 1 ∨ o = 2)
def rightX (c : CX) : Bool := rightA c.n c.s && (outX c.o && (decide (0 ≤ c.d ∧ c.d ≤ 3) && tmX c.x))
def openX (c : CX) (t : Nat) : Bool := rightX c && (Fl.dl t && decide (Fl.plain t < c.x))
def sameX (a b : CX) : Bool := decide (a.n = b.n ∧ a.s = b.s ∧ a.o = b.o ∧ a.d = b.d) && decide (Fl.plain a.x = Fl.plain b.x)
/-- WHAT New ANSWERS: the error's number, the context -/
def newX (n s o : Int) (t l : Nat) : Int × CX :=
  if rightA n s = false then (1, noX) else if outX o = false ∨ Fl.dl t = false ∨ Fl.dl l = false then (4, noX) else (0, ⟨n, s, o, 0, (Ieee.double.add (Fl.plain t) (Fl.plain l)).getD 0⟩)
def childX (c : CX) (n s o : Int) : Int × CX :=
  if rightX c = false then (4, noX) else if rightA n s = false then (1, noX) else if outX o = false then (4, noX) else if 2 < c.d then (11, noX) else (0, ⟨n, s, o, c.d + 1, c.x⟩)
theorem tmX_le {x : Nat} (h : tmX x = true) : x ≤ 9218868437227405312 := by
  unfold tmX at h
  rw [Bool.and_eq_true] at h
  have h1 := (Fl.dl_plain h.1).1
  rw [of_decide_eq_true h.2] at h1
  exact h1
theorem tmX_of {x : Nat} (h : x ≤ 9218868437227405312) : tmX x = true := by
  obtain ⟨h1, _, h3⟩ := Fl.dl_of_le h
  unfold tmX
  rw [h1, h3]
  simp
end Go.Proofs.YtahdoniggipmmaaGreatDoor

