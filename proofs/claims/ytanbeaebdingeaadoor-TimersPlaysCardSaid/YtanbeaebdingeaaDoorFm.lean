/-
  PLAIN MATHEMATICS OF FLOATS (own work): a word's key rises as its value does; the order of two words is that of their keys; a NaN has none.
-/
import Ieee.Arith
import Derived.KernelRfl
namespace Go.Proofs.YtanbeaebdingeaaDoor.Fl
open Ieee

def B : Nat := 4503599627370496
def S : Nat := 9223372036854775808
def INF : Nat := 9218868437227405312

theorem sw : double.signWeight = 9223372036854775808 := by rfl
theorem bi : double.binade = 4503599627370496 := by rfl
theorem ir : double.infRung = 9218868437227405312 := by rfl
theorem lp : double.leastPlace = -1074 := by rfl

/-- is a word a NaN -/
def isNan (b : Nat) : Bool := decide (9218868437227405312 < b % 9223372036854775808)

/-- a number that rises as a float's value does (both zeros alike) -/
def key (b : Nat) : Int := if b < 9223372036854775808 then (b : Int) else -((b : Int) - 9223372036854775808)

/-- a rung's magnitude, in units of the least place -/
def val (r : Nat) : Nat := if r < 4503599627370496 then r else (4503599627370496 + r % 4503599627370496) * 2 ^ (r / 4503599627370496 - 1)

theorem val_lt {r s : Nat} (h : r < s) : val r < val s := by
  unfold val
  by_cases hs : s < 4503599627370496
  · rw [if_pos (by omega), if_pos hs]; exact h
  · rw [if_neg hs]
    have hq : 1 ≤ s / 4503599627370496 := by omega
    have p1 : 1 ≤ 2 ^ (s / 4503599627370496 - 1) := Nat.one_le_two_pow
    by_cases hr : r < 4503599627370496
    · rw [if_pos hr]
      calc r < 4503599627370496 + s % 4503599627370496 := by omega
        _ = (4503599627370496 + s % 4503599627370496) * 1 := by omega
        _ ≤ _ := Nat.mul_le_mul_left _ p1
    · rw [if_neg hr]
      by_cases he : r / 4503599627370496 = s / 4503599627370496
      · rw [he]
        exact Nat.mul_lt_mul_of_pos_right (by omega) (by omega)
      · have hlt : r / 4503599627370496 + 1 ≤ s / 4503599627370496 := by omega
        have hrq : 1 ≤ r / 4503599627370496 := by omega
        have e1 : 2 ^ (s / 4503599627370496 - 1) = 2 ^ (r / 4503599627370496 - 1) * 2 ^ (s / 4503599627370496 - r / 4503599627370496) := by
          rw [← Nat.pow_add]; congr 1; omega
        have e2 : 2 ≤ 2 ^ (s / 4503599627370496 - r / 4503599627370496) := by
          calc 2 = 2 ^ 1 := rfl
            _ ≤ _ := Nat.pow_le_pow_right (by omega) (by omega)
        rw [e1]
        have pr : 1 ≤ 2 ^ (r / 4503599627370496 - 1) := Nat.one_le_two_pow
        calc (4503599627370496 + r % 4503599627370496) * 2 ^ (r / 4503599627370496 - 1)
            < 9007199254740992 * 2 ^ (r / 4503599627370496 - 1) := Nat.mul_lt_mul_of_pos_right (by omega) (by omega)
          _ = 4503599627370496 * (2 ^ (r / 4503599627370496 - 1) * 2) := by omega
          _ ≤ 4503599627370496 * (2 ^ (r / 4503599627370496 - 1) * 2 ^ (s / 4503599627370496 - r / 4503599627370496)) := Nat.mul_le_mul_left _ (Nat.mul_le_mul_left _ e2)
          _ ≤ _ := Nat.mul_le_mul_right _ (by omega)

theorem val_le {r s : Nat} (h : r ≤ s) : val r ≤ val s := by
  rcases Nat.lt_or_eq_of_le h with h | h
  · exact Nat.le_of_lt (val_lt h)
  · rw [h]; exact Nat.le_refl _

/-- the significand and the place (above the least one) of a rung -/
def mag (r : Nat) : Nat := if r < 4503599627370496 then r else 4503599627370496 + r % 4503599627370496
def plc (r : Nat) : Nat := if r < 4503599627370496 then 0 else r / 4503599627370496 - 1
theorem val_eq (r : Nat) : val r = mag r * 2 ^ plc r := by
  unfold val mag plc; split <;> simp

theorem read_pos_fin {b : Nat} (h : b < 9218868437227405312) : double.read b = .number false (mag b) (-1074 + (plc b : Nat)) := by
  unfold Format.read mag plc
  rw [sw, bi, ir, lp]
  have e1 : b / 9223372036854775808 = 0 := by omega
  have e2 : b % 9223372036854775808 = b := by omega
  simp only [e1, e2]
  by_cases hb : b < 4503599627370496
  · simp [hb]
  · simp [hb, h]

theorem read_neg_fin {b : Nat} (h : b < 9218868437227405312) : double.read (b + 9223372036854775808) = .number true (mag b) (-1074 + (plc b : Nat)) := by
  unfold Format.read mag plc
  rw [sw, bi, ir, lp]
  have e1 : (b + 9223372036854775808) / 9223372036854775808 = 1 := by omega
  have e2 : (b + 9223372036854775808) % 9223372036854775808 = b := by omega
  simp only [e1, e2]
  by_cases hb : b < 4503599627370496
  · simp [hb]
  · simp [hb, h]

theorem read_inf : double.read 9218868437227405312 = .infinity false := by kernel_rfl
theorem read_ninf : double.read 18442240474082181120 = .infinity true := by kernel_rfl

theorem read_nan {b : Nat} (hn : isNan b = true) : ∃ s f, double.read b = .nan s f := by
  unfold isNan at hn
  have hn := of_decide_eq_true hn
  unfold Format.read
  rw [sw, bi, ir, lp]
  exact ⟨_, _, by rw [if_neg (by omega), if_neg (by omega), if_neg (by omega)]⟩

/-- the four ways of a word that is no NaN -/
theorem four {b : Nat} (h : b < 18446744073709551616) (hn : isNan b = false) :
    b < 9218868437227405312 ∨ (∃ c, c < 9218868437227405312 ∧ b = c + 9223372036854775808) ∨ b = 9218868437227405312 ∨ b = 18442240474082181120 := by
  unfold isNan at hn
  have hn := of_decide_eq_false hn
  by_cases h1 : b < 9223372036854775808
  · omega
  · have : b % 9223372036854775808 = b - 9223372036854775808 := by omega
    by_cases h2 : b = 18442240474082181120
    · omega
    · right; left; exact ⟨b - 9223372036854775808, by omega, by omega⟩

theorem signed_scale (s : Bool) (m u c : Nat) : signed s m (u + c) = signed s m u * (2 ^ c : Nat) := by
  unfold signed
  simp only [Nat.shiftLeft_eq, Nat.pow_add]
  split <;> push_cast <;> simp [Int.neg_mul, Int.mul_assoc]

theorem compare_scale (x y : Int) (c : Nat) : compare (x * (2 ^ c : Nat)) (y * (2 ^ c : Nat)) = compare x y := by
  have hc : (0 : Int) < (2 ^ c : Nat) := by exact_mod_cast Nat.two_pow_pos c
  rw [Int.compare_eq_ite_lt, Int.compare_eq_ite_lt]
  have a : x * ((2 ^ c : Nat) : Int) < y * ((2 ^ c : Nat) : Int) ↔ x < y := Int.mul_lt_mul_right hc
  have b : y * ((2 ^ c : Nat) : Int) < x * ((2 ^ c : Nat) : Int) ↔ y < x := Int.mul_lt_mul_right hc
  simp only [a, b]

def sval (s : Bool) (r : Nat) : Int := if s then -(val r : Int) else (val r : Int)
theorem signed_val (s : Bool) (r : Nat) : signed s (mag r) (plc r) = sval s r := by
  unfold signed sval
  rw [val_eq, Nat.shiftLeft_eq]

theorem order_num (s t : Bool) (a b : Nat) :
    Datum.order (.number s (mag a) (-1074 + (plc a : Nat))) (.number t (mag b) (-1074 + (plc b : Nat))) = some (compare (sval s a) (sval t b)) := by
  unfold Datum.order
  simp only
  congr 1
  rw [← signed_val, ← signed_val]
  by_cases h : plc a ≤ plc b
  · have e1 : (-1074 + (plc a : Int) - min (-1074 + (plc a : Int)) (-1074 + (plc b : Int))).toNat = 0 := by omega
    have e2 : (-1074 + (plc b : Int) - min (-1074 + (plc a : Int)) (-1074 + (plc b : Int))).toNat = plc b - plc a := by omega
    rw [e1, e2, ← compare_scale _ _ (plc a), ← signed_scale, ← signed_scale]
    congr 2 <;> omega
  · have e1 : (-1074 + (plc a : Int) - min (-1074 + (plc a : Int)) (-1074 + (plc b : Int))).toNat = plc a - plc b := by omega
    have e2 : (-1074 + (plc b : Int) - min (-1074 + (plc a : Int)) (-1074 + (plc b : Int))).toNat = 0 := by omega
    rw [e1, e2, ← compare_scale _ _ (plc b), ← signed_scale, ← signed_scale]
    congr 2 <;> omega

theorem val_zero : val 0 = 0 := rfl
theorem val_inj {r s : Nat} (h : val r = val s) : r = s := by
  rcases Nat.lt_trichotomy r s with h1 | h1 | h1
  · have := val_lt h1; omega
  · exact h1
  · have := val_lt h1; omega
theorem val_lt_iff {r s : Nat} : val r < val s ↔ r < s := by
  constructor
  · intro h
    rcases Nat.lt_or_ge r s with h1 | h1
    · exact h1
    · have := val_le h1; omega
  · exact val_lt

theorem compare_sval (s t : Bool) (a b : Nat) : compare (sval s a) (sval t b) = compare (if s then -(a : Int) else (a : Int)) (if t then -(b : Int) else (b : Int)) := by
  have h1 := @val_lt_iff a b
  have h2 := @val_lt_iff b a
  have z1 : 0 < val a ↔ 0 < a := by rw [← val_zero]; exact val_lt_iff
  have z2 : 0 < val b ↔ 0 < b := by rw [← val_zero]; exact val_lt_iff
  rw [Int.compare_eq_ite_lt, Int.compare_eq_ite_lt]
  unfold sval
  have key : ∀ x y z u : Int, (x < y ↔ z < u) → (y < x ↔ u < z) → (if x < y then Ordering.lt else if y < x then Ordering.gt else Ordering.eq) = (if z < u then Ordering.lt else if u < z then Ordering.gt else Ordering.eq) := by
    intro x y z u g1 g2; simp only [g1, g2]
  apply key <;> cases s <;> cases t <;> simp only [if_true, if_false, Bool.false_eq_true] <;> omega

theorem key_pos {b : Nat} (h : b < 9223372036854775808) : key b = b := by unfold key; rw [if_pos h]
theorem key_neg (b : Nat) : key (b + 9223372036854775808) = -(b : Int) := by
  unfold key; rw [if_neg (by omega)]; omega

theorem order_eq {a b : Nat} (ha : a < 18446744073709551616) (hb : b < 18446744073709551616) (na : isNan a = false) (nb : isNan b = false) :
    double.order a b = some (compare (key a) (key b)) := by
  unfold Format.order
  have gt' : ∀ x y : Int, y < x → some (compare x y) = some Ordering.gt := by
    intro x y h; rw [Int.compare_eq_ite_lt, if_neg (by omega), if_pos h]
  have lt' : ∀ x y : Int, x < y → some (compare x y) = some Ordering.lt := by
    intro x y h; rw [Int.compare_eq_ite_lt, if_pos h]
  have eq' : ∀ x : Int, some (compare x x) = some Ordering.eq := by
    intro x; rw [Int.compare_eq_ite_lt, if_neg (by omega), if_neg (by omega)]
  have ki : key 9218868437227405312 = 9218868437227405312 := rfl
  have kn : key 18442240474082181120 = -9218868437227405312 := rfl
  rcases four ha na with h | ⟨c, h, rfl⟩ | rfl | rfl <;> rcases four hb nb with g | ⟨d, g, rfl⟩ | rfl | rfl
  all_goals try rw [read_pos_fin h]
  all_goals try rw [read_neg_fin h]
  all_goals try rw [read_pos_fin g]
  all_goals try rw [read_neg_fin g]
  all_goals try rw [read_inf]
  all_goals try rw [read_ninf]
  all_goals try rw [order_num, compare_sval]
  all_goals try rw [ki]
  all_goals try rw [kn]
  all_goals try rw [key_neg]
  all_goals try rw [key_neg]
  all_goals try rw [key_pos (by omega : a < 9223372036854775808)]
  all_goals try rw [key_pos (by omega : b < 9223372036854775808)]
  all_goals try rw [gt' _ _ (by omega)]
  all_goals try rw [lt' _ _ (by omega)]
  all_goals try rw [eq' _]
  all_goals rfl

theorem order_nan_left {a b : Nat} (na : isNan a = true) : double.order a b = none := by
  obtain ⟨s, f, h⟩ := read_nan na
  unfold Format.order; rw [h]; rfl
theorem order_nan_right {a b : Nat} (nb : isNan b = true) : double.order a b = none := by
  obtain ⟨s, f, h⟩ := read_nan nb
  unfold Format.order; rw [h]; cases double.read a <;> rfl

theorem compare_eq_gt (x y : Int) : (compare x y = .gt) ↔ y < x := by
  rw [Int.compare_eq_ite_lt]
  by_cases h : x < y
  · rw [if_pos h]; simp; omega
  · rw [if_neg h]
    by_cases g : y < x
    · rw [if_pos g]; simp [g]
    · rw [if_neg g]; simp; omega
theorem compare_eq_lt (x y : Int) : (compare x y = .lt) ↔ x < y := by
  rw [Int.compare_eq_ite_lt]
  by_cases h : x < y
  · rw [if_pos h]; simp [h]
  · rw [if_neg h]
    by_cases g : y < x
    · rw [if_pos g]; simp [h]
    · rw [if_neg g]; simp [h]
theorem compare_eq_eq (x y : Int) : (compare x y = .eq) ↔ x = y := by
  rw [Int.compare_eq_ite_lt]
  by_cases h : x < y
  · rw [if_pos h]; simp; omega
  · rw [if_neg h]
    by_cases g : y < x
    · rw [if_pos g]; simp; omega
    · rw [if_neg g]; simp; omega

/-- the tests of floats, by keys -/
def isLt (a b : Nat) : Bool := !isNan a && !isNan b && decide (key a < key b)
def isEq (a b : Nat) : Bool := !isNan a && !isNan b && decide (key a = key b)

theorem test_lt {a b : Nat} (ha : a < 18446744073709551616) (hb : b < 18446744073709551616) : (double.order a b == some .lt) = isLt a b := by
  unfold isLt
  cases na : isNan a
  · cases nb : isNan b
    · rw [order_eq ha hb na nb, Bool.eq_iff_iff]; simp [compare_eq_lt]
    · rw [order_nan_right nb]; rfl
  · rw [order_nan_left na]; rfl
theorem test_gt {a b : Nat} (ha : a < 18446744073709551616) (hb : b < 18446744073709551616) : (double.order a b == some .gt) = isLt b a := by
  unfold isLt
  cases na : isNan a
  · cases nb : isNan b
    · rw [order_eq ha hb na nb, Bool.eq_iff_iff]; simp [compare_eq_gt]
    · rw [order_nan_right nb]; rfl
  · rw [order_nan_left na]; cases isNan b <;> rfl
theorem test_eq {a b : Nat} (ha : a < 18446744073709551616) (hb : b < 18446744073709551616) : (double.order a b == some .eq) = isEq a b := by
  unfold isEq
  cases na : isNan a
  · cases nb : isNan b
    · rw [order_eq ha hb na nb, Bool.eq_iff_iff]; simp
    · rw [order_nan_right nb]; rfl
  · rw [order_nan_left na]; rfl
theorem test_self {a : Nat} (ha : a < 18446744073709551616) : (double.order a a != some .eq) = isNan a := by
  unfold bne; rw [test_eq ha ha]; unfold isEq; cases isNan a <;> simp

/-- the place of a word in floats' order -/
def place (b : Nat) : Nat := if isNan b then 18446744073709551615 else if 9223372036854775808 ≤ b then 18446744073709551615 - b else b + 9223372036854775808
theorem place_lt {b : Nat} (h : b < 18446744073709551616) : place b < 18446744073709551616 := by
  unfold place; split
  · omega
  · split <;> omega
/-- the order of two words -/
def cmpN (x y : Nat) : Int := if x < y then -1 else if y < x then 1 else 0
def ord (a b : Nat) : Int := cmpN (place a) (place b)
theorem ord_swap (a b : Nat) : ord b a = - ord a b := by
  unfold ord cmpN
  by_cases h : place a < place b <;> by_cases g : place b < place a <;> simp only [h, g, if_true, if_false] <;> omega
theorem ord_range (a b : Nat) : -1 ≤ ord a b ∧ ord a b ≤ 1 := by unfold ord cmpN; split <;> (try split) <;> omega

/-- the plain form; which words are delays -/
def plain (b : Nat) : Nat := if isNan b then 9221120237041090561 else if b = 9223372036854775808 then 0 else b
def dl (b : Nat) : Bool := !isNan b && decide (b ≤ 9223372036854775808)
theorem plain_lt {b : Nat} (h : b < 18446744073709551616) : plain b < 18446744073709551616 := by
  unfold plain; split
  · omega
  · split <;> omega
theorem nan0 : isNan 0 = false := rfl
theorem key0 : key 0 = 0 := rfl
theorem key_zero {b : Nat} (h : b < 18446744073709551616) : key b = 0 ↔ (b = 0 ∨ b = 9223372036854775808) := by
  unfold key; split <;> omega
theorem isEq0 {b : Nat} (h : b < 18446744073709551616) : isEq b 0 = (decide (b = 0) || decide (b = 9223372036854775808)) := by
  unfold isEq
  rw [nan0, key0, Bool.eq_iff_iff]
  simp only [Bool.and_eq_true, Bool.not_eq_true', Bool.not_false, Bool.or_eq_true, decide_eq_true_eq, key_zero h, and_true]
  constructor
  · exact fun g => g.2
  · intro g
    refine ⟨?_, g⟩
    rcases g with rfl | rfl <;> rfl
theorem isGe0 {b : Nat} (h : b < 18446744073709551616) : (isLt 0 b || isEq b 0) = dl b := by
  unfold dl
  cases hn : isNan b
  · rw [isEq0 h]
    unfold isLt
    rw [nan0, key0, hn, Bool.eq_iff_iff]
    unfold key
    simp only [Bool.and_eq_true, Bool.not_false, Bool.or_eq_true, decide_eq_true_eq, true_and]
    split <;> omega
  · unfold isLt isEq; rw [hn]; simp

/-- the document's rank -/
def rkp (b : Nat) : Bool := isNan b || decide (b < 9223372036854775808)
def rkm (b : Nat) : Nat := if isNan b then 18446744073709551615 else if 9223372036854775808 ≤ b then 9223372036854775807 - (b - 9223372036854775808) else b
theorem place_rk {b : Nat} (h : b < 18446744073709551616) : place b = if rkp b then (if isNan b then 18446744073709551615 else rkm b + 9223372036854775808) else rkm b := by
  unfold place rkp rkm
  cases hn : isNan b
  · by_cases hs : 9223372036854775808 ≤ b
    · have : ¬ b < 9223372036854775808 := by omega
      simp [hs, this]; omega
    · have : b < 9223372036854775808 := by omega
      simp [hs, this]
  · simp
theorem rkm_small {b : Nat} (h : b < 18446744073709551616) (hn : isNan b = false) : rkm b ≤ 9223372036854775807 ∧ (rkp b = true → rkm b ≤ 9218868437227405312) := by
  unfold rkm rkp
  rw [hn]
  unfold isNan at hn
  have := of_decide_eq_false hn
  simp only [Bool.false_eq_true, if_false, Bool.false_or, decide_eq_true_eq]
  split <;> omega
theorem rkm_nan {b : Nat} (hn : isNan b = true) : rkm b = 18446744073709551615 := by unfold rkm; rw [if_pos hn]
theorem rkp_nan {b : Nat} (hn : isNan b = true) : rkp b = true := by unfold rkp; rw [hn]; rfl

theorem ord_ft {a b : Nat} (ha : a < 18446744073709551616) (hb : b < 18446744073709551616) (h : rkp a = false) (g : rkp b = true) : ord a b = -1 := by
  have na : isNan a = false := by cases hn : isNan a; rfl; rw [rkp_nan hn] at h; cases h
  have := (rkm_small ha na).1
  unfold ord cmpN
  rw [place_rk ha, place_rk hb, h, g]
  simp only [Bool.false_eq_true, if_false, if_true]
  split
  · rw [if_pos (by omega)]
  · rw [if_pos (by omega)]
theorem ord_tf {a b : Nat} (ha : a < 18446744073709551616) (hb : b < 18446744073709551616) (h : rkp a = true) (g : rkp b = false) : ord a b = 1 := by
  rw [ord_swap b a, ord_ft hb ha g h]; rfl
theorem ord_same {a b : Nat} (ha : a < 18446744073709551616) (hb : b < 18446744073709551616) (h : rkp a = rkp b) : ord a b = cmpN (rkm a) (rkm b) := by
  unfold ord cmpN
  rw [place_rk ha, place_rk hb, h]
  cases hp : rkp b
  · simp
  · simp only [if_true]
    cases na : isNan a <;> cases nb : isNan b
    · simp only [Bool.false_eq_true, if_false]
      have e1 : (rkm a + 9223372036854775808 < rkm b + 9223372036854775808) ↔ rkm a < rkm b := by omega
      have e2 : (rkm b + 9223372036854775808 < rkm a + 9223372036854775808) ↔ rkm b < rkm a := by omega
      simp only [e1, e2]
    · have := (rkm_small ha na).2 (by rw [h, hp]); rw [rkm_nan nb]
      simp only [Bool.false_eq_true, if_false, if_true]
      rw [if_pos (by omega), if_pos (by omega)]
    · have := (rkm_small hb nb).2 hp; rw [rkm_nan na]
      simp only [Bool.false_eq_true, if_false, if_true]
      rw [if_neg (by omega), if_pos (by omega), if_neg (by omega), if_pos (by omega)]
    · rw [rkm_nan na, rkm_nan nb]; simp
end Go.Proofs.YtanbeaebdingeaaDoor.Fl
