/- Parts of this proof (own work). -/
import Ieee.Arith
import Derived.Test.YtlmlmhmhgdjhnaaGreatDoorZa01
set_option maxRecDepth 100000
set_option maxHeartbeats 40000000
namespace Go.Proofs.YtlmlmhmhgdjhnaaGreatDoor.Fl
open Ieee
theorem sw : double.signWeight = 9223372036854775808 := by rfl
theorem bi : double.binade = 4503599627370496 := by rfl
theorem ir : double.infRung = 9218868437227405312 := by rfl
theorem lp : double.leastPlace = -1074 := by rfl
def isNan (b : Nat) : Bool := decide (9218868437227405312 < b % 9223372036854775808)
def key (b : Nat) : Int := if b < 9223372036854775808 then (b : Int) else -((b : Int) - 9223372036854775808)
def val (r : Nat) : Nat := if r < 4503599627370496 then r else (4503599627370496 + r % 4503599627370496) * 2 ^ (r / 4503599627370496 - 1)
theorem val_lt {r s : Nat} (h : r < s) : val r < val s := by
 unfold val
 by_cases hs : s < 4503599627370496
 ·rw [if_pos (by omega), if_pos hs]; exact h
 ·rw [if_neg hs]; have hq : 1 ≤ s / 4503599627370496 := by omega
  have p1 : 1 ≤ 2 ^ (s / 4503599627370496 - 1) := Nat.one_le_two_pow
  by_cases hr : r < 4503599627370496
  ·rw [if_pos hr]
   calc r < 4503599627370496 + s % 4503599627370496 := by omega
    _ = (4503599627370496 + s % 4503599627370496) * 1 := by omega
    _ ≤ _ := Nat.mul_le_mul_left _ p1
  ·rw [if_neg hr]
   by_cases he : r / 4503599627370496 = s / 4503599627370496
   ·rw [he]; exact Nat.mul_lt_mul_of_pos_right (by omega) (by omega)
   ·have hlt : r / 4503599627370496 + 1 ≤ s / 4503599627370496 := by omega
    have hrq : 1 ≤ r / 4503599627370496 := by omega
    have e1 : 2 ^ (s / 4503599627370496 - 1) = 2 ^ (r / 4503599627370496 - 1) * 2 ^ (s / 4503599627370496 - r / 4503599627370496) := by
     rw [← Nat.pow_add]; congr 1; omega
    have e2 : 2 ≤ 2 ^ (s / 4503599627370496 - r / 4503599627370496) := by
     calc 2 = 2 ^ 1 := rfl
      _ ≤ _ := Nat.pow_le_pow_right (by omega) (by omega)
    rw [e1]; have pr : 1 ≤ 2 ^ (r / 4503599627370496 - 1) := Nat.one_le_two_pow
    calc (4503599627370496 + r % 4503599627370496) * 2 ^ (r / 4503599627370496 - 1)
      < 9007199254740992 * 2 ^ (r / 4503599627370496 - 1) := Nat.mul_lt_mul_of_pos_right (by omega) (by omega)
     _ = 4503599627370496 * (2 ^ (r / 4503599627370496 - 1) * 2) := by omega
     _ ≤ 4503599627370496 * (2 ^ (r / 4503599627370496 - 1) * 2 ^ (s / 4503599627370496 - r / 4503599627370496)) := Nat.mul_le_mul_left _ (Nat.mul_le_mul_left _ e2)
     _ ≤ _ := Nat.mul_le_mul_right _ (by omega)
theorem val_le {r s : Nat} (h : r ≤ s) : val r ≤ val s := by
 rcases Nat.lt_or_eq_of_le h with h | h
 ·exact Nat.le_of_lt (val_lt h)
 ·rw [h]; exact Nat.le_refl _
def mag (r : Nat) : Nat := if r < 4503599627370496 then r else 4503599627370496 + r % 4503599627370496
def plc (r : Nat) : Nat := if r < 4503599627370496 then 0 else r / 4503599627370496 - 1
theorem val_eq (r : Nat) : val r = mag r * 2 ^ plc r := by
 unfold val mag plc; split <;> simp
theorem read_pos_fin {b : Nat} (h : b < 9218868437227405312) : double.read b = .number false (mag b) (-1074 + (plc b : Nat)) := by
 unfold Format.read mag plc; rw [sw, bi, ir, lp]; have e1 : b / 9223372036854775808 = 0 := by omega
 have e2 : b % 9223372036854775808 = b := by omega
 simp only [e1, e2]
 by_cases hb : b < 4503599627370496
 ·simp [hb]
 ·simp [hb, h]
theorem read_neg_fin {b : Nat} (h : b < 9218868437227405312) : double.read (b + 9223372036854775808) = .number true (mag b) (-1074 + (plc b : Nat)) := by
 unfold Format.read mag plc; rw [sw, bi, ir, lp]; have e1 : (b + 9223372036854775808) / 9223372036854775808 = 1 := by omega
 have e2 : (b + 9223372036854775808) % 9223372036854775808 = b := by omega
 simp only [e1, e2]
 by_cases hb : b < 4503599627370496
 ·simp [hb]
 ·simp [hb, h]
theorem read_inf : double.read 9218868437227405312 = .infinity false := by kernel_rfl
theorem read_ninf : double.read 18442240474082181120 = .infinity true := by kernel_rfl
theorem read_nan {b : Nat} (hn : isNan b = true) : ∃ s f, double.read b = .nan s f := by
 unfold isNan at hn; have hn := of_decide_eq_true hn; unfold Format.read; rw [sw, bi, ir, lp]; exact ⟨_, _, by rw [if_neg (by omega), if_neg (by omega), if_neg (by omega)]⟩
theorem four {b : Nat} (h : b < 18446744073709551616) (hn : isNan b = false) :
  b < 9218868437227405312 ∨ (∃ c, c < 9218868437227405312 ∧ b = c + 9223372036854775808) ∨ b = 9218868437227405312 ∨ b = 18442240474082181120 := by
 unfold isNan at hn; have hn := of_decide_eq_false hn
 by_cases h1 : b < 9223372036854775808
 ·omega
 ·have : b % 9223372036854775808 = b - 9223372036854775808 := by omega
  by_cases h2 : b = 18442240474082181120
  ·omega
  ·right; left; exact ⟨b - 9223372036854775808, by omega, by omega⟩
theorem signed_scale (s : Bool) (m u c : Nat) : signed s m (u + c) = signed s m u * (2 ^ c : Nat) := by
 unfold signed; simp only [Nat.shiftLeft_eq, Nat.pow_add]
 split <;> push_cast <;> simp [Int.neg_mul, Int.mul_assoc]
theorem compare_scale (x y : Int) (c : Nat) : compare (x * (2 ^ c : Nat)) (y * (2 ^ c : Nat)) = compare x y := by
 have hc : (0 : Int) < (2 ^ c : Nat) := by exact_mod_cast Nat.two_pow_pos c
 rw [Int.compare_eq_ite_lt, Int.compare_eq_ite_lt]; have a : x * ((2 ^ c : Nat) : Int) < y * ((2 ^ c : Nat) : Int) ↔ x < y := Int.mul_lt_mul_right hc; have b : y * ((2 ^ c : Nat) : Int) < x * ((2 ^ c : Nat) : Int) ↔ y < x := Int.mul_lt_mul_right hc; simp only [a, b]
def sval (s : Bool) (r : Nat) : Int := if s then -(val r : Int) else (val r : Int)
theorem signed_val (s : Bool) (r : Nat) : signed s (mag r) (plc r) = sval s r := by
 unfold signed sval; rw [val_eq, Nat.shiftLeft_eq]
theorem order_num (s t : Bool) (a b : Nat) :
  Datum.order (.number s (mag a) (-1074 + (plc a : Nat))) (.number t (mag b) (-1074 + (plc b : Nat))) = some (compare (sval s a) (sval t b)) := by
 unfold Datum.order; simp only
 congr 1
 rw [← signed_val, ← signed_val]
 by_cases h : plc a ≤ plc b
 ·have e1 : (-1074 + (plc a : Int) - min (-1074 + (plc a : Int)) (-1074 + (plc b : Int))).toNat = 0 := by omega
  have e2 : (-1074 + (plc b : Int) - min (-1074 + (plc a : Int)) (-1074 + (plc b : Int))).toNat = plc b - plc a := by omega
  rw [e1, e2, ← compare_scale _ _ (plc a), ← signed_scale, ← signed_scale]
  congr 2 <;> omega
 ·have e1 : (-1074 + (plc a : Int) - min (-1074 + (plc a : Int)) (-1074 + (plc b : Int))).toNat = plc a - plc b := by omega
  have e2 : (-1074 + (plc b : Int) - min (-1074 + (plc a : Int)) (-1074 + (plc b : Int))).toNat = 0 := by omega
  rw [e1, e2, ← compare_scale _ _ (plc b), ← signed_scale, ← signed_scale]
  congr 2 <;> omega
theorem val_zero : val 0 = 0 := rfl
theorem val_lt_iff {r s : Nat} : val r < val s ↔ r < s := by
 constructor
 ·intro h
  rcases Nat.lt_or_ge r s with h1 | h1
  ·exact h1
  ·have := val_le h1; omega
 ·exact val_lt
theorem compare_sval (s t : Bool) (a b : Nat) : compare (sval s a) (sval t b) = compare (if s then -(a : Int) else (a : Int)) (if t then -(b : Int) else (b : Int)) := by
 have h1 := @val_lt_iff a b; have h2 := @val_lt_iff b a; have z1 : 0 < val a ↔ 0 < a := by rw [← val_zero]; exact val_lt_iff
 have z2 : 0 < val b ↔ 0 < b := by rw [← val_zero]; exact val_lt_iff
 rw [Int.compare_eq_ite_lt, Int.compare_eq_ite_lt]; unfold sval; have key : ∀ x y z u : Int, (x < y ↔ z < u) → (y < x ↔ u < z) → (if x < y then Ordering.lt else if y < x then Ordering.gt else Ordering.eq) = (if z < u then Ordering.lt else if u < z then Ordering.gt else Ordering.eq) := by
  intro x y z u g1 g2; simp only [g1, g2]
 apply key <;> cases s <;> cases t <;> simp only [if_true, if_false, Bool.false_eq_true] <;> omega
theorem key_pos {b : Nat} (h : b < 9223372036854775808) : key b = b := by unfold key; rw [if_pos h]
theorem key_neg (b : Nat) : key (b + 9223372036854775808) = -(b : Int) := by
 unfold key; rw [if_neg (by omega)]; omega
theorem order_eq {a b : Nat} (ha : a < 18446744073709551616) (hb : b < 18446744073709551616) (na : isNan a = false) (nb : isNan b = false) :
  double.order a b = some (compare (key a) (key b)) := by
 unfold Format.order; have gt' : ∀ x y : Int, y < x → some (compare x y) = some Ordering.gt := by
  intro x y h; rw [Int.compare_eq_ite_lt, if_neg (by omega), if_pos h]
 have lt' : ∀ x y : Int, x < y → some (compare x y) = some Ordering.lt := by
  intro x y h; rw [Int.compare_eq_ite_lt, if_pos h]
 have eq' : ∀ x : Int, some (compare x x) = some Ordering.eq := by
  intro x; rw [Int.compare_eq_ite_lt, if_neg (by omega), if_neg (by omega)]
 have ki : key 9218868437227405312 = 9218868437227405312 := rfl; have kn : key 18442240474082181120 = -9218868437227405312 := rfl
 rcases four ha na with h | ⟨c, h, rfl⟩ | rfl | rfl <;> rcases four hb nb with g | ⟨d, g, rfl⟩ | rfl | rfl
 all_goals try rw [read_pos_fin h]
 all_goals try rw [read_neg_fin h]
 all_goals try rw [read_pos_fin g]
 all_goals try rw [read_neg_fin g]
 all_goals try rw [read_inf]
 all_goals try rw [read_ninf]
 all_goals try rw [order_num, compare_sval]
 all_goals try rw [ki]
 all_goals try rw [kn]
 all_goals try rw [key_neg]
 all_goals try rw [key_neg]
 all_goals try rw [key_pos (by omega : a < 9223372036854775808)]
 all_goals try rw [key_pos (by omega : b < 9223372036854775808)]
 all_goals try rw [gt' _ _ (by omega)]
 all_goals try rw [lt' _ _ (by omega)]
 all_goals try rw [eq' _]
 all_goals rfl
theorem order_nan_left {a b : Nat} (na : isNan a = true) : double.order a b = none := by
 obtain ⟨s, f, h⟩ := read_nan na; unfold Format.order; rw [h]; rfl
theorem order_nan_right {a b : Nat} (nb : isNan b = true) : double.order a b = none := by
 obtain ⟨s, f, h⟩ := read_nan nb; unfold Format.order; rw [h]; cases double.read a <;> rfl
theorem compare_eq_gt (x y : Int) : (compare x y = .gt) ↔ y < x := by
 rw [Int.compare_eq_ite_lt]
 by_cases h : x < y
 ·rw [if_pos h]; simp; omega
 ·rw [if_neg h]
  by_cases g : y < x
  ·rw [if_pos g]; simp [g]
  ·rw [if_neg g]; simp; omega
theorem compare_eq_lt (x y : Int) : (compare x y = .lt) ↔ x < y := by
 rw [Int.compare_eq_ite_lt]
 by_cases h : x < y
 ·rw [if_pos h]; simp [h]
 ·rw [if_neg h]
  by_cases g : y < x
  ·rw [if_pos g]; simp [h]
  ·rw [if_neg g]; simp [h]
def isLt (a b : Nat) : Bool := !isNan a && !isNan b && decide (key a < key b)
def isEq (a b : Nat) : Bool := !isNan a && !isNan b && decide (key a = key b)
theorem test_lt {a b : Nat} (ha : a < 18446744073709551616) (hb : b < 18446744073709551616) : (double.order a b == some .lt) = isLt a b := by
 unfold isLt
 cases na : isNan a
 ·cases nb : isNan b
  ·rw [order_eq ha hb na nb, Bool.eq_iff_iff]; simp [compare_eq_lt]
  ·rw [order_nan_right nb]; rfl
 ·rw [order_nan_left na]; rfl
theorem test_gt {a b : Nat} (ha : a < 18446744073709551616) (hb : b < 18446744073709551616) : (double.order a b == some .gt) = isLt b a := by
 unfold isLt
 cases na : isNan a
 ·cases nb : isNan b
  ·rw [order_eq ha hb na nb, Bool.eq_iff_iff]; simp [compare_eq_gt]
  ·rw [order_nan_right nb]; rfl
 ·rw [order_nan_left na]; cases isNan b <;> rfl
theorem test_eq {a b : Nat} (ha : a < 18446744073709551616) (hb : b < 18446744073709551616) : (double.order a b == some .eq) = isEq a b := by
 unfold isEq
 cases na : isNan a
 ·cases nb : isNan b
  ·rw [order_eq ha hb na nb, Bool.eq_iff_iff]; simp
  ·rw [order_nan_right nb]; rfl
 ·rw [order_nan_left na]; rfl
theorem test_self {a : Nat} (ha : a < 18446744073709551616) : (double.order a a != some .eq) = isNan a := by
 unfold bne; rw [test_eq ha ha]; unfold isEq; cases isNan a <;> simp
def place (b : Nat) : Nat := if isNan b then 18446744073709551615 else if 9223372036854775808 ≤ b then 18446744073709551615 - b else b + 9223372036854775808
def plain (b : Nat) : Nat := if isNan b then 9221120237041090561 else if b = 9223372036854775808 then 0 else b
def dl (b : Nat) : Bool := !isNan b && decide (b ≤ 9223372036854775808)
theorem nan0 : isNan 0 = false := rfl
theorem key0 : key 0 = 0 := rfl
theorem key_zero {b : Nat} (h : b < 18446744073709551616) : key b = 0 ↔ (b = 0 ∨ b = 9223372036854775808) := by
 unfold key; split <;> omega
theorem isEq0 {b : Nat} (h : b < 18446744073709551616) : isEq b 0 = (decide (b = 0) || decide (b = 9223372036854775808)) := by
 unfold isEq; rw [nan0, key0, Bool.eq_iff_iff]; simp only [Bool.and_eq_true, Bool.not_eq_true', Bool.not_false, Bool.or_eq_true, decide_eq_true_eq, key_zero h, and_true]
 constructor
 ·exact fun g => g.2
 ·intro g; refine ⟨?_, g⟩
  rcases g with rfl | rfl <;> rfl
theorem isGe0 {b : Nat} (h : b < 18446744073709551616) : (isLt 0 b || isEq b 0) = dl b := by
 unfold dl
 cases hn : isNan b
 ·rw [isEq0 h]; unfold isLt; rw [nan0, key0, hn, Bool.eq_iff_iff]; unfold key; simp only [Bool.and_eq_true, Bool.not_false, Bool.or_eq_true, decide_eq_true_eq, true_and]
  split <;> omega
 ·unfold isLt isEq; rw [hn]; simp
end Go.Proofs.YtlmlmhmhgdjhnaaGreatDoor.Fl
namespace Go.Proofs.YtlmlmhmhgdjhnaaGreatDoor.Fl
open Ieee
theorem dl_plain {b : Nat} (h : dl b = true) : plain b ≤ 9218868437227405312 ∧ (b ≤ 9218868437227405312 ∨ b = 9223372036854775808) := by
 unfold dl at h; simp only [Bool.and_eq_true, Bool.not_eq_true', decide_eq_true_eq] at h
 obtain ⟨hn, hb⟩ := h; unfold plain; rw [hn]; unfold isNan at hn; have hn := of_decide_eq_false hn; simp only [Bool.false_eq_true, if_false]
 split <;> omega
theorem dl_of_le {b : Nat} (h : b ≤ 9218868437227405312) : dl b = true ∧ isNan b = false ∧ plain b = b := by
 have hn : isNan b = false := by unfold isNan; exact dF (by omega)
 refine ⟨?_, hn, ?_⟩
 ·unfold dl; rw [hn]; simp; omega
 ·unfold plain; rw [hn]; simp; omega
theorem dl_key {b : Nat} (h : dl b = true) : key b = (plain b : Int) ∧ isNan b = false := by
 have hn : isNan b = false := by unfold dl at h; simp only [Bool.and_eq_true, Bool.not_eq_true'] at h; exact h.1
 refine ⟨?_, hn⟩
 rcases (dl_plain h).2 with g | rfl
 ·rw [(dl_of_le g).2.2, key_pos (by omega)]
 ·rfl
theorem dl_lt {b : Nat} (h : dl b = true) : b < 18446744073709551616 := by rcases (dl_plain h).2 with g | g <;> omega
theorem dl_isLt {a b : Nat} (ha : dl a = true) (hb : dl b = true) : isLt a b = decide (plain a < plain b) := by
 unfold isLt; rw [(dl_key ha).1, (dl_key ha).2, (dl_key hb).1, (dl_key hb).2, Bool.eq_iff_iff]; simp
end Go.Proofs.YtlmlmhmhgdjhnaaGreatDoor.Fl
namespace Go.Proofs.YtlmlmhmhgdjhnaaGreatDoor
open Go.RowKit
structure CX where
 n : Int
 s : Int
 o : Int
 d : Int
 x : Nat
deriving DecidableEq
def CX.cells (c : CX) : Array Value := #[.int .i64 c.n, .int .i64 c.s, .int .i64 c.o, .int .i64 c.d, .float .f64 c.x]
def CX.wf (c : CX) : Prop := c.x < 18446744073709551616
def noX : CX := ⟨0, 0, 0, 0, 0⟩
def tmX (x : Nat) : Bool := Fl.dl x && decide (Fl.plain x = x)
def outX (o : Int) : Bool := decide (o = 1 ∨ o = 2)
def rightX (c : CX) : Bool := rightA c.n c.s && (outX c.o && (decide (0 ≤ c.d ∧ c.d ≤ 3) && tmX c.x))
def openX (c : CX) (t : Nat) : Bool := rightX c && (Fl.dl t && decide (Fl.plain t < c.x))
def newX (n s o : Int) (t l : Nat) : Int × CX :=
 if rightA n s = false then (1, noX) else if outX o = false ∨ Fl.dl t = false ∨ Fl.dl l = false then (4, noX) else (0, ⟨n, s, o, 0, (Ieee.double.add (Fl.plain t) (Fl.plain l)).getD 0⟩)
def childX (c : CX) (n s o : Int) : Int × CX :=
 if rightX c = false then (4, noX) else if rightA n s = false then (1, noX) else if outX o = false then (4, noX) else if 2 < c.d then (11, noX) else (0, ⟨n, s, o, c.d + 1, c.x⟩)
theorem tmX_le {x : Nat} (h : tmX x = true) : x ≤ 9218868437227405312 := by
 unfold tmX at h; rw [Bool.and_eq_true] at h; have h1 := (Fl.dl_plain h.1).1; rw [of_decide_eq_true h.2] at h1; exact h1
structure FX where
 k : Int
 n : Int
 s : Int
 r : Int
 e : Int
 p : Int
 q : Int
 o : Int
 d : Int
 a : Int
 t : Int
 h : Int
 c : Int
 x : Nat
deriving DecidableEq
def FX.nums (f : FX) : List Int := [f.k, f.n, f.s, f.r, f.e, f.p, f.q, f.o, f.d, f.a, f.t, f.h, f.c]
def FX.cells (f : FX) : Array Value := #[.int .i64 f.k, .int .i64 f.n, .int .i64 f.s, .int .i64 f.r, .int .i64 f.e, .int .i64 f.p, .int .i64 f.q, .int .i64 f.o, .int .i64 f.d, .int .i64 f.a, .int .i64 f.t, .int .i64 f.h, .int .i64 f.c, .float .f64 f.x]
def FX.wf (f : FX) : Prop := f.x < 18446744073709551616
def noF : FX := ⟨0, 0, 0, 0, 0, 0, 0, 0, 0, 0, 0, 0, 0, 0⟩
def ofF (l : List Int) (x : Nat) : FX := ⟨l.getD 0 0, l.getD 1 0, l.getD 2 0, l.getD 3 0, l.getD 4 0, l.getD 5 0, l.getD 6 0, l.getD 7 0, l.getD 8 0, l.getD 9 0, l.getD 10 0, l.getD 11 0, l.getD 12 0, x⟩
theorem nums_ofF {l : List Int} (x : Nat) (h : l.length = 13) : (ofF l x).nums = l := by
 match l, h with
 | [k, n, s, r, e, p, q, o, d, a, t, hh, c], _ => rfl
theorem thirteen {l : List Int} (h : l.length = 13) : ∃ k n s r e p q o d a t hh c, l = [k, n, s, r, e, p, q, o, d, a, t, hh, c] := by
 match l, h with
 | [k, n, s, r, e, p, q, o, d, a, t, hh, c], _ => exact ⟨k, n, s, r, e, p, q, o, d, a, t, hh, c, rfl⟩
def seatX (t h : Int) : Bool := if t = 14 then decide (h = 1 ∨ 4 ≤ h ∧ h ≤ 8) else decide (1 ≤ t ∧ t ≤ 13 ∧ h = 0)
def ctxF (f : FX) : CX := ⟨f.n, f.s, f.o, f.d, f.x⟩
def namedF (k : Int) : List Int :=
 if k = 1 then [1, 2, 7, 8, 9] else if k = 2 then [1, 2, 3, 4, 5, 6] else if k = 3 then [1, 2, 3, 10, 11] else if k = 4 then [1, 2, 12] else
 if k = 5 then [1, 2] else if k = 6 then [1, 2, 5, 6] else if k = 7 then [3, 5] else if k = 8 then [5, 10, 11] else []
def okF (f : FX) : Bool :=
 if f.k = 1 then rightX (ctxF f) && decide (0 ≤ f.a ∧ f.a ≤ 8)
 else if f.k = 2 then rightA f.n f.s && decide (0 ≤ f.r ∧ f.r ≤ 5 ∧ 0 ≤ f.e ∧ f.e ≤ 3 ∧ 0 ≤ f.p ∧ f.p ≤ 7 ∧ (f.q = 1 ∨ f.q = 2))
 else if f.k = 3 then rightA f.n f.s && (decide (0 ≤ f.r ∧ f.r ≤ 5) && seatX f.t f.h)
 else if f.k = 4 then rightA f.n f.s && decide (f.c = 1 ∨ f.c = 2)
 else if f.k = 5 then rightA f.n f.s
 else if f.k = 6 then rightA f.n f.s && decide (0 ≤ f.p ∧ f.p ≤ 7 ∧ (f.q = 1 ∨ f.q = 2))
 else if f.k = 7 then decide (0 ≤ f.p ∧ f.p ≤ 7 ∧ 0 ≤ f.r ∧ f.r ≤ 5)
 else if f.k = 8 then decide (0 ≤ f.p ∧ f.p ≤ 7) && seatX f.t f.h
 else false
def restF (nm : List Int) : Int → List Int → Bool
 | _, [] => true
 | i, n :: l => decide (i = 0 ∨ n = 0 ∨ i ∈ nm) && restF nm (i + 1) l
def rightF (f : FX) : Bool := restF (namedF f.k) 0 f.nums && (okF f && decide (f.k = 1 ∨ f.x = 0))
inductive RuM where
 | rg (tag : Nat) (lo hi : Int)
 | act
 | ctx
 | seat
def RuM.ok : RuM → List Int → Nat → Bool
 | .rg tag lo hi, l, _ => decide (lo ≤ l.getD (tag - 1) 0 ∧ l.getD (tag - 1) 0 ≤ hi)
 | .act, l, _ => rightA (l.getD 1 0) (l.getD 2 0)
 | .ctx, l, x => rightX ⟨l.getD 1 0, l.getD 2 0, l.getD 7 0, l.getD 8 0, x⟩
 | .seat, l, _ => seatX (l.getD 10 0) (l.getD 11 0)
def RuM.tkL : RuM → List Int → List Int
 | .rg tag _ _, l => l.set (tag - 1) 0
 | .act, l => (l.set 1 0).set 2 0
 | .ctx, l => (((l.set 1 0).set 2 0).set 7 0).set 8 0
 | .seat, l => (l.set 10 0).set 11 0
def RuM.tkX : RuM → Nat → Nat
 | .ctx, _ => 0
 | _, x => x
theorem RuM.tkL_len (r : RuM) (l : List Int) : (r.tkL l).length = l.length := by cases r <;> simp [RuM.tkL]
theorem RuM.tkX_wf (r : RuM) {x : Nat} (h : x < 18446744073709551616) : r.tkX x < 18446744073709551616 := by
 cases r
 all_goals first | exact h | (show 0 < 18446744073709551616; decide)
def runR : List RuM → List Int → Nat → Option (List Int × Nat)
 | [], l, x => some (l, x)
 | r :: rs, l, x => if r.ok l x = true then runR rs (r.tkL l) (r.tkX x) else none
def rulesM (k : Int) : List RuM :=
 if k = 1 then [.ctx, .rg 10 0 8] else if k = 2 then [.act, .rg 4 0 5, .rg 5 0 3, .rg 6 0 7, .rg 7 1 2] else if k = 3 then [.act, .rg 4 0 5, .seat] else if k = 4 then [.act, .rg 13 1 2] else
 if k = 5 then [.act] else if k = 6 then [.rg 6 0 7, .act, .rg 7 1 2] else if k = 7 then [.rg 6 0 7, .rg 4 0 5] else if k = 8 then [.rg 6 0 7, .seat] else []
def leftF (k : Int) (o : Option (List Int × Nat)) : Bool :=
 match o with
 | none => false
 | some (l, x) => decide (l = [k, 0, 0, 0, 0, 0, 0, 0, 0, 0, 0, 0, 0]) && decide (x = 0)
theorem rest_cons (nm : List Int) (i n : Int) (l : List Int) : restF nm i (n :: l) = (decide (i = 0 ∨ n = 0 ∨ i ∈ nm) && restF nm (i + 1) l) := rfl
theorem right_rules {f : FX} (h : 1 ≤ f.k ∧ f.k ≤ 8) : rightF f = leftF f.k (runR (rulesM f.k) f.nums f.x) := by
 obtain ⟨k, n, s, r, e, p, q, o, d, a, t, hh, c, x⟩ := f; dsimp only at h ⊢; have hk : k = 1 ∨ k = 2 ∨ k = 3 ∨ k = 4 ∨ k = 5 ∨ k = 6 ∨ k = 7 ∨ k = 8 := by omega
 rcases hk with rfl | rfl | rfl | rfl | rfl | rfl | rfl | rfl
 ·cases hc : rightX ⟨n, s, o, d, x⟩ <;> by_cases ha : 0 ≤ a ∧ a ≤ 8 <;> simp [rightF, okF, ctxF, namedF, restF, FX.nums, rulesM, runR, RuM.ok, RuM.tkL, RuM.tkX, leftF, hc, ha]
 ·by_cases h1 : 0 ≤ r ∧ r ≤ 5 <;> by_cases h2 : 0 ≤ e ∧ e ≤ 3 <;> by_cases h3 : 0 ≤ p ∧ p ≤ 7 <;> by_cases h4 : q = 1 ∨ q = 2
  all_goals have h5 : (1 ≤ q ∧ q ≤ 2) = (q = 1 ∨ q = 2) := propext (by omega)
  all_goals cases hc : rightA n s <;> simp [rightF, okF, namedF, restF, FX.nums, rulesM, runR, RuM.ok, RuM.tkL, RuM.tkX, leftF, hc, h1, h2, h3, h4, h5, and_comm]
 ·by_cases h1 : 0 ≤ r ∧ r ≤ 5 <;> cases h2 : seatX t hh <;> cases hc : rightA n s <;> simp [rightF, okF, namedF, restF, FX.nums, rulesM, runR, RuM.ok, RuM.tkL, RuM.tkX, leftF, hc, h1, h2]
 ·by_cases h4 : c = 1 ∨ c = 2
  all_goals have h5 : (1 ≤ c ∧ c ≤ 2) = (c = 1 ∨ c = 2) := propext (by omega)
  all_goals cases hc : rightA n s <;> simp [rightF, okF, namedF, restF, FX.nums, rulesM, runR, RuM.ok, RuM.tkL, RuM.tkX, leftF, hc, h4, h5]
 ·cases hc : rightA n s <;> simp [rightF, okF, namedF, restF, FX.nums, rulesM, runR, RuM.ok, RuM.tkL, RuM.tkX, leftF, hc]
 ·by_cases h3 : 0 ≤ p ∧ p ≤ 7 <;> by_cases h4 : q = 1 ∨ q = 2
  all_goals have h5 : (1 ≤ q ∧ q ≤ 2) = (q = 1 ∨ q = 2) := propext (by omega)
  all_goals cases hc : rightA n s <;> simp [rightF, okF, namedF, restF, FX.nums, rulesM, runR, RuM.ok, RuM.tkL, RuM.tkX, leftF, hc, h3, h4, h5]
 ·by_cases h3 : 0 ≤ p ∧ p ≤ 7 <;> by_cases h1 : 0 ≤ r ∧ r ≤ 5
  all_goals simp [rightF, okF, namedF, restF, FX.nums, rulesM, runR, RuM.ok, RuM.tkL, RuM.tkX, leftF, h1, h3]
 ·by_cases h3 : 0 ≤ p ∧ p ≤ 7 <;> cases h2 : seatX t hh <;> simp [rightF, okF, namedF, restF, FX.nums, rulesM, runR, RuM.ok, RuM.tkL, RuM.tkX, leftF, h2, h3]
theorem right_far {f : FX} (h : ¬ (1 ≤ f.k ∧ f.k ≤ 8)) : rightF f = false := by
 unfold rightF okF; rw [if_neg (by omega), if_neg (by omega), if_neg (by omega), if_neg (by omega), if_neg (by omega), if_neg (by omega), if_neg (by omega), if_neg (by omega)]
 simp
def rightT (p e : Int) : Bool := decide ((p = 1 ∨ p = 2) ∧ (e = 1 ∨ e = 2))
def hasT (p e s : Int) : Bool := if s = 4 ∨ s = 10 then decide (p = 2) else if s = 3 then decide (p = 2 ∧ e = 1) else decide (1 ≤ s ∧ s ≤ 14)
def failT (s : Int) : Bool := decide (8 ≤ s ∧ s ≤ 11)
def upT (k : Int) : Bool := decide (k = 1 ∨ (3 ≤ k ∧ k ≤ 8))
def downT (p k : Int) : Bool := decide ((k = 2 ∧ p = 2) ∨ (9 ≤ k ∧ k ≤ 14))
def takesT (p e k : Int) : Bool := if e = 1 then upT k else downT p k
def sendsT (p e k : Int) : Bool := if e = 2 then upT k else downT p k
def waitT (e s : Int) : Int :=
 if e = 1 then (if s = 2 ∨ s = 3 then 10 else if s = 4 then 2 else if s = 6 then 9 else if s = 7 then 11 else 0)
 else (if s = 5 then 3 else if failT s then 4 else if s = 12 then 5 else if s = 13 then 1 else 0)
def toT (s : Int) : Int × Int × Int := (1, s, 0)
def ignT : Int × Int × Int := (2, 0, 0)
def againT (k : Int) : Int × Int × Int := (3, 0, k)
def badT : Int × Int × Int := (4, 0, 0)
def coordT (p k s : Int) : Int × Int × Int :=
 if k = 1 then (if s = 1 ∨ s = 2 ∨ s = 3 ∨ s = 4 then toT 13 else if s = 13 then ignT else if s = 14 then againT 13 else badT)
 else if k = 3 then (if s = 1 ∨ s = 2 then (if p = 1 then toT 5 else badT) else if s = 3 ∨ s = 4 then toT 5 else if s = 5 ∨ s = 11 ∨ s = 14 then ignT else if s = 6 then againT 9 else if s = 7 then againT 11 else badT)
 else if k = 4 then (if s = 1 then toT 8 else if s = 2 ∨ s = 3 then toT 9 else if s = 4 then toT 10 else if s = 7 then toT 11 else if failT s then ignT else if s = 14 then againT 12 else badT)
 else if k = 5 then (if s = 1 ∨ s = 2 ∨ s = 3 ∨ s = 4 then toT 12 else if s = 12 then ignT else if s = 14 then againT 14 else badT)
 else if k = 6 ∨ k = 7 ∨ k = 8 then (if s = 14 then ignT else if (k = 6 ∧ (s = 2 ∨ s = 3)) ∨ (k = 7 ∧ s = 6) ∨ (k = 8 ∧ s = 7) then toT 14 else badT)
 else badT
def prtT (k s : Int) : Int × Int × Int :=
 if k = 2 then (if s = 1 then toT 4 else if waitT 2 s ≠ 0 then againT (waitT 2 s) else ignT)
 else if k = 10 then (if s = 1 ∨ s = 4 then toT 2 else if waitT 2 s ≠ 0 then againT (waitT 2 s) else if s = 14 then againT 6 else ignT)
 else if k = 9 then (if s = 5 then toT 6 else if s = 6 then ignT else if s = 14 then againT 7 else badT)
 else if k = 11 then (if s = 5 then toT 7 else if s = 7 then ignT else if s = 11 then againT 4 else if s = 14 then againT 8 else badT)
 else if k = 12 ∨ k = 13 ∨ k = 14 then (if s = 14 then ignT else if (k = 12 ∧ failT s = true) ∨ (k = 13 ∧ s = 13) ∨ (k = 14 ∧ s = 12) then toT 14 else badT)
 else badT
def cellT (p e k s : Int) : Int × Int × Int := if e = 1 then coordT p k s else prtT k s
def goesT (p k s : Int) : Int :=
 if k = 2 then (if s = 1 then 4 else 0)
 else if k = 10 then (if s = 1 then 2 else if s = 4 then 3 else 0)
 else if k = 9 then (if s = 5 then 6 else 0)
 else if k = 11 then (if s = 5 then 7 else 0)
 else if k = 12 then (if failT s then 14 else 0)
 else if k = 13 then (if s = 13 then 14 else 0)
 else if k = 14 then (if s = 12 then 14 else 0)
 else if k = 1 then (if s = 1 ∨ s = 4 then 13 else 0)
 else if k = 5 then (if s = 1 ∨ s = 4 then 12 else 0)
 else if k = 3 then (if (p = 1 ∧ s = 1) ∨ (p = 2 ∧ s = 4) then 5 else 0)
 else if k = 4 then (if s = 1 then 8 else if s = 2 then 9 else if s = 4 then 10 else if s = 7 then 11 else 0)
 else if k = 6 then (if s = 2 then 14 else 0)
 else if k = 7 then (if s = 6 then 14 else 0)
 else if k = 8 then (if s = 7 then 14 else 0) else 0
def lookT (p e k s : Int) : Int × (Int × Int × Int) :=
 if rightT p e = false then (14, 0, 0, 0) else if takesT p e k = false then (4, 0, 0, 0) else if hasT p e s = false then (1, 0, 0, 0) else (0, cellT p e k s)
def stepT (p e k s : Int) : Int × Int :=
 if rightT p e = false then (14, 0) else if sendsT p e k = false then (4, 0) else if hasT p e s = false then (1, 0) else if goesT p k s = 0 then (9, 0) else (0, goesT p k s)
def waitsT (p e s : Int) : Int × Int :=
 if rightT p e = false then (14, 0) else if hasT p e s = false then (1, 0) else (0, waitT e s)
def allT : List Int := [1, 2, 3, 4, 5, 6, 7, 8, 9, 10, 11, 12, 13, 14, 15, 16, 17, 18, 19]
def cellV (c : Int × Int × Int) : Array Value := #[.int .i64 c.1, .int .i64 c.2.1, .int .i64 c.2.2]
structure SeatM where
 (p e s h : Int)
deriving DecidableEq
structure EffM where
 (z : SeatM) (send fault work : Int) (changed : Bool)
def eff0 : EffM := ⟨⟨0, 0, 0, 0⟩, 0, 0, 0, false⟩
def SeatM.right (z : SeatM) : Bool := rightT z.p z.e && hasT z.p z.e z.s && (if z.s = 14 then decide (z.h = 1 ∨ (4 ≤ z.h ∧ z.h ≤ 8)) else decide (z.h = 0))
def SeatM.work (z : SeatM) : Int := if z.e = 2 then (if z.s = 4 then 2 else if z.s = 6 then 9 else if z.s = 2 then 10 else if z.s = 7 then 11 else 0) else 0
def SeatM.waits (z : SeatM) : Int := waitT z.e z.s
def SeatM.moved (z : SeatM) (s h send : Int) : EffM := ⟨⟨z.p, z.e, s, if s = 14 then h else z.h⟩, send, 0, SeatM.work ⟨z.p, z.e, s, if s = 14 then h else z.h⟩, true⟩
def howT (k : Int) : Int := if k = 12 then 4 else if k = 13 then 1 else if k = 14 then 5 else 0
def howD (k : Int) : Int := if k = 12 then 4 else if k = 13 then 1 else if k = 14 then 5 else k
def SeatM.tellC (z : SeatM) (k : Int) (c : Int × Int × Int) : EffM :=
 if c.1 = 2 then ⟨z, 0, 0, 0, false⟩ else if c.1 = 3 then ⟨z, c.2.2, 0, 0, false⟩ else if c.1 = 4 then ⟨z, 0, 1, 0, false⟩
 else if z.e = 1 then (if c.2.1 = 13 then z.moved 14 1 13 else if c.2.1 = 12 then z.moved 14 5 14 else if 8 ≤ c.2.1 ∧ c.2.1 ≤ 11 then z.moved 14 4 12 else z.moved c.2.1 k 0)
 else z.moved c.2.1 (howT k) 0
def SeatM.tell (z : SeatM) (k : Int) : Int × EffM :=
 if z.right = false then (4, eff0) else if (lookT z.p z.e k z.s).1 ≠ 0 then (0, ⟨z, 0, 2, 0, false⟩) else (0, z.tellC k (lookT z.p z.e k z.s).2)
def SeatM.act (z : SeatM) (k : Int) : Int × EffM :=
 if z.right = false then (4, eff0) else if (stepT z.p z.e k z.s).1 ≠ 0 then ((stepT z.p z.e k z.s).1, eff0) else (0, z.moved (stepT z.p z.e k z.s).2 (howD k) k)
structure RS where
 (c x : Int × Int) (h : List (Int × Int)) (w : List Int) (d : Bool)
deriving DecidableEq
structure RgM where
 (node part : Int) (z : SeatM)
deriving DecidableEq
structure AcM where
 (c : CX) (par dec : Int) (regs : List RgM)
deriving DecidableEq
structure PaM where
 (n s reg : Int) (z : SeatM)
deriving DecidableEq
structure StM where
 (node next : Int) (acts : List AcM) (parts : List PaM)
deriving DecidableEq
def newSt (node : Int) : StM := ⟨node, 0, [], []⟩
def findS (l : List AcM) (n s : Int) : Option Nat := l.findIdx? fun a => decide (a.c.n = n ∧ a.c.s = s)
def childS (l : List AcM) (p : Int) : Option Nat := if p < 0 then none else l.findIdx? fun a => decide (a.par = p + 1)
def turnS (z : SeatM) (t h : Int) : Option SeatM := if z.s ≠ 14 ∧ SeatM.right ⟨z.p, z.e, t, h⟩ = true then some ⟨z.p, z.e, t, h⟩ else none
def actS (m : StM) (i : Nat) (a : AcM) (f : FX) : Option StM :=
 if f.k = 2 then
  if f.r ≠ a.regs.length ∨ a.dec ≠ 0 ∨ a.regs.any (fun g => decide (g.node = f.e ∧ g.part = f.p)) then none
  else some { m with acts := m.acts.set i { a with regs := a.regs ++ [⟨f.e, f.p, ⟨f.q, 1, 1, 0⟩⟩] } }
 else if f.k = 3 then
  match a.regs[f.r.toNat]? with
  | none => none
  | some g => (turnS g.z f.t f.h).map fun z => { m with acts := m.acts.set i { a with regs := a.regs.set f.r.toNat { g with z := z } } }
 else if f.k = 4 then
  if a.c.o ≠ 1 ∨ a.dec ≠ 0 then none else some { m with acts := m.acts.set i { a with dec := f.c } }
 else if f.k = 5 then
  if a.regs.any (fun g => decide (g.z.s ≠ 14)) then none else some { m with acts := m.acts.eraseIdx i }
 else some m
def doS (m : StM) (f : FX) : Option StM :=
 if f.k = 1 then
  if f.n ≠ m.node ∨ f.s < m.next ∨ 8 ≤ m.acts.length ∨ (0 < f.a ∧ (m.parts.length < f.a ∨ (childS m.acts (f.a - 1)).isSome)) then none
  else some { m with acts := m.acts ++ [⟨ctxF f, f.a, 0, []⟩], next := f.s + 1 }
 else if f.k = 6 then
  if f.p ≠ m.parts.length then none else some { m with parts := m.parts ++ [⟨f.n, f.s, -1, ⟨f.q, 2, 1, 0⟩⟩] }
 else if f.k = 7 then
  match m.parts[f.p.toNat]? with
  | none => none
  | some x => if 0 ≤ x.reg then none else some { m with parts := m.parts.set f.p.toNat { x with reg := f.r } }
 else if f.k = 8 then
  match m.parts[f.p.toNat]? with
  | none => none
  | some x => (turnS x.z f.t f.h).map fun z => { m with parts := m.parts.set f.p.toNat { x with z := z } }
 else match findS m.acts f.n f.s with
  | none => none
  | some i => match m.acts[i]? with
   | none => none
   | some a => actS m i a f
def lastS (l : List AcM) : Int := (l.getLast?.map (·.c.s)).getD (-1)
def stepS (m : StM) (f : FX) : Option StM := if rightF f = true then doS m f else none
def runS (m : StM) : List FX → Option StM
 | [] => some m
 | f :: l => (stepS m f).bind fun m2 => runS m2 l
theorem runS_app : ∀ (a b : List FX) (m : StM), runS m (a ++ b) = (runS m a).bind fun m2 => runS m2 b
 | [], _, _ => rfl
 | f :: a, b, m => by
  show (stepS m f).bind _ = ((stepS m f).bind _).bind _
  cases stepS m f with
  | none => rfl
  | some m2 => exact runS_app a b m2
theorem right_enr {n s r e p q : Int} (h : rightA n s = true) (hr : 0 ≤ r ∧ r ≤ 5) (he : 0 ≤ e ∧ e ≤ 3) (hp : 0 ≤ p ∧ p ≤ 7) (hq : q = 1 ∨ q = 2) : rightF ⟨2, n, s, r, e, p, q, 0, 0, 0, 0, 0, 0, 0⟩ = true := by
 simp [rightF, restF, namedF, FX.nums, okF, h, hr, he, hp, hq]
theorem right_sea {n s r t hh : Int} (h : rightA n s = true) (hr : 0 ≤ r ∧ r ≤ 5) (ht : seatX t hh = true) : rightF ⟨3, n, s, r, 0, 0, 0, 0, 0, 0, t, hh, 0, 0⟩ = true := by
 simp [rightF, restF, namedF, FX.nums, okF, h, hr, ht]
def OkZ (z : SeatM) (e : Int) : Prop := z.right = true ∧ z.e = e
theorem OkZ.p {z : SeatM} {e : Int} (h : OkZ z e) : z.p = 1 ∨ z.p = 2 := by
 have := h.1
 simp [SeatM.right, rightT] at this
 exact this.1.1.1
theorem OkZ.seat {z : SeatM} {e : Int} (h : OkZ z e) : seatX z.s z.h = true := by
 have h1 := h.1; simp only [SeatM.right, hasT, Bool.and_eq_true] at h1
 obtain ⟨⟨_, h2⟩, h3⟩ := h1; unfold seatX
 by_cases q : z.s = 14
 ·rw [if_pos q] at h3 ⊢; exact h3
 ·rw [if_neg q] at h3 ⊢; have h4 : 1 ≤ z.s ∧ z.s ≤ 14 := by
   split at h2
   ·omega
   ·split at h2
    ·omega
    ·simpa using h2
  simp at h3
  simp [h3]
  omega
def OkP (x : PaM) : Prop := rightA x.n x.s = true ∧ -1 ≤ x.reg ∧ x.reg ≤ 5 ∧ OkZ x.z 2
def OkG (g : RgM) : Prop := 0 ≤ g.node ∧ g.node ≤ 3 ∧ 0 ≤ g.part ∧ g.part ≤ 7 ∧ OkZ g.z 1
theorem rightX_act {c : CX} (h : rightX c = true) : rightA c.n c.s = true := by
 unfold rightX at h; rw [Bool.and_eq_true] at h; exact h.1
structure OkA (node : Int) (a : AcM) : Prop where
 n : a.c.n = node
 c : rightX a.c = true
 p0 : 0 ≤ a.par
 p8 : a.par ≤ 8
 l : a.regs.length ≤ 6
 g : ∀ g ∈ a.regs, OkG g
 d : a.regs.Pairwise (fun g h => ¬ (g.node = h.node ∧ g.part = h.part))
 e : a.dec = 0 ∨ ((a.dec = 1 ∨ a.dec = 2) ∧ a.c.o = 1)
def seqS : Int → List AcM → Prop
 | _, [] => True
 | nx, a :: l => nx ≤ a.c.s ∧ seqS (a.c.s + 1) l
def nextS : Int → List AcM → Int
 | nx, [] => nx
 | _, a :: l => nextS (a.c.s + 1) l
theorem nextS_last : ∀ (l : List AcM) (nx : Int), nextS nx l = if l = [] then nx else lastS l + 1
 | [], _ => rfl
 | [a], _ => rfl
 | a :: b :: l, nx => by
  have := nextS_last (b :: l) (a.c.s + 1)
  show nextS (a.c.s + 1) (b :: l) = _
  rw [this]
  simp [lastS]
structure OkS (m : StM) : Prop where
 n : 0 ≤ m.node ∧ m.node ≤ 3
 a : ∀ a ∈ m.acts, OkA m.node a
 par : ∀ a ∈ m.acts, a.par ≤ m.parts.length
 seq : seqS 0 m.acts
 dis : m.acts.Pairwise (fun x y => y.par ≠ 0 → x.par ≠ y.par)
 l8 : m.acts.length ≤ 8
 p : ∀ x ∈ m.parts, OkP x
 p8 : m.parts.length ≤ 8
 nx : lastS m.acts + 1 ≤ m.next
 last : lastS m.acts = m.next - 1 ∨ (m.acts.length ≤ 7 ∧ rightA m.node (m.next - 1) = true)
theorem seqS_lt : ∀ (l : List AcM) (nx : Int), seqS nx l → ∀ x ∈ l, x.c.s < nextS nx l
 | a :: l, nx, h, x, hx => by
  have hm : a.c.s + 1 ≤ nextS (a.c.s + 1) l := seqS_le l _ h.2
  rcases List.mem_cons.1 hx with rfl | hx
  ·show _ < nextS (_ + 1) l
   omega
  ·exact seqS_lt l _ h.2 x hx
 where seqS_le : ∀ (l : List AcM) (nx : Int), seqS nx l → nx ≤ nextS nx l
 | [], _, _ => Int.le_refl _
 | a :: l, nx, h => by
  have h1 := seqS_le l _ h.2; have h2 := h.1
  show nx ≤ nextS (a.c.s + 1) l
  omega
end Go.Proofs.YtlmlmhmhgdjhnaaGreatDoor
