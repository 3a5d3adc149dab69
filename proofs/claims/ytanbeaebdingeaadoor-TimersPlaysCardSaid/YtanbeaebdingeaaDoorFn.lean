/-
  PLAIN MATHEMATICS OF FLOATS, 2 (own work): doubling, sums, the lesser of two, by words.
-/
import Derived.Test.YtanbeaebdingeaaDoorFm
namespace Go.Proofs.YtanbeaebdingeaaDoor.Fl
open Ieee

theorem log2_mul_pow {m : Nat} (h : 0 < m) (k : Nat) : (m * 2 ^ k).log2 = m.log2 + k := by
  induction k with
  | zero => simp
  | succ k ih =>
    have hp : 0 < m * 2 ^ k := Nat.mul_pos h (Nat.two_pow_pos k)
    rw [show m * 2 ^ (k + 1) = 2 * (m * 2 ^ k) by rw [Nat.pow_succ]; ac_rfl, Nat.log2_two_mul (by omega), ih]; omega

theorem log2_of {m n : Nat} (h1 : 2 ^ n ≤ m) (h2 : m < 2 ^ (n + 1)) : m.log2 = n := by
  have h0 : m ≠ 0 := by have := Nat.two_pow_pos n; omega
  have a : n ≤ m.log2 := (Nat.le_log2 h0).2 h1
  have b : m.log2 < n + 1 := (Nat.log2_lt h0).2 h2
  omega

theorem cut_exact (neg : Bool) (m k : Nat) (hm : 0 < m) : Toward.even.cut neg (m * 2 ^ k) k = m := by
  unfold Toward.cut
  rw [log2_mul_pow hm]
  have e : min k (m.log2 + k + 2) = k := by omega
  have hp : 0 < 2 ^ k := Nat.two_pow_pos k
  simp only [e, Nat.shiftLeft_eq, Nat.one_mul, Nat.mul_div_cancel m hp, Nat.mul_mod_left]
  have : (decide (2 ^ k < 2 * 0) || (2 ^ k == 2 * 0 && m % 2 == 1)) = false := by
    simp
  rw [this]; rfl

theorem mag_pos {r : Nat} (h : 0 < r) : 0 < mag r := by unfold mag; split <;> omega
theorem plc_mag (r : Nat) : plc r * 4503599627370496 + mag r = r := by
  unfold plc mag
  split
  · omega
  · have : 1 ≤ r / 4503599627370496 := by omega
    rw [Nat.sub_mul]; omega

theorem wordF (r : Nat) : double.word false r = r := rfl

/-- an exact value's word is its rung; too great a one's is infinity's -/
theorem nearest_mag (r k : Nat) : double.nearest false (mag r * 2 ^ k) (-1074 + (plc r : Nat) - (k : Nat)) = min r 9218868437227405312 := by
  unfold Format.nearest
  rw [ir, lp, bi]
  by_cases h0 : r = 0
  · subst h0
    rw [if_pos (by simp [mag])]
    rfl
  · have hm := mag_pos (Nat.pos_of_ne_zero h0)
    have hp : 0 < 2 ^ k := Nat.two_pow_pos k
    rw [if_neg (by intro h; rcases Nat.mul_eq_zero.1 h with h | h <;> omega)]
    have hl := log2_mul_pow hm k
    have hlast : max (-1074 + (plc r : Int) - (k : Int) + ((mag r * 2 ^ k).log2 : Int) - (double.fractionBits : Int)) (-1074) = -1074 + (plc r : Int) := by
      rw [hl, show (double.fractionBits : Int) = 52 from rfl]
      by_cases hr : r < 4503599627370496
      · have : (mag r).log2 < 52 := (Nat.log2_lt (by omega)).2 (by unfold mag; rw [if_pos hr]; exact hr)
        have : plc r = 0 := by unfold plc; rw [if_pos hr]
        omega
      · have : (mag r).log2 = 52 := log2_of (by unfold mag; rw [if_neg hr]; omega) (by unfold mag; rw [if_neg hr]; omega)
        omega
    dsimp only
    rw [hlast]
    have e1 : (-1074 + (plc r : Int) - (k : Int) - (-1074 + (plc r : Int))).toNat = 0 := by omega
    have e2 : (-1074 + (plc r : Int) - (-1074 + (plc r : Int) - (k : Int))).toNat = k := by omega
    have e3 : (-1074 + (plc r : Int) - (-1074)).toNat = plc r := by omega
    rw [e1, e2, e3, Nat.shiftLeft_zero, cut_exact false _ _ hm, plc_mag, wordF]

/-- doubling, by rungs -/
def dblR (b : Nat) : Nat := if b < 4503599627370496 then 2 * b else min (b + 4503599627370496) 9218868437227405312

theorem mag_dbl_small {b : Nat} (h : b < 4503599627370496) : mag (2 * b) = 2 * b ∧ plc (2 * b) = 0 := by
  unfold mag plc
  by_cases g : 2 * b < 4503599627370496
  · rw [if_pos g, if_pos g]; omega
  · rw [if_neg g, if_neg g]; omega
theorem mag_dbl_great {b : Nat} (h : ¬ b < 4503599627370496) : mag (b + 4503599627370496) = mag b ∧ plc (b + 4503599627370496) = plc b + 1 := by
  unfold mag plc
  rw [if_neg h, if_neg h, if_neg (by omega), if_neg (by omega)]; omega

theorem read_two : double.read 4611686018427387904 = .number false 4503599627370496 (-51) := by kernel_rfl

theorem mul_two {b : Nat} (h : b ≤ 9218868437227405312) : double.mul b 4611686018427387904 = some (dblR b) := by
  unfold Format.mul
  rw [read_two]
  rcases Nat.lt_or_eq_of_le h with h1 | h1
  · rw [read_pos_fin h1]
    simp only [Datum.product, Option.map_some, Format.write]
    congr 1
    unfold dblR
    rw [show (false ^^ false) = false from rfl]
    by_cases hs : b < 4503599627370496
    · rw [if_pos hs]
      obtain ⟨e1, e2⟩ := mag_dbl_small hs
      have hm : mag b = b := by unfold mag; rw [if_pos hs]
      have hp : plc b = 0 := by unfold plc; rw [if_pos hs]
      have := nearest_mag (2 * b) 51
      rw [e1, e2] at this
      rw [hm, hp]
      rw [show b * 4503599627370496 = 2 * b * 2 ^ 51 by omega, show (-1074 + ((0 : Nat) : Int) + -51) = (-1074 + ((0 : Nat) : Int) - ((51 : Nat) : Int)) by omega, this]
      omega
    · rw [if_neg hs]
      obtain ⟨e1, e2⟩ := mag_dbl_great hs
      have := nearest_mag (b + 4503599627370496) 52
      rw [e1, e2] at this
      rw [← this, show mag b * 4503599627370496 = mag b * 2 ^ 52 by omega, show (-1074 + (plc b : Int) + -51) = (-1074 + ((plc b + 1 : Nat) : Int) - ((52 : Nat) : Int)) by omega]
  · subst h1
    rw [read_inf]; kernel_rfl

theorem add_self {b : Nat} (h : b ≤ 9218868437227405312) : double.add b b = some (dblR b) := by
  unfold Format.add
  rcases Nat.lt_or_eq_of_le h with h1 | h1
  · rw [read_pos_fin h1]
    simp only [Datum.sum, Option.map_some, Format.write]
    congr 1
    have e0 : min (-1074 + (plc b : Int)) (-1074 + (plc b : Int)) = -1074 + (plc b : Int) := by omega
    rw [e0, Int.sub_self, Int.toNat_zero]
    have e1 : signed false (mag b) 0 + signed false (mag b) 0 = ((2 * mag b : Nat) : Int) := by unfold signed; simp; omega
    rw [e1, Int.natAbs_natCast]
    have e2 : (if ((2 * mag b : Nat) : Int) = 0 then (false && false) else decide (((2 * mag b : Nat) : Int) < 0)) = false := by
      split
      · rfl
      · simp; omega
    rw [e2]
    unfold dblR
    by_cases hs : b < 4503599627370496
    · rw [if_pos hs]
      obtain ⟨e3, e4⟩ := mag_dbl_small hs
      have hm : mag b = b := by unfold mag; rw [if_pos hs]
      have hp : plc b = 0 := by unfold plc; rw [if_pos hs]
      have := nearest_mag (2 * b) 0
      rw [e3, e4] at this
      rw [hm, hp]
      rw [Nat.pow_zero, Nat.mul_one, show (-1074 + ((0 : Nat) : Int) - ((0 : Nat) : Int)) = (-1074 + ((0 : Nat) : Int)) by omega] at this
      rw [this]
      omega
    · rw [if_neg hs]
      obtain ⟨e3, e4⟩ := mag_dbl_great hs
      have := nearest_mag (b + 4503599627370496) 1
      rw [e3, e4] at this
      rw [← this, show 2 * mag b = mag b * 2 ^ 1 by omega, show (-1074 + (plc b : Int)) = (-1074 + ((plc b + 1 : Nat) : Int) - ((1 : Nat) : Int)) by omega]
  · subst h1
    rw [read_inf]; kernel_rfl

theorem dblR_le {b : Nat} (h : b ≤ 9218868437227405312) : dblR b ≤ 9218868437227405312 := by unfold dblR; split <;> omega
theorem le_dblR {b : Nat} (h : b ≤ 9218868437227405312) : b ≤ dblR b := by unfold dblR; split <;> omega

/-- doubled n times -/
def dbls : Nat → Nat → Nat
  | 0, b => b
  | n + 1, b => dblR (dbls n b)
theorem dbls_succ (n b : Nat) : dbls (n + 1) b = dblR (dbls n b) := rfl
theorem dbls_le {b : Nat} (h : b ≤ 9218868437227405312) (n : Nat) : dbls n b ≤ 9218868437227405312 := by
  induction n with
  | zero => exact h
  | succ n ih => exact dblR_le ih
theorem dbls_mono {b : Nat} (h : b ≤ 9218868437227405312) {n m : Nat} (hnm : n ≤ m) : dbls n b ≤ dbls m b := by
  induction hnm with
  | refl => exact Nat.le_refl _
  | step _ ih => exact Nat.le_trans ih (le_dblR (dbls_le h _))
theorem dbls_zero (n : Nat) : dbls n 0 = 0 := by
  induction n with
  | zero => rfl
  | succ n ih => show dblR (dbls n 0) = 0; rw [ih]; rfl
theorem dbls_from {b : Nat} {n m : Nat} (hnm : n ≤ m) (h : dbls n b = 0) : dbls m b = 0 := by
  induction hnm with
  | refl => exact h
  | step _ ih => show dblR (dbls _ b) = 0; rw [ih]; rfl
theorem dbls_pow {b : Nat} (hb : 1 ≤ b) (n : Nat) (hn : n ≤ 52) : 2 ^ n ≤ dbls n b := by
  induction n with
  | zero => exact hb
  | succ n ih =>
    have ih := ih (by omega)
    have h52 : 2 ^ (n + 1) ≤ 2 ^ 52 := Nat.pow_le_pow_right (by omega) hn
    show 2 ^ (n + 1) ≤ dblR (dbls n b)
    unfold dblR
    split
    · rw [Nat.pow_succ]; omega
    · omega
theorem far_step {x y t u : Nat} (hu : u = t + 4503599627370496) (ih : min t 9218868437227405312 ≤ x) (ht : 4503599627370496 ≤ t)
    (h2 : min (x + 4503599627370496) 9218868437227405312 ≤ y ∨ x < 4503599627370496) : min u 9218868437227405312 ≤ y := by
  subst hu
  by_cases h : t ≤ 9218868437227405312
  · rw [Nat.min_eq_left h] at ih
    omega
  · rw [Nat.min_eq_right (by omega)] at ih
    omega
theorem dbls_far {b : Nat} (hb : 1 ≤ b) (n : Nat) : ∀ m, m = n + 52 → min ((n + 1) * 4503599627370496) 9218868437227405312 ≤ dbls m b := by
  induction n with
  | zero =>
    intro m hm
    have := dbls_pow hb m (by omega)
    have e : 2 ^ m = 4503599627370496 := by rw [show m = 52 by omega]
    rw [e] at this
    rw [Nat.zero_add, Nat.one_mul]
    exact Nat.le_trans (Nat.min_le_left _ _) this
  | succ n ih =>
    intro m hm
    obtain ⟨k, rfl⟩ : ∃ k, m = k + 1 := ⟨m - 1, by omega⟩
    have ih := ih k (by omega)
    rw [dbls_succ]
    refine far_step (Nat.succ_mul _ _) ih ?_ ?_
    · exact Nat.le_mul_of_pos_left _ (Nat.succ_pos n)
    · unfold dblR
      by_cases g : dbls k b < 4503599627370496
      · exact Or.inr g
      · rw [if_neg g]; exact Or.inl (Nat.le_refl _)
theorem dbls_end {b : Nat} (hb : 1 ≤ b) (h : b ≤ 9218868437227405312) {n : Nat} (hn : 2200 ≤ n) : dbls n b = 9218868437227405312 := by
  have h1 := dbls_far hb 2148 2200 (by omega)
  have h2 := dbls_mono h hn
  have h3 := dbls_le h n
  have e : min ((2148 + 1) * 4503599627370496) 9218868437227405312 = 9218868437227405312 := by omega
  rw [e] at h1
  omega
theorem dbls_cap {b : Nat} (h : b ≤ 9218868437227405312) (n : Nat) : dbls n b = dbls (min n 2200) b := by
  by_cases hn : n ≤ 2200
  · rw [Nat.min_eq_left hn]
  · rw [Nat.min_eq_right (by omega)]
    by_cases hb : b = 0
    · subst hb; rw [dbls_zero, dbls_zero]
    · rw [dbls_end (by omega) h (by omega), dbls_end (by omega) h (by omega)]

/-- a delay's plain form is a rung up to infinity's -/
theorem dl_plain {b : Nat} (h : dl b = true) : plain b ≤ 9218868437227405312 ∧ (b ≤ 9218868437227405312 ∨ b = 9223372036854775808) := by
  unfold dl at h
  simp only [Bool.and_eq_true, Bool.not_eq_true', decide_eq_true_eq] at h
  obtain ⟨hn, hb⟩ := h
  unfold plain
  rw [hn]
  unfold isNan at hn
  have hn := of_decide_eq_false hn
  simp only [Bool.false_eq_true, if_false]
  split <;> omega
theorem dl_of_le {b : Nat} (h : b ≤ 9218868437227405312) : dl b = true ∧ isNan b = false ∧ plain b = b := by
  have hn : isNan b = false := by unfold isNan; exact decide_eq_false (by omega)
  refine ⟨?_, hn, ?_⟩
  · unfold dl; rw [hn]; simp; omega
  · unfold plain; rw [hn]; simp; omega
theorem ord_of_le {a b : Nat} (h : a ≤ 9218868437227405312) (g : b ≤ 9218868437227405312) : ord a b = cmpN a b := by
  obtain ⟨_, ha, _⟩ := dl_of_le h
  obtain ⟨_, hb, _⟩ := dl_of_le g
  unfold ord place cmpN
  rw [ha, hb]
  simp only [Bool.false_eq_true, if_false]
  rw [if_neg (show ¬ 9223372036854775808 ≤ a by omega), if_neg (show ¬ 9223372036854775808 ≤ b by omega)]
  have e1 : (a + 9223372036854775808 < b + 9223372036854775808) ↔ a < b := by omega
  have e2 : (b + 9223372036854775808 < a + 9223372036854775808) ↔ b < a := by omega
  simp only [e1, e2]

/-- among delays the key is the plain form -/
theorem dl_key {b : Nat} (h : dl b = true) : key b = (plain b : Int) ∧ isNan b = false := by
  have hn : isNan b = false := by unfold dl at h; simp only [Bool.and_eq_true, Bool.not_eq_true'] at h; exact h.1
  refine ⟨?_, hn⟩
  rcases (dl_plain h).2 with g | rfl
  · rw [(dl_of_le g).2.2, key_pos (by omega)]
  · rfl
theorem dl_lt {b : Nat} (h : dl b = true) : b < 18446744073709551616 := by rcases (dl_plain h).2 with g | g <;> omega

/-- the lesser of two, as the builtin min has it -/
def mn2 (a b : Nat) : Nat := if key a < key b then a else if key b < key a then b else if 9223372036854775808 ≤ a then a else b
theorem mn2_plain {a b : Nat} (ha : dl a = true) (hb : dl b = true) : plain (mn2 a b) = min (plain a) (plain b) ∧ dl (mn2 a b) = true := by
  obtain ⟨ka, _⟩ := dl_key ha
  obtain ⟨kb, _⟩ := dl_key hb
  unfold mn2
  rw [ka, kb]
  by_cases h1 : (plain a : Int) < (plain b : Int)
  · rw [if_pos h1]; exact ⟨by omega, ha⟩
  · rw [if_neg h1]
    by_cases h2 : (plain b : Int) < (plain a : Int)
    · rw [if_pos h2]; exact ⟨by omega, hb⟩
    · rw [if_neg h2]
      split
      · exact ⟨by omega, ha⟩
      · exact ⟨by omega, hb⟩
/-- the tests of two delays -/
theorem dl_isLt {a b : Nat} (ha : dl a = true) (hb : dl b = true) : isLt a b = decide (plain a < plain b) := by
  unfold isLt; rw [(dl_key ha).1, (dl_key ha).2, (dl_key hb).1, (dl_key hb).2, Bool.eq_iff_iff]; simp
theorem dl_isEq {a b : Nat} (ha : dl a = true) (hb : dl b = true) : isEq a b = decide (plain a = plain b) := by
  unfold isEq; rw [(dl_key ha).1, (dl_key ha).2, (dl_key hb).1, (dl_key hb).2, Bool.eq_iff_iff]; simp; omega

/-- the walk's invariant: x has been doubled k times -/
def Inv (a k x : Nat) : Prop := dl x = true ∧ plain x = dbls k (plain a)
theorem inv_start {a : Nat} (h : dl a = true) : Inv a 0 a := ⟨h, rfl⟩
theorem inv_step {a k x : Nat} (h : Inv a k x) (hz : plain x ≠ 0) : x ≤ 9218868437227405312 ∧ Inv a (k + 1) (dblR x) := by
  obtain ⟨hd, hp⟩ := h
  rcases (dl_plain hd).2 with g | g
  · obtain ⟨_, _, e⟩ := dl_of_le g
    obtain ⟨d1, _, e1⟩ := dl_of_le (dblR_le g)
    refine ⟨g, d1, ?_⟩
    rw [e1, dbls_succ, ← hp, e]
  · exact absurd (by rw [g]; rfl) hz
/-- a delay doubled, the most at most -/
def backR (base times most : Nat) : Nat := min (dbls times (plain base)) (plain most)
theorem back_end {a n m x : Nat} (h : Inv a n x) (hm : dl m = true) : plain (mn2 x m) = backR a n m := by
  rw [(mn2_plain h.1 hm).1, h.2]; rfl
theorem back_zero {a k n m x : Nat} (h : Inv a k x) (hk : k ≤ n) (hm : dl m = true) (hz : plain x = 0) : plain (mn2 x m) = backR a n m := by
  rw [(mn2_plain h.1 hm).1, hz]
  unfold backR
  rw [dbls_from hk (h.2 ▸ hz)]
theorem back_most {a k n m x : Nat} (ha : dl a = true) (h : Inv a k x) (hk : k ≤ n) (hm : dl m = true) (hz : plain m ≤ plain x) : plain (mn2 x m) = backR a n m := by
  rw [(mn2_plain h.1 hm).1]
  unfold backR
  have := dbls_mono (dl_plain ha).1 hk
  rw [← h.2] at this
  omega

theorem ord_self (a : Nat) : ord a a = 0 := by unfold ord cmpN; rw [if_neg (by omega), if_neg (by omega)]
theorem cmpN_spec (x y : Nat) : (cmpN x y = -1 ∧ x < y) ∨ (cmpN x y = 1 ∧ y < x) ∨ (cmpN x y = 0 ∧ x = y) := by
  unfold cmpN
  by_cases h : x < y
  · left; rw [if_pos h]; exact ⟨rfl, h⟩
  · rw [if_neg h]
    by_cases g : y < x
    · right; left; rw [if_pos g]; exact ⟨rfl, g⟩
    · right; right; rw [if_neg g]; exact ⟨rfl, by omega⟩
theorem ord_trans (a b c : Nat) (h1 : ord a b ≤ 0) (h2 : ord b c ≤ 0) : ord a c = min (ord a b) (ord b c) := by
  unfold ord at *
  have x := cmpN_spec (place a) (place b)
  have y := cmpN_spec (place b) (place c)
  have z := cmpN_spec (place a) (place c)
  omega
theorem lt_ord {a b : Nat} (ha : a < 18446744073709551616) (hb : b < 18446744073709551616) (h : isLt a b = true) : ord a b = -1 := by
  unfold isLt at h
  simp only [Bool.and_eq_true, Bool.not_eq_true', decide_eq_true_eq] at h
  obtain ⟨⟨na, nb⟩, hk⟩ := h
  unfold ord cmpN place
  rw [na, nb]
  simp only [Bool.false_eq_true, if_false]
  unfold key at hk
  rw [if_pos]
  split at hk <;> split at hk <;> split <;> split <;> omega
theorem ord_zero (a b : Nat) : ord a b = 0 ↔ place a = place b := by
  unfold ord cmpN
  constructor
  · intro h
    by_cases g : place a < place b
    · rw [if_pos g] at h; omega
    · rw [if_neg g] at h
      by_cases g2 : place b < place a
      · rw [if_pos g2] at h; omega
      · omega
  · intro h; rw [h, if_neg (by omega), if_neg (by omega)]
theorem place_inj {a b : Nat} (ha : a < 18446744073709551616) (hb : b < 18446744073709551616) (h : place a = place b) : (isNan a = true ∧ isNan b = true) ∨ a = b := by
  unfold place at h
  cases na : isNan a <;> cases nb : isNan b
  · right
    rw [na, nb] at h
    simp only [Bool.false_eq_true, if_false] at h
    split at h <;> split at h <;> omega
  · exfalso
    rw [na, nb] at h
    unfold isNan at na
    have na := of_decide_eq_false na
    simp only [Bool.false_eq_true, if_false, if_true] at h
    split at h <;> omega
  · exfalso
    rw [na, nb] at h
    unfold isNan at nb
    have nb := of_decide_eq_false nb
    simp only [Bool.false_eq_true, if_false, if_true] at h
    split at h <;> omega
  · left; exact ⟨rfl, rfl⟩
/-- of two that aren't both zeros: the order tells them apart just as their plain forms do -/
theorem ord_plain {a b : Nat} (ha : a < 18446744073709551616) (hb : b < 18446744073709551616) (hz : isEq a 0 = false ∨ isEq b 0 = false) : ord a b = 0 ↔ plain a = plain b := by
  rw [ord_zero a b]
  have nz : ∀ c, c < 18446744073709551616 → isEq c 0 = false → c ≠ 0 ∧ c ≠ 9223372036854775808 := by
    intro c hc h
    rw [isEq0 hc] at h
    simpa using h
  constructor
  · intro h
    rcases place_inj ha hb h with ⟨na, nb⟩ | rfl
    · unfold plain; rw [na, nb, if_pos rfl, if_pos rfl]
    · rfl
  · intro h
    unfold plain at h
    cases na : isNan a <;> cases nb : isNan b
    · rw [na, nb] at h
      simp only [Bool.false_eq_true, if_false] at h
      have : a = b := by
        rcases hz with g | g
        · have := nz a ha g; split at h <;> (try split at h) <;> omega
        · have := nz b hb g; split at h <;> (try split at h) <;> omega
      rw [this]
    · exfalso
      rw [na, nb] at h
      unfold isNan at na
      have na := of_decide_eq_false na
      simp only [Bool.false_eq_true, if_false, if_true] at h
      split at h <;> omega
    · exfalso
      rw [na, nb] at h
      unfold isNan at nb
      have nb := of_decide_eq_false nb
      simp only [Bool.false_eq_true, if_false, if_true] at h
      split at h <;> omega
    · unfold place; rw [na, nb, if_pos rfl, if_pos rfl]
end Go.Proofs.YtanbeaebdingeaaDoor.Fl
