/-
  PLAIN MATHEMATICS OF FLOATS, 3 (own work): a sum of two delays is not below either.
-/
import Derived.Test.YtanbeaebdingeaaDoorFn
namespace Go.Proofs.YtanbeaebdingeaaDoor.Fl
open Ieee

/-- what is rounded is not below a word that is not above it -/
theorem cut_ge (neg : Bool) (n drop : Nat) (_hn : 0 < n) (hd : drop ≤ n.log2 + 2) : n / 2 ^ drop ≤ Toward.even.cut neg n drop := by
  unfold Toward.cut
  have e : min drop (n.log2 + 2) = drop := by omega
  simp only [e, Nat.shiftLeft_eq, Nat.one_mul]
  omega
theorem nearest_ge {N r p : Nat} (hN : 0 < N) (hr : r ≤ 9218868437227405312) (h : val r ≤ N * 2 ^ p) : r ≤ double.nearest false N (-1074 + (p : Nat)) := by
  unfold Format.nearest
  rw [ir, lp, bi, if_neg (by omega)]
  dsimp only
  rw [show (double.fractionBits : Int) = 52 from rfl, wordF]
  have hl0 : 2 ^ N.log2 ≤ N := Nat.log2_self_le (by omega)
  have hl1 : N < 2 ^ (N.log2 + 1) := Nat.lt_log2_self
  refine Nat.le_min.2 ⟨?_, hr⟩
  by_cases hsmall : p + N.log2 ≤ 52
  · have e : max (-1074 + (p : Int) + (N.log2 : Int) - 52) (-1074) = -1074 := by omega
    rw [e]
    have e1 : (-1074 + (p : Int) - -1074).toNat = p := by omega
    have e2 : (-1074 - (-1074 + (p : Int))).toNat = 0 := by omega
    have e3 : ((-1074 : Int) - -1074).toNat = 0 := by omega
    rw [e1, e2, e3, Nat.zero_mul, Nat.zero_add]
    have hpos : 0 < N <<< p := by rw [Nat.shiftLeft_eq]; exact Nat.mul_pos hN (Nat.two_pow_pos p)
    have hc := cut_ge false (N <<< p) 0 hpos (by omega)
    rw [Nat.pow_zero, Nat.div_one] at hc
    refine Nat.le_trans ?_ hc
    rw [Nat.shiftLeft_eq]
    refine Nat.le_trans ?_ h
    have : mag r * 1 ≤ mag r * 2 ^ plc r := Nat.mul_le_mul_left _ Nat.one_le_two_pow
    -- a rung of more than one binade is above 2^53
    have hup : N * 2 ^ p < 2 ^ 53 := by
      calc N * 2 ^ p < 2 ^ (N.log2 + 1) * 2 ^ p := Nat.mul_lt_mul_of_pos_right hl1 (Nat.two_pow_pos p)
        _ = 2 ^ (N.log2 + 1 + p) := (Nat.pow_add _ _ _).symm
        _ ≤ 2 ^ 53 := Nat.pow_le_pow_right (by omega) (by omega)
    have hv := val_eq r
    have hpl : plc r = 0 := by
      by_cases g : plc r = 0
      · exact g
      · exfalso
        have hm : 4503599627370496 ≤ mag r := by
          unfold plc at g; unfold mag
          by_cases g2 : r < 4503599627370496
          · rw [if_pos g2] at g; omega
          · rw [if_neg g2]; omega
        have : 2 ^ 1 ≤ 2 ^ plc r := Nat.pow_le_pow_right (by omega) (by omega)
        have : 4503599627370496 * 2 ^ 1 ≤ mag r * 2 ^ plc r := Nat.mul_le_mul hm this
        omega
    have hpm := plc_mag r
    rw [hpl] at hpm hv
    rw [hv, Nat.pow_zero, Nat.mul_one]
    omega
  · obtain ⟨e, he⟩ : ∃ e, p + N.log2 = 52 + e := ⟨p + N.log2 - 52, by omega⟩
    have hlast : max (-1074 + (p : Int) + (N.log2 : Int) - 52) (-1074) = -1074 + (e : Int) := by omega
    rw [hlast]
    have e3 : ((-1074 + (e : Int)) - -1074).toNat = e := by omega
    rw [e3]
    -- the kept digits are at least the whole quotient
    have hkey : N * 2 ^ p / 2 ^ e ≤ Toward.even.cut false (N <<< (-1074 + (p : Int) - (-1074 + (e : Int))).toNat) (-1074 + (e : Int) - (-1074 + (p : Int))).toNat := by
      by_cases hpe : e ≤ p
      · have a1 : (-1074 + (p : Int) - (-1074 + (e : Int))).toNat = p - e := by omega
        have a2 : (-1074 + (e : Int) - (-1074 + (p : Int))).toNat = 0 := by omega
        rw [a1, a2]
        have hpos : 0 < N <<< (p - e) := by rw [Nat.shiftLeft_eq]; exact Nat.mul_pos hN (Nat.two_pow_pos _)
        have hc := cut_ge false (N <<< (p - e)) 0 hpos (by omega)
        rw [Nat.pow_zero, Nat.div_one] at hc
        refine Nat.le_trans (Nat.le_of_eq ?_) hc
        rw [Nat.shiftLeft_eq, show 2 ^ p = 2 ^ (p - e) * 2 ^ e by rw [← Nat.pow_add]; congr 1; omega, ← Nat.mul_assoc, Nat.mul_div_cancel _ (Nat.two_pow_pos e)]
      · have a1 : (-1074 + (p : Int) - (-1074 + (e : Int))).toNat = 0 := by omega
        have a2 : (-1074 + (e : Int) - (-1074 + (p : Int))).toNat = e - p := by omega
        rw [a1, a2, Nat.shiftLeft_zero]
        refine Nat.le_trans (Nat.le_of_eq ?_) (cut_ge false N (e - p) hN (by omega))
        rw [show 2 ^ e = 2 ^ (e - p) * 2 ^ p by rw [← Nat.pow_add]; congr 1; omega, Nat.mul_div_mul_right _ _ (Nat.two_pow_pos p)]
    refine Nat.le_trans ?_ (Nat.add_le_add_left hkey _)
    have h52 : (2 : Nat) ^ 52 = 4503599627370496 := by rfl
    -- the quotient has a digit at place 52
    have hq : 4503599627370496 ≤ N * 2 ^ p / 2 ^ e := by
      rw [Nat.le_div_iff_mul_le (Nat.two_pow_pos e), ← h52, ← Nat.pow_add, ← he, Nat.add_comm, Nat.pow_add]
      exact Nat.mul_le_mul_right _ hl0
    have hpm := plc_mag r
    by_cases hc : plc r < e
    · have hm : mag r < 9007199254740992 := by unfold mag; split <;> omega
      have : plc r * 4503599627370496 + 4503599627370496 ≤ e * 4503599627370496 := by
        rw [← Nat.succ_mul]; exact Nat.mul_le_mul_right _ hc
      omega
    · have hge : e ≤ plc r := by omega
      have hv := val_eq r
      have hup : N * 2 ^ p < 2 ^ (53 + e) := by
        calc N * 2 ^ p < 2 ^ (N.log2 + 1) * 2 ^ p := Nat.mul_lt_mul_of_pos_right hl1 (Nat.two_pow_pos p)
          _ = 2 ^ (N.log2 + 1 + p) := (Nat.pow_add _ _ _).symm
          _ = 2 ^ (53 + e) := by congr 1; omega
      have heq : plc r = e := by
        by_cases g : plc r = e
        · exact g
        · exfalso
          have hp1 : 0 < plc r := by omega
          have hm : 4503599627370496 ≤ mag r := by
            unfold plc at hp1; unfold mag
            by_cases g2 : r < 4503599627370496
            · rw [if_pos g2] at hp1; omega
            · rw [if_neg g2]; omega
          have h1 : 2 ^ (e + 1) ≤ 2 ^ plc r := Nat.pow_le_pow_right (by omega) (by omega)
          have h2 : 4503599627370496 * 2 ^ (e + 1) ≤ mag r * 2 ^ plc r := Nat.mul_le_mul hm h1
          rw [← h52, ← Nat.pow_add, show 52 + (e + 1) = 53 + e by omega] at h2
          omega
      have : mag r ≤ N * 2 ^ p / 2 ^ e := by
        rw [Nat.le_div_iff_mul_le (Nat.two_pow_pos e), ← heq, ← hv]; exact h
      rw [← hpm, heq]
      omega

/-- the sum of two rungs -/
def addR (a b : Nat) : Nat := (double.add a b).getD 0
theorem sum_fin {a b : Nat} (ha : a < 9218868437227405312) (hb : b < 9218868437227405312) :
    ∃ N p : Nat, double.add a b = some (double.nearest false N (-1074 + (p : Nat))) ∧ val a + val b = N * 2 ^ p := by
  unfold Format.add
  rw [read_pos_fin ha, read_pos_fin hb]
  simp only [Datum.sum, Option.map_some, Format.write]
  have e0 : min (-1074 + (plc a : Int)) (-1074 + (plc b : Int)) = -1074 + ((min (plc a) (plc b) : Nat) : Int) := by omega
  rw [e0]
  have e1 : (-1074 + (plc a : Int) - (-1074 + ((min (plc a) (plc b) : Nat) : Int))).toNat = plc a - min (plc a) (plc b) := by omega
  have e2 : (-1074 + (plc b : Int) - (-1074 + ((min (plc a) (plc b) : Nat) : Int))).toNat = plc b - min (plc a) (plc b) := by omega
  rw [e1, e2]
  have e3 : signed false (mag a) (plc a - min (plc a) (plc b)) + signed false (mag b) (plc b - min (plc a) (plc b)) =
      ((mag a * 2 ^ (plc a - min (plc a) (plc b)) + mag b * 2 ^ (plc b - min (plc a) (plc b)) : Nat) : Int) := by
    unfold signed; simp [Nat.shiftLeft_eq]
  rw [e3, Int.natAbs_natCast]
  refine ⟨mag a * 2 ^ (plc a - min (plc a) (plc b)) + mag b * 2 ^ (plc b - min (plc a) (plc b)), min (plc a) (plc b), ?_, ?_⟩
  · congr 2
    split
    · rfl
    · exact decide_eq_false (Int.not_lt.2 (Int.natCast_nonneg _))
  · rw [val_eq, val_eq, Nat.add_mul, Nat.mul_assoc, Nat.mul_assoc, ← Nat.pow_add, ← Nat.pow_add]
    congr 3 <;> omega
theorem nearest_le_inf (N : Nat) (p : Int) : double.nearest false N p ≤ 9218868437227405312 := by
  unfold Format.nearest
  rw [ir]
  dsimp only
  split
  · rw [wordF]; omega
  · rw [wordF]; exact Nat.min_le_right _ _

/-- A SUM OF TWO DELAYS: there is one; it is a delay; none of both is above it. -/
theorem add_delay {a b : Nat} (ha : dl a = true) (hb : dl b = true) : ∃ r, double.add a b = some r ∧ dl r = true ∧ plain a ≤ plain r ∧ plain b ≤ plain r := by
  have key : ∀ a b : Nat, a ≤ 9218868437227405312 → b ≤ 9218868437227405312 → ∃ r, double.add a b = some r ∧ r ≤ 9218868437227405312 ∧ a ≤ r ∧ b ≤ r := by
    intro a b ha hb
    rcases Nat.lt_or_eq_of_le ha with ga | rfl
    · rcases Nat.lt_or_eq_of_le hb with gb | rfl
      · obtain ⟨N, p, h1, h2⟩ := sum_fin ga gb
        refine ⟨_, h1, nearest_le_inf _ _, ?_⟩
        by_cases hN : N = 0
        · subst hN
          have z1 : val a = 0 := by omega
          have z2 : val b = 0 := by omega
          have a0 : a = 0 := val_inj (z1.trans val_zero.symm)
          have b0 : b = 0 := val_inj (z2.trans val_zero.symm)
          omega
        · exact ⟨nearest_ge (by omega) ha (by omega), nearest_ge (by omega) hb (by omega)⟩
      · refine ⟨9218868437227405312, ?_, Nat.le_refl _, ha, Nat.le_refl _⟩
        unfold Format.add
        rw [read_pos_fin ga, read_inf]; kernel_rfl
    · refine ⟨9218868437227405312, ?_, Nat.le_refl _, Nat.le_refl _, hb⟩
      unfold Format.add
      rcases Nat.lt_or_eq_of_le hb with gb | rfl
      · rw [read_pos_fin gb, read_inf]; kernel_rfl
      · rw [read_inf]; kernel_rfl
  have fin : ∀ a b : Nat, a ≤ 9218868437227405312 → b ≤ 9218868437227405312 → ∃ r, double.add a b = some r ∧ dl r = true ∧ plain a ≤ plain r ∧ plain b ≤ plain r := by
    intro a b ha hb
    obtain ⟨r, h1, h2, h3, h4⟩ := key a b ha hb
    rw [(dl_of_le ha).2.2, (dl_of_le hb).2.2]
    exact ⟨r, h1, (dl_of_le h2).1, by rw [(dl_of_le h2).2.2]; exact h3, by rw [(dl_of_le h2).2.2]; exact h4⟩
  have nz : double.read 9223372036854775808 = .number true 0 (-1074) := by kernel_rfl
  -- minus zero and a number: the number's value
  have zl : ∀ b : Nat, b < 9218868437227405312 → double.add 9223372036854775808 b = double.add 0 b ∧ double.add b 9223372036854775808 = double.add b 0 := by
    intro b hb
    unfold Format.add
    rw [nz, read_pos_fin hb, show double.read 0 = .number false 0 (-1074) by kernel_rfl]
    constructor <;> simp [Datum.sum, signed]
  rcases (dl_plain ha).2 with ga | rfl <;> rcases (dl_plain hb).2 with gb | rfl
  · exact fin a b ga gb
  · rcases Nat.lt_or_eq_of_le ga with g | rfl
    · rw [(zl a g).2]; exact fin a 0 ga (by omega)
    · exact ⟨9218868437227405312, by kernel_rfl, by kernel_rfl, by decide +kernel, by decide +kernel⟩
  · rcases Nat.lt_or_eq_of_le gb with g | rfl
    · rw [(zl b g).1]; exact fin 0 b (by omega) gb
    · exact ⟨9218868437227405312, by kernel_rfl, by kernel_rfl, by decide +kernel, by decide +kernel⟩
  · exact ⟨9223372036854775808, by kernel_rfl, by kernel_rfl, by decide +kernel, by decide +kernel⟩
theorem add_comm (a b : Nat) : double.add a b = double.add b a := by
  unfold Format.add
  congr 1
  unfold Datum.sum
  cases double.read a <;> cases double.read b <;> simp only
  · rename_i s m i t n j
    rw [Int.min_comm i j, Int.add_comm, Bool.and_comm]
  · rename_i s t
    by_cases h : s = t
    · subst h; rfl
    · rw [if_neg h, if_neg (fun e => h e.symm)]
end Go.Proofs.YtanbeaebdingeaaDoor.Fl
