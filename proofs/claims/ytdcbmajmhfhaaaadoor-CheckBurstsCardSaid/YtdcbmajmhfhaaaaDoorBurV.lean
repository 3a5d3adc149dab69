/-
  CheckBursts' WALKS (own work).
-/
import Derived.Test.YtdcbmajmhfhaaaaDoorSpoV
import Derived.StillTailTactics
namespace Go.Proofs.YtdcbmajmhfhaaaaDoor
open Go.RowKit Go.ChangeShapes Go.WideShapes

theorem bur_long (a : Option Addr) (n cap : Nat) (i by_ : Int) (hn : 500 < n) (w : World) (ht : Tb w) :
    Calls Tryd.prog 5 #[.slice a n cap, .int .i64 i, .int .u32 by_] w fun e w' => e = .returned (.bool true) ∧ Kp w w' := by
  have HA := Lib.hid (alive_any w ht)
  obtain ⟨ll, hll⟩ : ∃ ll : Int, (n : Int) = ll := ⟨_, rfl⟩
  have h : ll > 500 := by omega
  clear ht
  go_enter Tryd.func5, Tryd.ntmps5
  go_wp2_with (go_at_call 8; (with_reducible refine HA.out.mono ?_); rintro e w1 ⟨rfl, hw1⟩; have K1 := Lib.hid hw1; clear hw1)
  go_ret
  exact ⟨rfl, K1.out⟩

theorem bur_short (a : Option Addr) (n c : Nat) (bs : List Int) (hn : bs.length = n) (hl : n < 5) (hb : InB bs) (i by_ : Int) (w : World) (ht : Tb w) (hs : SlB (.slice a n c) bs w) :
    Calls Tryd.prog 5 #[.slice a n c, .int .i64 i, .int .u32 by_] w fun e w' => e = .returned (.bool true) ∧ Kp w w' := by
  have HA := Lib.hid (alive_any w ht)
  have HS := Lib.hid (fun w1 (hk : Kp w w1) => seal_any a n c bs hn (by omega) hb w1 (ht.kp hk) (hs.kp hk))
  obtain ⟨ll, hll⟩ : ∃ ll : Int, (n : Int) = ll := ⟨_, rfl⟩
  have h : ¬ ll > 500 := by omega
  have h5 : ll < 5 := by omega
  clear ht hs hb hn
  go_enter Tryd.func5, Tryd.ntmps5
  go_wp2_with (first | (go_at_call 8; (with_reducible refine HA.out.mono ?_); rintro e w1 ⟨rfl, hw1⟩; have K1 := Lib.hid hw1; clear hw1) | (go_at_call 13; (with_reducible refine (HS.out _ K1.out).mono ?_); rintro e w2 ⟨v2, rfl, ho2, hk2⟩; have K2 := Lib.hid (Kp.trans K1.out hk2); clear ho2 hk2))
  go_ret
  exact ⟨rfl, K2.out⟩

theorem first_range {i d : Int} (h : 0 < d) : 0 ≤ (IntKind.u64.wrap i).tmod d ∧ (IntKind.u64.wrap i).tmod d < d := by
  have e : IntKind.u64.wrap i = i % 18446744073709551616 := by simp [IntKind.wrap, IntKind.bits, IntKind.signed]
  rw [e]
  have h0 : 0 ≤ i % 18446744073709551616 := Int.emod_nonneg _ (by decide)
  exact ⟨Int.tmod_nonneg _ h0, Int.tmod_lt_of_pos _ h⟩

/-- bits up to the j-th -/
theorem low_next (x j : Nat) : x % 2 ^ (j + 1) = (x % 2 ^ j) ^^^ 2 ^ j * (x / 2 ^ j % 2) := by
  refine Nat.eq_of_testBit_eq fun i => ?_
  rw [Nat.testBit_xor, Nat.mul_comm, Nat.testBit_mul_two_pow, Nat.testBit_mod_two_pow, Nat.testBit_mod_two_pow, show (2 : Nat) = 2 ^ 1 from rfl, ← Nat.pow_mul, Nat.one_mul, Nat.testBit_mod_two_pow, Nat.testBit_div_two_pow]
  rcases Nat.lt_trichotomy i j with h | h | h
  · have h1 : i < j + 1 := by omega
    have h2 : ¬ j ≤ i := by omega
    simp [h, h1, h2]
  · subst h; simp
  · have h1 : ¬ i < j + 1 := by omega
    have h2 : ¬ i < j := by omega
    have h3 : ¬ i - j < 1 := by omega
    simp [h1, h2, h3]
theorem mul_xor (f a b : Nat) : 2 ^ f * (a ^^^ b) = 2 ^ f * a ^^^ 2 ^ f * b := by
  have e : ∀ x, 2 ^ f * x = x <<< f := fun x => by rw [Nat.shiftLeft_eq, Nat.mul_comm]
  rw [e, e, e, Nat.shiftLeft_xor_distrib]

/-- THE BYTES behind the first j bits of a burst. -/
structure Bst (bs : List Int) (n f x : Nat) (j : Nat) (L : List Int) : Prop where
  len : L.length = n + 4
  inb : InB L
  drp : L.drop n = four (crc bs)
  le_ : le (L.take n) = le bs ^^^ 2 ^ f * (x % 2 ^ j)
  zero : x = 0 → L.take n = bs
theorem Bst.start {bs : List Int} {n f x : Nat} (hn : bs.length = n) (hb : InB bs) : Bst bs n f x 0 (bs ++ four (crc bs)) :=
  ⟨by rw [List.length_append, hn]; rfl, seal_in hb, List.drop_left' hn, by rw [List.take_left' hn, Nat.pow_zero, Nat.mod_one, Nat.mul_zero, Nat.xor_zero], fun _ => List.take_left' hn⟩
theorem Bst.skip {bs : List Int} {n f x j : Nat} {L : List Int} (h : Bst bs n f x j L) (h0 : x / 2 ^ j % 2 = 0) : Bst bs n f x (j + 1) L :=
  ⟨h.len, h.inb, h.drp, by rw [low_next, h0, Nat.mul_zero, Nat.xor_zero]; exact h.le_, h.zero⟩
theorem Bst.flip {bs : List Int} {n f x j : Nat} {L : List Int} (h : Bst bs n f x j L) (h1 : x / 2 ^ j % 2 = 1) (hf : f + j < 8 * n) (hq : (f + j) / 8 < L.length) :
    Bst bs n f x (j + 1) (L.set ((f + j) / 8) ((L[(f + j) / 8].toNat ^^^ 2 ^ ((f + j) % 8) : Nat) : Int)) := by
  have hqn : (f + j) / 8 < n := by omega
  have hpow : 2 ^ ((f + j) % 8) < 256 := Nat.lt_of_le_of_lt (Nat.pow_le_pow_right (by decide) (show (f + j) % 8 ≤ 7 by omega)) (by decide)
  have hql : (f + j) / 8 < (L.take n).length := by rw [List.length_take, h.len]; omega
  refine ⟨by simp [h.len], set_in h.inb _ hq _ hpow, ?_, ?_, ?_⟩
  · rw [List.drop_set_of_lt hqn]; exact h.drp
  · have e : (L.set ((f + j) / 8) ((L[(f + j) / 8].toNat ^^^ 2 ^ ((f + j) % 8) : Nat) : Int)).take n = (L.take n).set ((f + j) / 8) (((L.take n)[(f + j) / 8].toNat ^^^ 2 ^ ((f + j) % 8) : Nat) : Int) := by
      rw [List.take_set, List.getElem_take]
    rw [e, le_set _ _ hql _ (by rw [List.getElem_take]; exact (h.inb _ (List.getElem_mem hq)).1), h.le_, low_next, h1, Nat.mul_one, mul_xor, Nat.xor_assoc]
    congr 2
    rw [show (256 : Nat) = 2 ^ 8 from rfl, ← Nat.pow_mul, ← Nat.pow_add, ← Nat.pow_add]
    congr 1
    omega
  · intro h0
    rw [h0, Nat.zero_div] at h1
    cases h1
theorem Bst.ne {bs : List Int} {n f x : Nat} {L : List Int} (h : Bst bs n f x 32 L) (hn : bs.length = n) (hb : InB bs) (hf : f ≤ 8 * n) (hx : x < 4294967296) (h0 : x ≠ 0) : L.drop n ≠ four (crc (L.take n)) := by
  intro e
  rw [h.drp] at e
  have hl : (L.take n).length = bs.length := by rw [List.length_take, h.len, hn]; omega
  have e := four_inj (crc_lt hb) (crc_lt (in_take h.inb n)) e
  have h1 := h.le_
  rw [Nat.mod_eq_of_lt (by omega)] at h1
  exact burst_ne hl (by omega) hx h0 h1 e.symm
theorem Bst.eq {bs : List Int} {n f x : Nat} {L : List Int} (h : Bst bs n f x 32 L) (h0 : x = 0) : L.drop n = four (crc (L.take n)) ∧ L.take n = bs := by
  rw [h.zero h0]; exact ⟨h.drp, rfl⟩
end Go.Proofs.YtdcbmajmhfhaaaaDoor
