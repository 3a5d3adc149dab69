/-
  NUMBERS AS BYTES (own work): a number's bytes are its number; which error has which number.
-/
import Derived.Test.YtfealdllicicnaaDoorAliveF
import Derived.Test.YtfealdllicicnaaDoorToNum
namespace Go.Proofs.YtfealdllicicnaaDoor
open Go.RowKit Go.ChangeShapes Go.WideShapes

theorem beNum_push (xs : List Int) (c : Int) : beNum (xs ++ [c]) = 256 * beNum xs + c := by
  unfold beNum
  rw [List.foldl_append]
  rfl
theorem beNum_beF : ∀ k n, n < 256 ^ k → beNum (beF k n) = n
  | 0, n, h => by
    obtain rfl : n = 0 := by simpa using h
    rfl
  | k + 1, n, h => by
    unfold beF
    split
    · rename_i h0; subst h0; rfl
    · rw [beNum_push, beNum_beF k (n / 256) (by rw [Nat.pow_succ] at h; omega)]
      omega
theorem beF_lead : ∀ k n, n < 256 ^ k → ¬ (0 < (beF k n).length ∧ (beF k n).getD 0 0 = 0)
  | 0, n, _ => by simp [beF]
  | k + 1, n, h => by
    unfold beF
    split
    · simp
    · rename_i h0
      have ih := beF_lead k (n / 256) (by rw [Nat.pow_succ] at h; omega)
      by_cases hl : 0 < (beF k (n / 256)).length
      · rintro ⟨_, h2⟩
        have e : (beF k (n / 256) ++ [((n % 256 : Nat) : Int)]).getD 0 0 = (beF k (n / 256)).getD 0 0 := by simp only [List.getD, List.getElem?_append_left hl]
        rw [e] at h2
        exact ih ⟨hl, h2⟩
      · have hz : beF k (n / 256) = [] := List.length_eq_zero_iff.1 (by omega)
        have hq : n / 256 = 0 := by
          have := beNum_beF k (n / 256) (by rw [Nat.pow_succ] at h; omega)
          rw [hz] at this
          have h3 : beNum [] = 0 := rfl
          omega
        rw [hz]
        simp
        omega
theorem toNum_beF (n : Nat) (h : n < 9223372036854775808) : toNum (beF 8 n) = ((n : Int), 0) := by
  have h8 : n < 256 ^ 8 := Nat.lt_trans h (by decide)
  unfold toNum
  rw [if_neg (beF_lead 8 n h8), if_neg (by have := beF_len 8 n; omega), beNum_beF 8 n h8, if_neg (by omega)]
theorem toNum_two (bs : List Int) : (toNum bs).2 = 0 ∨ (toNum bs).2 = 1 ∨ (toNum bs).2 = 4 := by
  unfold toNum
  split
  · exact .inr (.inr rfl)
  · split
    · exact .inr (.inl rfl)
    · split
      · exact .inr (.inl rfl)
      · exact .inl rfl

theorem num_errN (ads : List Addr) (w : World) (V : St ads w) (k : Int) (hk : k = 0 ∨ k = 1 ∨ k = 4) :
    Calls Tryd.prog 15 #[errN ads k] w fun e w' => e = .returned (.int .i64 k) ∧ Kp w w' := by
  have h14 : ads.length = 14 := V.len
  have h0 : 0 < ads.length := by omega
  have h3 : 3 < ads.length := by omega
  rcases hk with rfl | rfl | rfl
  · refine (num_nil w).mono ?_
    rintro e w' ⟨rfl, rfl⟩
    exact ⟨rfl, Kp.refl _⟩
  · have e1 : errN ads 1 = snt (ads[0]'h0) := by unfold errN; simp [List.getElem?_eq_getElem h0]
    rw [e1]
    exact num_err ads w V 0 (by decide) h0
  · have e4 : errN ads 4 = snt (ads[3]'h3) := by unfold errN; simp [List.getElem?_eq_getElem h3]
    rw [e4]
    exact num_err ads w V 3 (by decide) h3

end Go.Proofs.YtfealdllicicnaaDoor
