/-
  DECIMAL DIGITS (own work): liaisonref05.Digits.
-/
import Derived.Test.YtldamfpoemgkpaaDoorAppB
import Derived.Deep.RegionHeld3
import Derived.Lib.Strings
namespace Go.Proofs.YtldamfpoemgkpaaDoor
open Go.RowKit Go.ChangeShapes Go.WideShapes

theorem str_append (xs ys : List Int) : strOfNums xs ++ strOfNums ys = strOfNums (xs ++ ys) := by
  apply ByteArray.ext
  apply Array.ext'
  rw [ByteArray.data_append, Array.toList_append, strOfNums_data, strOfNums_data, strOfNums_data, List.map_append]
theorem str_size (xs : List Int) : (strOfNums xs).size = xs.length := by
  have h := congrArg List.length (strOfNums_data xs)
  simpa using h

/-- a number's digits, k at most -/
def decF : Nat → Nat → List Int
  | 0, _ => []
  | k + 1, n => if n < 10 then [((48 + n : Nat) : Int)] else decF k (n / 10) ++ [((48 + n % 10 : Nat) : Int)]
theorem decF_len : ∀ k n, (decF k n).length ≤ k
  | 0, _ => Nat.le_refl _
  | k + 1, n => by
    unfold decF
    split
    · simp
    · have := decF_len k (n / 10)
      simp; omega
theorem decF_any : ∀ k k' n, n < 10 ^ k → n < 10 ^ k' → 0 < k → 0 < k' → decF k n = decF k' n
  | 0, _, _, _, _, h, _ => absurd h (by decide)
  | _, 0, _, _, _, _, h => absurd h (by decide)
  | k + 1, k' + 1, n, h, h', _, _ => by
    unfold decF
    split
    · rfl
    · rename_i g
      have hk : 0 < k := by
        rcases Nat.eq_zero_or_pos k with rfl | q
        · simp at h; omega
        · exact q
      have hk' : 0 < k' := by
        rcases Nat.eq_zero_or_pos k' with rfl | q
        · simp at h'; omega
        · exact q
      rw [decF_any k k' (n / 10) (by rw [Nat.pow_succ] at h; omega) (by rw [Nat.pow_succ] at h'; omega) hk hk']
theorem decF_in : ∀ k n, InB (decF k n)
  | 0, _ => fun x hx => by cases hx
  | k + 1, n => by
    unfold decF
    split
    · intro x hx
      have := List.mem_singleton.1 hx
      omega
    · intro x hx
      rcases List.mem_append.1 hx with h | h
      · exact decF_in k _ x h
      · have := List.mem_singleton.1 h
        omega
/-- A NUMBER's DIGITS. -/
def dec (n : Nat) : List Int := decF 8 n

theorem box_byte (w : World) (x : Int) (t : TypeId) : SlB (.slice (some ⟨w.heap.size, 0, none⟩) 1 1) [x] (w.alloc (.cells #[.int .u8 x] t)) :=
  .inr ⟨w.heap.size, 0, 1, by simp, rfl, fun j hj => by
    obtain rfl : j = 0 := by simpa using hj
    exact box_cell w _ t⟩

end Go.Proofs.YtldamfpoemgkpaaDoor
