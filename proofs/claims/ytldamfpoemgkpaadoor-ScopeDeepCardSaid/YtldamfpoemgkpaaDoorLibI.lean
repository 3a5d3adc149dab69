/-
  LIBRARY FUNCTIONS (own work): strconv.Itoa, strings.CutPrefix, strings.TrimLeft, in package ids' words.
-/
import Derived.Test.YtldamfpoemgkpaaDoorRdC
import Derived.Test.YtldamfpoemgkpaaDoorLayI
import Derived.Lib.SmallJoins
import Derived.Lib.AppendIntMem
namespace Go.Proofs.YtldamfpoemgkpaaDoor
open Go.RowKit

/-- strconv's table of powers lies there. -/
abbrev Tab (w : World) : Prop := Lib.TabIs Tryd.prog w "internal/strconv.uint64pow10" .u64 Lib.pow10Tab
theorem Tab.kp {w w' : World} (h : Tab w) (hk : Kp w w') : Tab w' :=
  Joins.tab_stays (g := 15) (by kernel_rfl) h hk (Nat.le_refl _)

/-- a byte of a number -/
def toB (z : Int) : UInt8 := UInt8.ofNat z.toNat
theorem str_toB (S : List Int) : (strOfNums S).data.toList = S.map toB := rfl
theorem str_mk (S : List Int) : strOfNums S = ⟨(S.map toB).toArray⟩ := rfl
theorem toB_nat {z : Int} (h : 0 ≤ z ∧ z < 256) : ((toB z).toNat : Int) = z := by
  unfold toB
  rw [UInt8.toNat_ofNat']
  omega
theorem toB_inj {x y : Int} (hx : 0 ≤ x ∧ x < 256) (hy : 0 ≤ y ∧ y < 256) : toB x = toB y ↔ x = y := by
  constructor
  · intro h
    rw [← toB_nat hx, ← toB_nat hy, h]
  · rintro rfl; rfl
theorem str_back (s : ByteArray) : strOfNums (strB s) = s := by
  apply ByteArray.ext
  apply Array.ext'
  rw [strOfNums_data, strB, List.map_map]
  refine List.map_id'' (fun b => ?_) _
  simp
theorem strB_str {S : List Int} (h : InB S) : strB (strOfNums S) = S := by
  rw [strB, str_toB, List.map_map]
  refine (List.map_congr_left (g := id) fun z hz => ?_).trans (List.map_id _)
  exact toB_nat (h z hz)

theorem decF_lib : ∀ k n, n < 10 ^ k → 0 < k → (decF k n).map toB = Lib.decDigits n
  | 0, _, _, h => absurd h (by decide)
  | k + 1, n, h, _ => by
    unfold decF
    rw [Lib.decDigits]
    by_cases g : n < 10
    · rw [if_pos g, dif_pos g]
      simp only [List.map_cons, List.map_nil, toB, Int.toNat_natCast]
    · rw [if_neg g, dif_neg g]
      have hk : 0 < k := by
        rcases Nat.eq_zero_or_pos k with rfl | q
        · simp at h; omega
        · exact q
      rw [List.map_append, decF_lib k (n / 10) (by rw [Nat.pow_succ] at h; omega) hk]
      simp only [List.map_cons, List.map_nil, toB, Int.toNat_natCast]

theorem itoa_any (n : Nat) (hn : n < 100000000) (nn : Int) (hnn : (n : Int) = nn) (w : World) (T : Tab w) :
    Calls Tryd.prog 63 #[.int .i64 nn] w fun e w' => e = .returned (.string (strOfNums (dec n))) ∧ Kp w w' := by
  subst hnn
  have h : Calls Tryd.prog 63 #[.int .i64 n] w _ := Any.strconv_Itoa Tryd.laysM171 n (by omega) (by omega) w T
  refine h.mono ?_
  rintro e w' ⟨rfl, k, os, rfl⟩
  refine ⟨?_, Lib.below_grow _ _ (Nat.le_refl _) _ _⟩
  have e1 : Lib.itoa (n : Int) = (dec n).map toB := by
    unfold Lib.itoa
    rw [if_neg (by omega), Int.toNat_natCast, dec, decF_lib 8 n (by omega) (by decide)]
  rw [e1, str_mk]

theorem has_dig {z : Int} (h : 0 ≤ z ∧ z < 256) : ([48, 49, 50, 51, 52, 53, 54, 55, 56, 57] : List UInt8).contains (toB z) = isD z := by
  have e : ∀ n : Fin 256, ([48, 49, 50, 51, 52, 53, 54, 55, 56, 57] : List UInt8).contains (toB (n.val : Int)) = isD (n.val : Int) := by decide +kernel
  have := e ⟨z.toNat, by omega⟩
  have e2 : ((z.toNat : Nat) : Int) = z := by omega
  simpa [e2] using this
theorem drop_dig : ∀ (S : List Int) (_ : InB S), (S.map toB).dropWhile (([48, 49, 50, 51, 52, 53, 54, 55, 56, 57] : List UInt8).contains ·) = (S.drop (S.takeWhile isD).length).map toB
  | [], _ => rfl
  | x :: S, h => by
    have hx := has_dig (h x (by simp))
    rw [List.map_cons, List.dropWhile_cons, hx]
    by_cases g : isD x = true
    · rw [if_pos g, drop_dig S (fun y hy => h y (List.mem_cons_of_mem _ hy)), List.takeWhile_cons, if_pos g]
      simp
    · rw [if_neg g, List.takeWhile_cons, if_neg g]
      simp

end Go.Proofs.YtldamfpoemgkpaaDoor
