/-
  CheckSteps' PARTS (own work): three rows' odd bits; the loops.
-/
import Derived.Test.YtdcbmajmhfhaaaaDoorSpoV
import Derived.StillTailTactics
import Derived.Deep.RegionHeld3
namespace Go.Proofs.YtdcbmajmhfhaaaaDoor
open Go.RowKit Go.ChangeShapes Go.WideShapes

theorem xor3 (a b c d e f : Nat) : ((a ^^^ b) ^^^ (c ^^^ d)) ^^^ (e ^^^ f) = ((a ^^^ c) ^^^ e) ^^^ ((b ^^^ d) ^^^ f) := by
  refine Nat.eq_of_testBit_eq fun i => ?_
  simp only [Nat.testBit_xor]
  cases a.testBit i <;> cases b.testBit i <;> cases c.testBit i <;> cases d.testBit i <;> cases e.testBit i <;> cases f.testBit i <;> rfl
/-- three rows' odd bits -/
def odd3 : List Int → List Int → List Int → List Int
  | x :: xs, y :: ys, z :: zs => (((x.toNat ^^^ y.toNat) ^^^ z.toNat : Nat) : Int) :: odd3 xs ys zs
  | _, _, _ => []
theorem odd3_len : ∀ xs ys zs, ys.length = xs.length → zs.length = xs.length → (odd3 xs ys zs).length = xs.length
  | [], _, _, _, _ => by simp [odd3]
  | x :: xs, [], _, h, _ => by simp at h
  | x :: xs, y :: ys, [], _, h => by simp at h
  | x :: xs, y :: ys, z :: zs, h1, h2 => by
    simp only [odd3, List.length_cons]
    rw [odd3_len xs ys zs (by simpa using h1) (by simpa using h2)]
theorem odd3_reg : ∀ (xs ys zs : List Int), ys.length = xs.length → zs.length = xs.length → ∀ p q r, reg ((p ^^^ q) ^^^ r) (odd3 xs ys zs) = (reg p xs ^^^ reg q ys) ^^^ reg r zs
  | [], [], [], _, _, _, _, _ => by simp [odd3, reg]
  | [], y :: ys, _, h, _, _, _, _ => by simp at h
  | [], [], z :: zs, _, h, _, _, _ => by simp at h
  | x :: xs, [], _, h, _, _, _, _ => by simp at h
  | x :: xs, y :: ys, [], _, h, _, _, _ => by simp at h
  | x :: xs, y :: ys, z :: zs, h1, h2, p, q, r => by
    simp only [odd3, reg, Int.toNat_natCast]
    rw [← odd3_reg xs ys zs (by simpa using h1) (by simpa using h2), ← Tn_xor, ← Tn_xor]
    congr 2
    exact (xor3 p x.toNat q y.toNat r z.toNat).symm
theorem odd3_crc (xs ys zs : List Int) (h1 : ys.length = xs.length) (h2 : zs.length = xs.length) : crc (odd3 xs ys zs) = (crc xs ^^^ crc ys) ^^^ crc zs := by
  unfold crc
  rw [xor3 4294967295 _ 4294967295 _ 4294967295 _, ← odd3_reg xs ys zs h1 h2]
  rfl
theorem odd3_next (xs ys zs : List Int) (j : Nat) (h1 : j < xs.length) (h2 : j < ys.length) (h3 : j < zs.length) :
    odd3 (xs.take (j + 1)) (ys.take (j + 1)) (zs.take (j + 1)) = odd3 (xs.take j) (ys.take j) (zs.take j) ++ [(((xs[j].toNat ^^^ ys[j].toNat) ^^^ zs[j].toNat : Nat) : Int)] := by
  induction j generalizing xs ys zs with
  | zero =>
    match xs, ys, zs, h1, h2, h3 with
    | x :: xs, y :: ys, z :: zs, _, _, _ => simp [odd3]
  | succ j ih =>
    match xs, ys, zs, h1, h2, h3 with
    | x :: xs, y :: ys, z :: zs, h1, h2, h3 =>
      simp only [List.take_succ_cons, odd3, List.cons_append, List.getElem_cons_succ]
      rw [ih xs ys zs (by simpa using h1) (by simpa using h2) (by simpa using h3)]
theorem odd3_in {xs ys zs : List Int} (hx : InB xs) (hy : InB ys) (hz : InB zs) : InB (odd3 xs ys zs) := by
  induction xs generalizing ys zs with
  | nil => intro b hb; simp [odd3] at hb
  | cons x xs ih =>
    match ys, zs with
    | [], _ => intro b hb; simp [odd3] at hb
    | y :: ys, [] => intro b hb; simp [odd3] at hb
    | y :: ys, z :: zs =>
      intro b hb
      rw [odd3] at hb
      rcases List.mem_cons.1 hb with rfl | hb
      · have h1 := hx x (by simp)
        have h2 := hy y (by simp)
        have h3 := hz z (by simp)
        have h4 := Nat.xor_lt_two_pow (n := 8) (x := x.toNat) (y := y.toNat) (by omega) (by omega)
        have h5 := Nat.xor_lt_two_pow (n := 8) (x := x.toNat ^^^ y.toNat) (y := z.toNat) h4 (by omega)
        omega
      · exact ih (fun b h => hx b (by simp [h])) (fun b h => hy b (by simp [h])) (fun b h => hz b (by simp [h])) b hb

theorem stp_long (a b c : Option Addr) (n cap m cap2 k cap3 : Nat) (hn : 300 < n ∨ 300 < m ∨ 300 < k) (w : World) (ht : Tb w) :
    Calls Tryd.prog 7 #[.slice a n cap, .slice b m cap2, .slice c k cap3] w fun e w' => e = .returned (.bool true) ∧ Kp w w' := by
  have HA := Lib.hid (alive_any w ht)
  obtain ⟨ll, hll⟩ : ∃ ll : Int, (n : Int) = ll := ⟨_, rfl⟩
  obtain ⟨mm, hmm⟩ : ∃ ll : Int, (m : Int) = ll := ⟨_, rfl⟩
  obtain ⟨kk, hkk⟩ : ∃ ll : Int, (k : Int) = ll := ⟨_, rfl⟩
  clear ht
  by_cases h : ll > 300
  · go_enter Tryd.func7, Tryd.ntmps7
    go_wp2_with (go_at_call 8; (with_reducible refine HA.out.mono ?_); rintro e w1 ⟨rfl, hw1⟩; have K1 := Lib.hid hw1; clear hw1)
    go_ret
    exact ⟨rfl, K1.out⟩
  · by_cases h2 : mm > 300
    · go_enter Tryd.func7, Tryd.ntmps7
      go_wp2_with (go_at_call 8; (with_reducible refine HA.out.mono ?_); rintro e w1 ⟨rfl, hw1⟩; have K1 := Lib.hid hw1; clear hw1)
      go_ret
      exact ⟨rfl, K1.out⟩
    · have h3 : kk > 300 := by omega
      go_enter Tryd.func7, Tryd.ntmps7
      go_wp2_with (go_at_call 8; (with_reducible refine HA.out.mono ?_); rintro e w1 ⟨rfl, hw1⟩; have K1 := Lib.hid hw1; clear hw1)
      go_ret
      exact ⟨rfl, K1.out⟩
end Go.Proofs.YtdcbmajmhfhaaaaDoor
