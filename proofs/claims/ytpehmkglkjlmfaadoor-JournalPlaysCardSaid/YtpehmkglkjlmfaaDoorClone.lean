/-
  bytes.Equal (own work); bytes.Clone lies in XClo.
-/
import Derived.Test.YtpehmkglkjlmfaaDoorClo
namespace Go.Proofs.YtpehmkglkjlmfaaDoor
open Go.RowKit Go.ChangeShapes Go.WideShapes

theorem strs_ne {a b : ByteArray} (h : ¬ a = b) : (a.toList == b.toList) = false := by
  rw [beq_eq_false_iff_ne]
  intro e
  rw [Lib.toList_data, Lib.toList_data] at e
  apply h
  obtain ⟨⟨x⟩⟩ := a
  obtain ⟨⟨y⟩⟩ := b
  simp at e
  rw [e]
theorem strs_eq {xs ys : List Int} (hx : InB xs) (hy : InB ys) : (strOfNums xs = strOfNums ys) ↔ xs = ys := ⟨str_inj hx hy, fun h => by rw [h]⟩

set_option maxRecDepth 20000 in
theorem equal_t (a a2 : Option Addr) (n c n2 c2 : Nat) (xs : List Int) (w : World) (h1 : SlB (.slice a n c) xs w) (h2 : SlB (.slice a2 n2 c2) xs w) :
    Calls Tryd.prog 77 #[.slice a n c, .slice a2 n2 c2] w fun e w' => e = .returned (.bool true) ∧ Kp w w' := by
  have v1 := conv_slb (h1.kp (Kp.refl w).drew)
  have v2 := conv_slb (h2.kp (Kp.refl w).drew)
  have v3 := conv_slb h1
  have v4 := conv_slb h2
  obtain ⟨ss, hss⟩ : ∃ ss, strOfNums xs = ss := ⟨_, rfl⟩
  rw [hss] at v1 v2 v3 v4
  clear h1 h2 hss
  go_enter Tryd.func77, Tryd.ntmps77
  go_wp2
  go_ret
  exact ⟨by simp, Kp.refl _⟩
set_option maxRecDepth 20000 in
theorem equal_f (a a2 : Option Addr) (n c n2 c2 : Nat) (xs ys : List Int) (hx : InB xs) (hy : InB ys) (hne : xs ≠ ys) (w : World) (h1 : SlB (.slice a n c) xs w) (h2 : SlB (.slice a2 n2 c2) ys w) :
    Calls Tryd.prog 77 #[.slice a n c, .slice a2 n2 c2] w fun e w' => e = .returned (.bool false) ∧ Kp w w' := by
  have hns : ¬ strOfNums xs = strOfNums ys := fun h => hne (str_inj hx hy h)
  have v1 := conv_slb (h1.kp (Kp.refl w).drew)
  have v2 := conv_slb (h2.kp (Kp.refl w).drew)
  have v3 := conv_slb h1
  have v4 := conv_slb h2
  obtain ⟨ss, hss⟩ : ∃ ss, strOfNums xs = ss := ⟨_, rfl⟩
  obtain ⟨tt, htt⟩ : ∃ ss, strOfNums ys = ss := ⟨_, rfl⟩
  rw [hss] at v1 v3 hns
  rw [htt] at v2 v4 hns
  clear h1 h2 hss htt hne
  go_enter Tryd.func77, Tryd.ntmps77
  go_wp2
  go_ret
  exact ⟨by rw [strs_ne hns]; rfl, Kp.refl _⟩
end Go.Proofs.YtpehmkglkjlmfaaDoor
