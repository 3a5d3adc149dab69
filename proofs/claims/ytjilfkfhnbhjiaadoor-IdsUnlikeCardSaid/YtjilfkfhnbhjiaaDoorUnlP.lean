/-
  IdsUnlike's WALKS (own work).
-/
import Derived.Test.YtjilfkfhnbhjiaaDoorBackV
namespace Go.Proofs.YtjilfkfhnbhjiaaDoor
open Go.RowKit Go.ChangeShapes Go.WideShapes

theorem strs_no {a b : ByteArray} (h : ¬ a = b) : (a.toList == b.toList) = false := by
  rw [beq_eq_false_iff_ne]
  intro e
  rw [Lib.toList_data, Lib.toList_data] at e
  apply h
  obtain ⟨⟨x⟩⟩ := a
  obtain ⟨⟨y⟩⟩ := b
  simp at e
  rw [e]
theorem regO_some {n s r : Int} {t : List Int} (h : regO n s r = some t) : (0 ≤ n ∧ n < 4 ∧ 0 ≤ s ∧ s < 1000000) ∧ 0 ≤ r ∧ r < 6 := by
  unfold regO at h
  split at h
  · rename_i g
    simpa [rightA, regR] using g
  · cases h
theorem partO_some {n p : Int} {t : List Int} (h : partO n p = some t) : (0 ≤ n ∧ n < 4) ∧ 0 ≤ p ∧ p < 8 := by
  unfold partO at h
  split at h
  · rename_i g
    simpa [nodeR, partR] using g
  · cases h
theorem actO_some {n s : Int} {t : List Int} (h : actO n s = some t) : 0 ≤ n ∧ n < 4 ∧ 0 ≤ s ∧ s < 1000000 := by
  unfold actO at h
  split at h
  · rename_i g
    simpa [rightA] using g
  · cases h
end Go.Proofs.YtjilfkfhnbhjiaaDoor
