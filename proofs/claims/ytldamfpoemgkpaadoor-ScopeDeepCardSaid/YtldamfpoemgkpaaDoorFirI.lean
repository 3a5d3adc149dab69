/-
  ids.demand, ids.first (own work).
-/
import Derived.Test.YtldamfpoemgkpaaDoorLibI
import Derived.Test.YtldamfpoemgkpaaDoorPvE
import Derived.BigQuiet
import Derived.WalkSmall
import Derived.StillTailTactics
import Derived.Laws.Cover1
namespace Go.Proofs.YtldamfpoemgkpaaDoor
open Go.RowKit Go.ChangeShapes Go.WideShapes

theorem panic_some {P : Program} (t : TypeId) (v : Value) (w : World) : (Instr.panic (.iface t v)).run P w = .halt (.panic (.iface t v)) w := rfl
theorem idemand_t (v : Value) (w : World) : Calls Tryd.prog 62 #[.bool true, v] w fun e w' => e = .returned (.tuple #[]) ∧ w = w' := by
  go_enter Tryd.func62, Tryd.ntmps62
  go_wp2
  go_end0
  exact ⟨rfl, rfl⟩
theorem idemand_f (a : Addr) (w : World) : Calls Tryd.prog 62 #[.bool false, snt a] w fun e w' => e = .panicked [{ v := snt a, recovered := false }] ∧ w = w' := by
  have hpn := panic_some (P := Tryd.prog) 115 (.pointer (some a)) w
  go_enter Tryd.func62, Tryd.ntmps62
  go_wp2
  exact ⟨rfl, rfl, rfl⟩

theorem idxD {D : List Int} (h : InB D) (j : Nat) (hj : j < D.length) (jj : Int) (hjj : (j : Int) = jj) (w : World) :
    (Instr.index 9 (.string (strOfNums D)) (.int .i64 jj)).run Tryd.prog w = .ok (.int .u8 (D.getD j 0)) w := by
  have := idx_str (strOfNums D) j (by rw [strOfNums_size]; exact hj) jj hjj w
  rwa [strB_str h] at this
theorem firstM_none {S : List Int} (h : firstM S = none) : S.takeWhile isD = [] ∨ ((S.takeWhile isD) ≠ [] ∧ S.takeWhile isD ≠ [48] ∧ (S.takeWhile isD).getD 0 0 = 48) := by
  unfold firstM at h
  split at h
  · cases h
  · rename_i g
    by_cases e : S.takeWhile isD = []
    · exact .inl e
    · refine .inr ⟨e, fun q => g (.inl q), ?_⟩
      exact Classical.byContradiction fun q => g (.inr ⟨e, q⟩)
theorem takeWhile_in {S : List Int} (h : InB S) : InB (S.takeWhile isD) := fun x hx => h x (List.takeWhile_subset _ hx)
theorem str_ne {A B : List Int} (hA : InB A) (hB : InB B) (h : A ≠ B) : ((strOfNums A).toList == (strOfNums B).toList) = false := by
  rw [beq_eq_false_iff_ne, Lib.toList_data, Lib.toList_data]
  intro e
  apply h
  rw [← strB_str hA, ← strB_str hB, strB, strB, e]
theorem l48 : (strOfNums [48]).toList = [48] := by rw [Lib.toList_data]; rfl
theorem l0 : (strOfNums []).toList = [] := by rw [Lib.toList_data]; rfl
theorem len_pos {D : List Int} (h : D ≠ []) : 0 < D.length := List.length_pos_iff.2 h

theorem firstM_some {S : List Int} {n : Int} {r : List Int} (h : firstM S = some (n, r)) : n = numC (S.takeWhile isD) ∧ r = S.drop (S.takeWhile isD).length ∧ (S.takeWhile isD = [48] ∨ (S.takeWhile isD ≠ [] ∧ (S.takeWhile isD).getD 0 0 ≠ 48)) := by
  unfold firstM at h
  split at h
  · rename_i g
    injection h with h
    injection h with h1 h2
    exact ⟨h1.symm, h2.symm, g⟩
  · cases h
theorem takeWhile_all {S : List Int} (j : Nat) (hj : j < (S.takeWhile isD).length) : 48 ≤ (S.takeWhile isD).getD j 0 ∧ (S.takeWhile isD).getD j 0 ≤ 57 := by
  have h : (S.takeWhile isD).getD j 0 ∈ S.takeWhile isD := by
    rw [List.getD_eq_getElem?_getD, List.getElem?_eq_getElem hj]
    exact List.getElem_mem hj
  have := List.all_eq_true.1 (List.all_takeWhile (p := isD) (l := S)) _ h
  simpa [isD] using this
theorem numC_take {D : List Int} {j : Nat} (h : j < D.length) : numC (D.take (j + 1)) = stepC (numC (D.take j)) (D.getD j 0) := by
  have := numC_next (S := D) (f := 0) (j := j) (by omega)
  simpa using this
theorem numC_in {S : List Int} (j : Nat) (hj : j ≤ (S.takeWhile isD).length) : 0 ≤ numC ((S.takeWhile isD).take j) ∧ numC ((S.takeWhile isD).take j) ≤ 1000000 := by
  have := numC_range (S := S.takeWhile isD) 0 j (fun i hi => by
    have := takeWhile_all (S := S) i (by omega)
    rw [Nat.zero_add]
    simp only [isD, decide_eq_true_eq]; exact this) (by omega)
  simpa using this

end Go.Proofs.YtldamfpoemgkpaaDoor
