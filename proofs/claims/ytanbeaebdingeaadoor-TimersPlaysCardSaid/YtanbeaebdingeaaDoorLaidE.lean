/-
  FROM A ROW's LIST OF VARIABLES TO SOME OF package api's ERRORS (own work): for rows that list but some of the fourteen; other variables of the list are passed over.
-/
import Derived.Test.YtanbeaebdingeaaDoorFrame
import Derived.Test.YtanbeaebdingeaaDoorErrI
import Derived.MakeChecks
import Derived.Stop.LaidErr
import Derived.LaidSub
namespace Go.Proofs.YtanbeaebdingeaaDoor
open Go.RowKit

/-- THE ERRORS S (counted from 0) LIE IN w. -/
structure EP (S : List Nat) (ads : List Addr) (w : World) : Prop where
  cell : ∀ i ∈ S, w.cell? ⟨gs14.getD i 0, 0, none⟩ = some (errI ads ((i : Int) + 1))
theorem EP.kp {S : List Nat} {ads : List Addr} {w w' : World} (E : EP S ads w) (hk : Kp w w') : EP S ads w' := ⟨fun i hi => kp_cell hk (E.cell i hi)⟩
theorem EP.sub {S T : List Nat} {ads : List Addr} {w : World} (E : EP S ads w) (h : ∀ i ∈ T, i ∈ S) : EP T ads w := ⟨fun i hi => E.cell i (h i hi)⟩
theorem ep_of_st {S : List Nat} {ads : List Addr} {w : World} (V : St ads w) (h : ∀ i ∈ S, i < 14) : EP S ads w := ⟨fun i hi => by
  have h14 : ads.length = 14 := V.len
  have hi14 := h i hi
  have c := V.cell i (show i < gs14.length by exact hi14)
  rw [errI_at ads i (by omega)]
  rw [← c]
  congr 2
  simp [List.getD, List.getElem?_eq_getElem (show i < gs14.length by exact hi14)]⟩
/-- is it one of package api's? -/
def apiE (x : String × DataW Unit) : Bool := text14.any fun y => y.1 == x.1
theorem names14 : ∀ i : Nat, i < 14 → Tryd.prog.globalNamed (text14.getD i ("", [])).1 = some (gs14.getD i 0) ∧ (Tryd.prog.globals[gs14.getD i 0]?).map (·.type) = some 49 := by
  intro i hi
  match i, hi with
  | 0, _ | 1, _ | 2, _ | 3, _ | 4, _ | 5, _ | 6, _ | 7, _ | 8, _ | 9, _ | 10, _ | 11, _ | 12, _ | 13, _ => exact ⟨by kernel_rfl, by kernel_rfl⟩
theorem st_of_laid {W : World} {l : List (String × DataW Unit)} (h1 : l.filter apiE = text14.map sentD) (hp : (l.all fun x => x.2.handleName?.isNone) = true) (h : laidMetH Tryd.prog l W) : ∃ ads, St ads W := by
  rw [MakeChecks.laidMetH_plain _ _ _ hp] at h
  have g1 := h.filter apiE
  rw [h1] at g1
  exact errs_of_laid text14 gs14 rfl (by
    intro i hi hi'
    have hi14 : i < 14 := hi
    match i, hi14 with
    | 0, _ | 1, _ | 2, _ | 3, _ | 4, _ | 5, _ | 6, _ | 7, _ | 8, _ | 9, _ | 10, _ | 11, _ | 12, _ | 13, _ => exact ⟨by kernel_rfl, by kernel_rfl⟩) g1
theorem ep_of_laid (S : List Nat) (hS : ∀ i ∈ S, i < 14) {W : World} {l : List (String × DataW Unit)} (h1 : l.filter apiE = (S.map fun i => text14.getD i ("", [])).map sentD) (hp : (l.all fun x => x.2.handleName?.isNone) = true) (h : laidMetH Tryd.prog l W) : ∃ ads, EP S ads W := by
  rw [MakeChecks.laidMetH_plain _ _ _ hp] at h
  have g1 := h.filter apiE
  rw [h1] at g1
  obtain ⟨ads, E⟩ := errs_of_laid (S.map fun i => text14.getD i ("", [])) (S.map fun i => gs14.getD i 0) (by simp) (by
    intro i hi hi'
    have hi2 : i < S.length := by simpa using hi
    rw [List.getElem_map, List.getElem_map]
    exact names14 S[i] (hS _ (List.getElem_mem hi2))) g1
  have hlen : ads.length = S.length := by rw [E.len, List.length_map]
  refine ⟨(List.range 14).map fun i => ads.getD (S.idxOf i) ⟨0, 0, none⟩, ⟨fun i hi => ?_⟩⟩
  have hx : S.idxOf i < S.length := List.idxOf_lt_length_of_mem hi
  have c := E.cell (S.idxOf i) (by rw [List.length_map]; exact hx)
  rw [List.getElem_map, List.getElem_idxOf hx] at c
  rw [c, errI_at _ i (by rw [List.length_map, List.length_range]; exact hS i hi), List.getElem_map, List.getElem_range]
  simp [List.getD, List.getElem?_eq_getElem (show S.idxOf i < ads.length by omega)]
end Go.Proofs.YtanbeaebdingeaaDoor
