/-
  FROM A ROW's LIST OF VARIABLES TO WHAT THE WALKS OVER catch ASK (own work).
-/
import Derived.Test.YtcgcliglcdfijaaDoorFrame
import Derived.Test.YtcgcliglcdfijaaDoorPv
import Derived.MakeChecks
import Derived.Stop.LaidErr
namespace Go.Proofs.YtcgcliglcdfijaaDoor
open Go.RowKit

def text16 : List (String × List UInt8) := text14 ++ [("strconv.ErrRange", [118, 97, 108, 117, 101, 32, 111, 117, 116, 32, 111, 102, 32, 114, 97, 110, 103, 101]), ("strconv.ErrSyntax", [105, 110, 118, 97, 108, 105, 100, 32, 115, 121, 110, 116, 97, 120])]
def gs16 : List Nat := gs14 ++ [15, 14]

theorem st_of_16 {W : World} (h : laidMet Tryd.prog (text16.map sentD) W) : ∃ ads s, St ads (some s) W := by
  obtain ⟨ads, E⟩ := errs_of_laid text16 gs16 rfl (by
    intro i hi hi'
    have hi16 : i < 16 := hi
    match i, hi16 with
    | 0, _ | 1, _ | 2, _ | 3, _ | 4, _ | 5, _ | 6, _ | 7, _ | 8, _ | 9, _ | 10, _ | 11, _ | 12, _ | 13, _ | 14, _ | 15, _ => exact ⟨by kernel_rfl, by kernel_rfl⟩
    | n + 16, h => exact absurd h (by omega)) h
  have hl : ads.length = 16 := E.len
  refine ⟨ads.take 14, ads[15], ⟨?_, fun i hi => ?_, fun a ha => E.row a (List.mem_of_mem_take ha), E.nodup.sublist (List.take_sublist _ _)⟩, ?_, ?_, ?_⟩
  · simp [hl]; rfl
  · have e : gs16[i]'(show i < 16 by have : i < 14 := hi; omega) = gs14[i] := List.getElem_append_left hi
    have t := E.cell i (show i < 16 by have : i < 14 := hi; omega)
    rw [e] at t
    simpa using t
  · intro s hs hm
    obtain rfl := Option.some.inj hs
    obtain ⟨i, hi, he⟩ := List.getElem_of_mem hm
    have hi14 : i < 14 := by simp [hl] at hi; exact hi
    simp only [List.getElem_take] at he
    exact List.pairwise_iff_getElem.1 E.nodup i 15 (by omega) (by omega) (by omega) he
  · intro s hs
    obtain rfl := Option.some.inj hs
    exact E.row _ (List.getElem_mem _)
  · intro s hs
    obtain rfl := Option.some.inj hs
    exact E.cell 15 (by decide)

theorem st_of_laid {W : World} {l : List (String × DataW Unit)} {a b c : String × DataW Unit} (hl : l = a :: b :: c :: text16.map sentD) (hp : (l.all fun x => x.2.handleName?.isNone) = true) (h : laidMetH Tryd.prog l W) : ∃ ads s, St ads (some s) W := by
  subst hl
  rw [MakeChecks.laidMetH_plain _ _ _ hp] at h
  exact st_of_16 h.tail.tail.tail

theorem st_of_14 {W : World} {l : List (String × DataW Unit)} (hl : l = text14.map sentD) (h : laidMetH Tryd.prog l W) : ∃ ads, St ads none W := by
  subst hl
  rw [MakeChecks.laidMetH_plain _ _ _ (by kernel_rfl)] at h
  obtain ⟨ads, E⟩ := errs_of_laid text14 gs14 rfl (by
    intro i hi hi'
    have hi14 : i < 14 := hi
    match i, hi14 with
    | 0, _ | 1, _ | 2, _ | 3, _ | 4, _ | 5, _ | 6, _ | 7, _ | 8, _ | 9, _ | 10, _ | 11, _ | 12, _ | 13, _ => exact ⟨by kernel_rfl, by kernel_rfl⟩) h
  exact ⟨ads, E, (fun s hs => by cases hs), (fun s hs => by cases hs), (fun s hs => by cases hs)⟩
end Go.Proofs.YtcgcliglcdfijaaDoor
