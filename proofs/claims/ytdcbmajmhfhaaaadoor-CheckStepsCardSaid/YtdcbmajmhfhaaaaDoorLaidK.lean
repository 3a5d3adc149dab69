/-
  FROM A ROW's LIST OF VARIABLES TO THE TABLE AND package api's ERRORS; the laws' alive (own work).
-/
import Derived.Test.YtdcbmajmhfhaaaaDoorFrame
import Derived.Test.YtdcbmajmhfhaaaaDoorSealC
import Derived.MakeChecks
import Derived.Stop.LaidErr
import Derived.LaidSub
import Derived.Lib.SlBytesConst
namespace Go.Proofs.YtdcbmajmhfhaaaaDoor
open Go.RowKit

def tabZ : List Int := (List.range 16).map fun i => ((tab i : Nat) : Int)
theorem tabZ_at : ∀ i, i < 16 → tabZ.getD i 0 = ((tab i : Nat) : Int) := by decide
def tabD : String × DataW Unit := ("liaison/check.table", Lib.tabData .u32 tabZ)

theorem tb_of {W : World} (h : laidMet Tryd.prog [tabD] W) : Tb W := by
  obtain ⟨n, e, t, hty, ht, he, hce, hct⟩ : ∃ n e t, (Tryd.prog.globals[0]?).map (·.type) = some t ∧ Tryd.prog.underlying t = some (.array n e) ∧ Tryd.prog.underlying e = some (.int .u32) ∧ Tryd.prog.cellsOf e = 1 ∧ Tryd.prog.cellsOf t = n :=
    ⟨16, 25, _, rfl, by kernel_rfl, by kernel_rfl, by kernel_rfl, by kernel_rfl⟩
  have hg : Tryd.prog.globalNamed "liaison/check.table" = some 0 := by kernel_rfl
  have T := Lib.tabIs_of_head hg hty ht he hce hct h
  intro i hi
  rw [← tabZ_at i hi]
  exact T.cell hg i hi

theorem tb_of_1 {W : World} {l : List (String × DataW Unit)} (hl : l = [tabD]) (h : laidMetH Tryd.prog l W) : Tb W := by
  subst hl
  rw [MakeChecks.laidMetH_plain _ _ _ (by kernel_rfl)] at h
  exact tb_of h

theorem st_of_15 {W : World} {l : List (String × DataW Unit)} (hl : l = text14.map sentD ++ [tabD]) (h : laidMetH Tryd.prog l W) : (∃ ads, St ads W) ∧ Tb W := by
  subst hl
  rw [MakeChecks.laidMetH_plain _ _ _ (by kernel_rfl)] at h
  have h1 := h.filter fun x => x.1 != "liaison/check.table"
  have h2 := h.filter fun x => x.1 == "liaison/check.table"
  rw [show (text14.map sentD ++ [tabD]).filter (fun x => x.1 != "liaison/check.table") = text14.map sentD by kernel_rfl] at h1
  rw [show (text14.map sentD ++ [tabD]).filter (fun x => x.1 == "liaison/check.table") = [tabD] by kernel_rfl] at h2
  exact ⟨errs_of_laid text14 gs14 rfl (by
    intro i hi hi'
    have hi14 : i < 14 := hi
    match i, hi14 with
    | 0, _ | 1, _ | 2, _ | 3, _ | 4, _ | 5, _ | 6, _ | 7, _ | 8, _ | 9, _ | 10, _ | 11, _ | 12, _ | 13, _ => exact ⟨by kernel_rfl, by kernel_rfl⟩) h1, tb_of h2⟩

def nine : List Int := [49, 50, 51, 52, 53, 54, 55, 56, 57]
theorem crc_nine : crc nine = 3421780262 := by decide +kernel

set_option maxRecDepth 20000 in
theorem alive_any (w : World) (ht : Tb w) : Calls Tryd.prog 8 #[] w fun e w' => e = .returned (.bool true) ∧ Kp w w' := by
  obtain ⟨o, ho⟩ : ∃ o : Obj, o = .cells #[.int .u8 49, .int .u8 50, .int .u8 51, .int .u8 52, .int .u8 53, .int .u8 54, .int .u8 55, .int .u8 56, .int .u8 57] 5 (9, 10) := ⟨_, rfl⟩
  have k1 := kp_alloc w o
  have hs : SlB (.slice (some ⟨w.heap.size, 0, none⟩) 9 9) nine (w.alloc o) := by
    refine .inr ⟨w.heap.size, 0, 9, by decide, rfl, fun j hj => ?_⟩
    have hr := (MapKept.heap_alloc w o).1
    unfold World.cell?
    dsimp only
    rw [hr, ho]
    have hj9 : j < 9 := hj
    match j, hj9 with
    | 0, _ | 1, _ | 2, _ | 3, _ | 4, _ | 5, _ | 6, _ | 7, _ | 8, _ => rfl
  have HS := sum_one (some ⟨w.heap.size, 0, none⟩) 9 9 nine rfl (by decide) (by unfold InB; decide) (w.alloc o) (ht.kp k1) hs 24 _ (Kp.refl _)
  rw [crc_nine, show (w.alloc o).heap.size = w.heap.size + 1 by simp] at HS
  have K2 := Lib.hid (Kp.trans k1 (kp_alloc (w.alloc o) (.cells #[.slice (some ⟨w.heap.size, 0, none⟩) 9 9] 24)))
  rw [ho] at K2 HS
  have HSO := Lib.hid HS
  have hcs := fun (w : World) (C : Array Value) (n c : Nat) => Lib.run_convert_bytes_const (P := Tryd.prog) w 24 5 C n c Tryd.underlying24 Tryd.underlying5
  clear HS hs k1 ho ht
  go_enter Tryd.func8, Tryd.ntmps8
  go_wp2_with (go_at_call 9; go_loud (with_reducible refine HSO.out.mono ?_); rintro e w1 ⟨rfl, rfl⟩)
  go_ret
  exact ⟨rfl, K2.out⟩
end Go.Proofs.YtdcbmajmhfhaaaaDoor
