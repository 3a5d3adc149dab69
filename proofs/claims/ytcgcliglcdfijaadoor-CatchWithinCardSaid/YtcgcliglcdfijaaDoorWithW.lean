/-
  THE WALK OF CatchWithin (own work).
-/
import Derived.Test.YtcgcliglcdfijaaDoorRows
import Derived.Test.YtcgcliglcdfijaaDoorWithV
import Derived.Test.YtcgcliglcdfijaaDoorLaidC
namespace Go.Proofs.YtcgcliglcdfijaaDoor
open Go.RowKit

theorem catchWithin_walk (v : Value) (bss : List (List Int)) (W : World) (hs : SlS v bss W) (_hm : bss.length ≤ maxLen) (hL : laidMetH Tryd.prog Rows.catchWithinRow.laid W) :
    Calls Tryd.prog 7 #[v] W fun e w' => e = .returned (.bool true) ∧ Below W.heap.size W w' := by
  obtain ⟨ads, s, V⟩ := st_of_laid (l := Rows.catchWithinRow.laid) rfl (by kernel_rfl) hL
  obtain ⟨a, cap, rfl⟩ := hs.form
  by_cases h : bss.length ≤ 20
  · exact within_short a cap bss bss.length rfl h W hs ads s V
  · exact within_long a cap bss.length (by omega) W ads (some s) V

end Go.Proofs.YtcgcliglcdfijaaDoor
