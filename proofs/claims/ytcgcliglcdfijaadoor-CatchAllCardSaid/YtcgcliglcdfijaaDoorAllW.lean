/-
  THE WALK OF CatchAll (own work).
-/
import Derived.Test.YtcgcliglcdfijaaDoorRows
import Derived.Test.YtcgcliglcdfijaaDoorCallV
import Derived.Test.YtcgcliglcdfijaaDoorLaidC
namespace Go.Proofs.YtcgcliglcdfijaaDoor
open Go.RowKit

theorem catchAll_walk (v : Value) (bs : List Int) (W : World) (hs : SlI v bs W) (_hm : bs.length ≤ maxLen) (hL : laidMetH Tryd.prog Rows.catchAllRow.laid W) :
    Calls Tryd.prog 4 #[v] W fun e w' => e = .returned (.bool true) ∧ Below W.heap.size W w' := by
  obtain ⟨ads, s, V⟩ := st_of_laid (l := Rows.catchAllRow.laid) rfl (by kernel_rfl) hL
  obtain ⟨a, cap, rfl⟩ := hs.form
  by_cases h : bs.length ≤ 100
  · exact all_short a cap bs bs.length rfl h W hs ads s V
  · exact all_long a cap bs.length (by omega) W ads (some s) V

end Go.Proofs.YtcgcliglcdfijaaDoor
