/-
  THE WALK OF CatchGoes (own work).
-/
import Derived.Test.YtcgcliglcdfijaaDoorRows
import Derived.Test.YtcgcliglcdfijaaDoorGoesV
import Derived.Test.YtcgcliglcdfijaaDoorLaidC
namespace Go.Proofs.YtcgcliglcdfijaaDoor
open Go.RowKit

theorem catchGoes_walk (v : Value) (bs : List Int) (W : World) (hs : SlI v bs W) (_hm : bs.length ≤ maxLen) (hL : laidMetH Tryd.prog Rows.catchGoesRow.laid W) :
    Calls Tryd.prog 6 #[v] W fun e w' => e = .returned (.bool true) ∧ Below W.heap.size W w' := by
  obtain ⟨ads, s, V⟩ := st_of_laid (l := Rows.catchGoesRow.laid) rfl (by kernel_rfl) hL
  obtain ⟨a, cap, rfl⟩ := hs.form
  by_cases h : bs.length ≤ 60
  · exact goes_short a cap bs bs.length rfl h W hs ads s V
  · exact goes_long a cap bs.length (by omega) W ads (some s) V

end Go.Proofs.YtcgcliglcdfijaaDoor
