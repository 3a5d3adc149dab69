/-
  THE WALK OF IdsReads (own work).
-/
import Derived.Test.YtjilfkfhnbhjiaaDoorRows
import Derived.Test.YtjilfkfhnbhjiaaDoorLaidI
import Derived.Test.YtjilfkfhnbhjiaaDoorIdsR
import Derived.Lib.SmallJoins
import Derived.ChangeMaps5
import Derived.WideKeyPair
import Derived.Test.YtjilfkfhnbhjiaaDoorReaV
namespace Go.Proofs.YtjilfkfhnbhjiaaDoor
open Go.RowKit

theorem idsReads_walk (t : ByteArray) (W : World) (_kt : t.size ≤ maxLen) (hL : laidMetH Tryd.prog Rows.idsReadsRow.laid W) :
    Calls Tryd.prog 4 #[.string t] W fun e w' => e = .returned (.bool true) ∧ Below W.heap.size W w' := by
  obtain ⟨⟨ads, V⟩, T⟩ := st_tab_of (l := Rows.idsReadsRow.laid) (by kernel_rfl) (by kernel_rfl) (by kernel_rfl) hL
  exact reads_any ads t W V (idsC_of ads W V T)

end Go.Proofs.YtjilfkfhnbhjiaaDoor
