/-
  THE WALK OF FieldsSplit (own work).
-/
import Derived.Test.YtfealdllicicnaaDoorRows
import Derived.Test.YtfealdllicicnaaDoorSplV
import Derived.Test.YtfealdllicicnaaDoorLaidF
namespace Go.Proofs.YtfealdllicicnaaDoor
open Go.RowKit

theorem fieldsSplit_walk (a : Option Addr) (c : Nat) (bs : List Int) (W : World) (k1 : SlB (.slice a bs.length c) bs W) (k2 : InB bs) (_k3 : bs.length ≤ maxLen) (k4 : bs.length ≤ c) (hL : laidMetH Tryd.prog Rows.fieldsSplitRow.laid W) :
    Calls Tryd.prog 4 #[.slice a bs.length c] W fun e w' => e = .returned (.bool true) ∧ Below W.heap.size W w' := by
  obtain ⟨ads, V⟩ := st_of_14 (l := Rows.fieldsSplitRow.laid) rfl hL
  have h14 : ads.length = 14 := V.len
  by_cases hl : 5000 < bs.length
  · exact split_long ads a c _ hl W V
  · have h3 : (splitQ 17 bs 0 0).1 = 0 ∨ (splitQ 17 bs 0 0).1 = 2 ∨ (splitQ 17 bs 0 0).1 = 4 := splitQ_three 17 bs 0 0
    rcases h3 with h | h | h
    · exact split_ok ads a c bs _ rfl (by omega) k4 k2 W V k1 h
    · exact split_bad ads 1 (by omega) 2 rfl (.inl rfl) a c bs _ rfl (by omega) k4 k2 W V k1 h
    · exact split_bad ads 3 (by omega) 4 rfl (.inr rfl) a c bs _ rfl (by omega) k4 k2 W V k1 h

end Go.Proofs.YtfealdllicicnaaDoor
