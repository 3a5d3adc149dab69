/-
  THE WALK OF FieldsNumbers (own work).
-/
import Derived.Test.YtfealdllicicnaaDoorRows
import Derived.Test.YtfealdllicicnaaDoorNumV
import Derived.Test.YtfealdllicicnaaDoorLaidF
namespace Go.Proofs.YtfealdllicicnaaDoor
open Go.RowKit

theorem fieldsNumbers_walk (n : Int) (a : Option Addr) (c : Nat) (bs : List Int) (W : World) (kn : -9223372036854775808 ≤ n ∧ n ≤ 9223372036854775807) (k1 : SlB (.slice a bs.length c) bs W) (k2 : InB bs) (_k3 : bs.length ≤ maxLen) (_k4 : bs.length ≤ c) (hL : laidMetH Tryd.prog Rows.fieldsNumbersRow.laid W) :
    Calls Tryd.prog 5 #[.int .i64 n, .slice a bs.length c] W fun e w' => e = .returned (.bool true) ∧ Below W.heap.size W w' := by
  obtain ⟨ads, V⟩ := st_of_14 (l := Rows.fieldsNumbersRow.laid) rfl hL
  by_cases hl : 100 < bs.length
  · exact numbers_long ads n a c _ hl W V
  · by_cases hn : n < 0
    · exact numbers_neg ads n hn a c bs _ rfl (by omega) k2 W V k1
    · obtain ⟨m, hm⟩ : ∃ m : Nat, (m : Int) = n := ⟨n.toNat, by omega⟩
      exact numbers_pos ads m (by omega) n hm a c bs _ rfl (by omega) k2 W V k1

end Go.Proofs.YtfealdllicicnaaDoor
