/-
  THE WALK OF CheckSpoilt (own work).
-/
import Derived.Test.YtdcbmajmhfhaaaaDoorRows
import Derived.Test.YtdcbmajmhfhaaaaDoorSpoV
namespace Go.Proofs.YtdcbmajmhfhaaaaDoor
open Go.RowKit

theorem checkSpoilt_walk (a : Option Addr) (c : Nat) (bs : List Int) (i y : Int) (W : World) (k1 : SlB (.slice a bs.length c) bs W) (k2 : InB bs) (_k3 : bs.length ≤ maxLen) (_k4 : bs.length ≤ c) (_ki : -9223372036854775808 ≤ i ∧ i ≤ 9223372036854775807) (ky : 0 ≤ y ∧ y ≤ 255) (hL : laidMetH Tryd.prog Rows.checkSpoiltRow.laid W) :
    Calls Tryd.prog 6 #[.slice a bs.length c, .int .i64 i, .int .u8 y] W fun e w' => e = .returned (.bool true) ∧ Below W.heap.size W w' := by
  obtain ⟨⟨ads, V⟩, ht⟩ := st_of_15 (l := Rows.checkSpoiltRow.laid) rfl hL
  by_cases hl : 500 < bs.length
  · exact spo_long a _ c i y hl W ht
  · by_cases h0 : y = 0
    · exact spo_0 ads a _ c bs rfl (by omega) k2 i 0 (by omega) y (by omega) W V ht k1 rfl
    · exact spo_1 ads a _ c bs rfl (by omega) k2 i y.toNat (by omega) y (by omega) W V ht k1 (by omega)

end Go.Proofs.YtdcbmajmhfhaaaaDoor
