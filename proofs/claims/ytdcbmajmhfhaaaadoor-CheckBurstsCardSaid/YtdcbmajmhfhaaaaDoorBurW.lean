/-
  THE WALK OF CheckBursts (own work).
-/
import Derived.Test.YtdcbmajmhfhaaaaDoorRows
import Derived.Test.YtdcbmajmhfhaaaaDoorBurX
namespace Go.Proofs.YtdcbmajmhfhaaaaDoor
open Go.RowKit

theorem checkBursts_walk (a : Option Addr) (c : Nat) (bs : List Int) (i x : Int) (W : World) (k1 : SlB (.slice a bs.length c) bs W) (k2 : InB bs) (_k3 : bs.length ≤ maxLen) (_k4 : bs.length ≤ c) (_ki : -9223372036854775808 ≤ i ∧ i ≤ 9223372036854775807) (kx : 0 ≤ x ∧ x ≤ 4294967295) (hL : laidMetH Tryd.prog Rows.checkBurstsRow.laid W) :
    Calls Tryd.prog 5 #[.slice a bs.length c, .int .i64 i, .int .u32 x] W fun e w' => e = .returned (.bool true) ∧ Below W.heap.size W w' := by
  obtain ⟨⟨ads, V⟩, ht⟩ := st_of_15 (l := Rows.checkBurstsRow.laid) rfl hL
  by_cases hl : 500 < bs.length
  · exact bur_long a _ c i x hl W ht
  · by_cases h5 : bs.length < 5
    · exact bur_short a _ c bs rfl h5 k2 i x W ht k1
    · by_cases h0 : x.toNat = 0
      · exact bur_0 ads a _ c bs rfl (by omega) (by omega) k2 i x.toNat (by omega) x (by omega) W V ht k1 h0
      · exact bur_1 ads a _ c bs rfl (by omega) (by omega) k2 i x.toNat (by omega) x (by omega) W V ht k1 h0

end Go.Proofs.YtdcbmajmhfhaaaaDoor
