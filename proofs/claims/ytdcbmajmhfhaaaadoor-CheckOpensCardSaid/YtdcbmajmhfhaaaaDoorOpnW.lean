/-
  THE WALK OF CheckOpens (own work).
-/
import Derived.Test.YtdcbmajmhfhaaaaDoorRows
import Derived.Test.YtdcbmajmhfhaaaaDoorOpnV
namespace Go.Proofs.YtdcbmajmhfhaaaaDoor
open Go.RowKit

theorem checkOpens_walk (a : Option Addr) (c : Nat) (bs : List Int) (a2 : Option Addr) (c2 : Nat) (rs : List Int) (W : World) (k1 : SlB (.slice a bs.length c) bs W) (k2 : InB bs) (_k3 : bs.length ≤ maxLen) (_k4 : bs.length ≤ c) (j1 : SlB (.slice a2 rs.length c2) rs W) (j2 : InB rs) (_j3 : rs.length ≤ maxLen) (j4 : rs.length ≤ c2) (hL : laidMetH Tryd.prog Rows.checkOpensRow.laid W) :
    Calls Tryd.prog 4 #[.slice a bs.length c, .slice a2 rs.length c2] W fun e w' => e = .returned (.bool true) ∧ Below W.heap.size W w' := by
  obtain ⟨⟨ads, V⟩, ht⟩ := st_of_15 (l := Rows.checkOpensRow.laid) rfl hL
  by_cases hl : 500 < bs.length ∨ 500 < rs.length
  · exact opn_long a a2 _ c _ c2 hl W ht
  · by_cases h4 : rs.length < 4
    · exact opn_short ads a _ c bs rfl (by omega) k2 a2 _ c2 rs rfl (by omega) j4 j2 W V ht k1 j1 h4
    · by_cases hc : rs.drop (rs.length - 4) = four (crc (rs.take (rs.length - 4)))
      · exact opn_ok ads a _ c bs rfl (by omega) k2 a2 _ c2 rs rfl (by omega) j4 j2 W V ht k1 j1 (rs.length - 4) (by omega) hc
      · exact opn_bad ads a _ c bs rfl (by omega) k2 a2 _ c2 rs rfl (by omega) j4 j2 W V ht k1 j1 (rs.length - 4) (by omega) hc

end Go.Proofs.YtdcbmajmhfhaaaaDoor
