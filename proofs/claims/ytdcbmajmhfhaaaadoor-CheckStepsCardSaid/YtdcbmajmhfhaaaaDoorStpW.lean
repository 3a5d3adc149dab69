/-
  THE WALK OF CheckSteps (own work).
-/
import Derived.Test.YtdcbmajmhfhaaaaDoorRows
import Derived.Test.YtdcbmajmhfhaaaaDoorStpX
namespace Go.Proofs.YtdcbmajmhfhaaaaDoor
open Go.RowKit

theorem checkSteps_walk (a : Option Addr) (c : Nat) (xs : List Int) (a2 : Option Addr) (c2 : Nat) (ys : List Int) (a3 : Option Addr) (c3 : Nat) (zs : List Int) (W : World) (k1 : SlB (.slice a xs.length c) xs W) (k2 : InB xs) (_k3 : xs.length ≤ maxLen) (k4 : xs.length ≤ c) (j1 : SlB (.slice a2 ys.length c2) ys W) (j2 : InB ys) (_j3 : ys.length ≤ maxLen) (j4 : ys.length ≤ c2) (i1 : SlB (.slice a3 zs.length c3) zs W) (i2 : InB zs) (_i3 : zs.length ≤ maxLen) (i4 : zs.length ≤ c3) (hL : laidMetH Tryd.prog Rows.checkStepsRow.laid W) :
    Calls Tryd.prog 7 #[.slice a xs.length c, .slice a2 ys.length c2, .slice a3 zs.length c3] W fun e w' => e = .returned (.bool true) ∧ Below W.heap.size W w' := by
  have ht := tb_of_1 (l := Rows.checkStepsRow.laid) rfl hL
  by_cases hl : 300 < xs.length ∨ 300 < ys.length ∨ 300 < zs.length
  · exact stp_long a a2 a3 _ c _ c2 _ c3 hl W ht
  · exact stp_ok a a2 a3 _ c _ c2 _ c3 xs ys zs rfl rfl rfl (by omega) (by omega) (by omega) k4 j4 i4 k2 j2 i2 W ht k1 j1 i1

end Go.Proofs.YtdcbmajmhfhaaaaDoor
