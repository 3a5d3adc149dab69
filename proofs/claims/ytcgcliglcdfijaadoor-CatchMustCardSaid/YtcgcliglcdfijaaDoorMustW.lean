/-
  THE WALK OF CatchMust (own work).
-/
import Derived.Test.YtcgcliglcdfijaaDoorRows
import Derived.Test.YtcgcliglcdfijaaDoorMustV
import Derived.Test.YtcgcliglcdfijaaDoorLaidC
namespace Go.Proofs.YtcgcliglcdfijaaDoor
open Go.RowKit

theorem catchMust_walk (n x d : Int) (W : World) (_kn : -9223372036854775808 ≤ n ∧ n ≤ 9223372036854775807) (_kx : -9223372036854775808 ≤ x ∧ x ≤ 9223372036854775807) (_kd : -9223372036854775808 ≤ d ∧ d ≤ 9223372036854775807) (hL : laidMetH Tryd.prog Rows.catchMustRow.laid W) :
    Calls Tryd.prog 5 #[.int .i64 n, .int .i64 x, .int .i64 d] W fun e w' => e = .returned (.bool true) ∧ Below W.heap.size W w' := by
  obtain ⟨ads, V⟩ := st_of_14 (l := Rows.catchMustRow.laid) rfl hL
  obtain ⟨k, hk, heq⟩ := key_range n 15 (by decide) (by decide)
  obtain ⟨D, hD, heqd⟩ := key_range d 6 (by decide) (by decide)
  rcases Nat.eq_zero_or_pos k with rfl | h0
  · exact must_0 n x d ads none W V D D rfl hD heq heqd
  · exact must_k n x d ads none W V k h0 (by omega) k rfl D D rfl hD heq heqd

end Go.Proofs.YtcgcliglcdfijaaDoor
