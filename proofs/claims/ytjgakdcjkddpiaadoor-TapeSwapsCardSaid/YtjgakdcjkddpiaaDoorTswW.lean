/-
  THE WALK OF TapeSwaps (own work).
-/
import Derived.Test.YtjgakdcjkddpiaaDoorRows
import Derived.Test.YtjgakdcjkddpiaaDoorLaidT
import Derived.Test.YtjgakdcjkddpiaaDoorTapT
import Derived.Lib.SmallJoins
import Derived.WideKeyPair
import Derived.Test.YtjgakdcjkddpiaaDoorSwp6
namespace Go.Proofs.YtjgakdcjkddpiaaDoor
open Go.RowKit

theorem tapeSwaps_walk (a : Option Addr) (c : Nat) (bs : List Int) (a2 : Option Addr) (c2 : Nat) (rs : List Int) (n0 n1 : Int) (W : World) (k1 : SlB (.slice a bs.length c) bs W) (k2 : InB bs) (_k3 : bs.length ≤ maxLen) (k4 : bs.length ≤ c) (j1 : SlB (.slice a2 rs.length c2) rs W) (j2 : InB rs) (_j3 : rs.length ≤ maxLen) (j4 : rs.length ≤ c2) (_kn0 : -9223372036854775808 ≤ n0 ∧ n0 ≤ 9223372036854775807) (kn1 : -9223372036854775808 ≤ n1 ∧ n1 ≤ 9223372036854775807) (hL : laidMetH Tryd.prog Rows.tapeSwapsRow.laid W) :
    Calls Tryd.prog 6 #[.slice a bs.length c, .slice a2 rs.length c2, .agg #[.int .i64 n0, .int .i64 n1]] W fun e w' => e = .returned (.bool true) ∧ Below W.heap.size W w' := by
  obtain ⟨ads, E⟩ := e3_of (l := Rows.tapeSwapsRow.laid) (by kernel_rfl) (by kernel_rfl) hL
  obtain ⟨R, C⟩ := tapC_of ads W E
  by_cases hl : 500 < bs.length ∨ 500 < rs.length
  · exact swaps_long C a _ c a2 _ c2 n0 n1 hl
  · exact swaps_any C a _ c bs rfl (by omega) k4 k2 k1 a2 _ c2 rs rfl (by omega) j4 j2 j1 n0 n1 kn1.1 kn1.2

end Go.Proofs.YtjgakdcjkddpiaaDoor
