/-
  THE WALK OF MovesSeats (own work).
-/
import Derived.Test.YtghjnhdepeiloaaDoorRows
import Derived.Test.YtghjnhdepeiloaaDoorLaidE
import Derived.Test.YtghjnhdepeiloaaDoorMpX
import Derived.Test.YtghjnhdepeiloaaDoorOpZ
import Derived.Test.YtghjnhdepeiloaaDoorMvG
namespace Go.Proofs.YtghjnhdepeiloaaDoor
open Go.RowKit

theorem movesSeats_walk (z : SeatM) (k : Int) (W : World) (kz : z.ok) (kk : -9223372036854775808 ≤ k ∧ k ≤ 9223372036854775807) (hL : laidMetH Tryd.prog Rows.movesSeatsRow.laid W) :
    Calls Tryd.prog 3 #[.agg (seatV z), .int .i64 k] W fun e w' => e = .returned (.bool true) ∧ Below W.heap.size W w' := by
  obtain ⟨ads, V⟩ := st_of_laid (l := Rows.movesSeatsRow.laid) (by kernel_rfl) (by kernel_rfl) hL
  have E : EP [0, 3, 5, 8, 13] ads W := ep_of_st V (by decide)
  have C := movC_of ads W E
  exact seats_any z k W kz kk V C

end Go.Proofs.YtghjnhdepeiloaaDoor
