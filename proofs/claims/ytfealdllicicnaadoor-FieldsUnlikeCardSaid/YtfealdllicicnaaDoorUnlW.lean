/-
  THE WALK OF FieldsUnlike (own work).
-/
import Derived.Test.YtfealdllicicnaaDoorRows
import Derived.Test.YtfealdllicicnaaDoorUnlV
import Derived.Test.YtfealdllicicnaaDoorLaidF
namespace Go.Proofs.YtfealdllicicnaaDoor
open Go.RowKit

theorem fieldsUnlike_walk (x y : Int) (is : Bool) (W : World) (kx : -9223372036854775808 ≤ x ∧ x ≤ 9223372036854775807) (ky : -9223372036854775808 ≤ y ∧ y ≤ 9223372036854775807) (hL : laidMetH Tryd.prog Rows.fieldsUnlikeRow.laid W) :
    Calls Tryd.prog 8 #[.int .i64 x, .int .i64 y, .bool is] W fun e w' => e = .returned (.bool true) ∧ Below W.heap.size W w' := by
  obtain ⟨ads, V⟩ := st_of_14 (l := Rows.fieldsUnlikeRow.laid) rfl hL
  by_cases hx : x < 0
  · exact unl_a ads x y ky.2 is hx W V
  · by_cases hy : y < 0
    · exact unl_b ads x y kx.2 is hx hy W V
    · obtain ⟨m, hm⟩ : ∃ m : Nat, (m : Int) = x := ⟨x.toNat, by omega⟩
      obtain ⟨n, hn⟩ : ∃ n : Nat, (n : Int) = y := ⟨y.toNat, by omega⟩
      exact unl_ok ads m n (by omega) (by omega) x y hm hn is W V

end Go.Proofs.YtfealdllicicnaaDoor
