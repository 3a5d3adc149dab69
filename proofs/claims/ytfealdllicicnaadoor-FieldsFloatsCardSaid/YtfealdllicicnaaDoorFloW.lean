/-
  THE WALK OF FieldsFloats (own work).
-/
import Derived.Test.YtfealdllicicnaaDoorRows
import Derived.Test.YtfealdllicicnaaDoorFltV
import Derived.Test.YtfealdllicicnaaDoorLaidF
namespace Go.Proofs.YtfealdllicicnaaDoor
open Go.RowKit

theorem fieldsFloats_walk (b : Nat) (a : Option Addr) (c : Nat) (bs : List Int) (is : Bool) (W : World) (kb : b < 18446744073709551616) (k1 : SlB (.slice a bs.length c) bs W) (k2 : InB bs) (_k3 : bs.length ≤ maxLen) (_k4 : bs.length ≤ c) (hL : laidMetH Tryd.prog Rows.fieldsFloatsRow.laid W) :
    Calls Tryd.prog 6 #[.float .f64 b, .slice a bs.length c, .bool is] W fun e w' => e = .returned (.bool true) ∧ Below W.heap.size W w' := by
  obtain ⟨ads, V⟩ := st_of_14 (l := Rows.fieldsFloatsRow.laid) rfl hL
  have h3 : 3 < ads.length := by rw [V.len]; decide
  by_cases hl : 100 < bs.length
  · exact floats_long ads b a c _ hl is W V
  · by_cases h0 : bs.length = 0
    · exact floats_0 ads h3 b kb a c bs _ rfl (by omega) k2 is W V k1 h0
    · by_cases h1 : bs.length = 1
      · by_cases hx : bs.getD 0 0 = 1
        · exact floats_1 ads h3 b kb a c bs _ rfl (by omega) k2 is W V k1 h1 hx
        · exact floats_2 ads h3 b kb a c bs _ rfl (by omega) k2 is W V k1 h1 hx
      · exact floats_3 ads h3 b kb a c bs _ rfl (by omega) k2 is W V k1 (by omega)

end Go.Proofs.YtfealdllicicnaaDoor
