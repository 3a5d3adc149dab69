/-
  THE WALK OF NetKeeps (own work).
-/
import Derived.Test.YtjffkfcokgcenaaDoorRows
import Derived.Test.YtjffkfcokgcenaaDoorLaidE
import Derived.Test.YtjffkfcokgcenaaDoorNtX
import Derived.Test.YtjffkfcokgcenaaDoorNetR
import Derived.Test.YtjffkfcokgcenaaDoorSlBB
namespace Go.Proofs.YtjffkfcokgcenaaDoor
open Go.RowKit

theorem netKeeps_walk (v0 : Value) (r : List (List Int)) (v1 : Value) (c : List Bool) (v2 : Value) (x : List Int) (W : World) (kra : SlBB v0 r W) (_krb : r.length ≤ maxLen) (kca : SlV Value.bool v1 c W) (_kcb : c.length ≤ maxLen) (kxa : SlV (Value.int .i64) v2 x W) (_kxb : x.length ≤ maxLen) (hL : laidMetH Tryd.prog Rows.netKeepsRow.laid W) :
    Calls Tryd.prog 4 #[v0, v1, v2] W fun e w' => e = .returned (.bool true) ∧ Below W.heap.size W w' := by
  obtain ⟨ads, E⟩ := ep_of_laid [0, 2, 5] (by decide) (l := Rows.netKeepsRow.laid) (by kernel_rfl) (by kernel_rfl) hL
  have C := netC_of ads W E
  exact keeps_any v0 v1 v2 r c x W kra kca kxa C

end Go.Proofs.YtjffkfcokgcenaaDoor
