/-
  THE WALK OF JournalOpens (own work).
-/
import Derived.Test.YtpehmkglkjlmfaaDoorRows
import Derived.Test.YtpehmkglkjlmfaaDoorLaidJ
import Derived.Test.YtpehmkglkjlmfaaDoorTapT
import Derived.Test.YtpehmkglkjlmfaaDoorJoM
import Derived.Test.YtpehmkglkjlmfaaDoorSlJ
import Derived.Test.YtpehmkglkjlmfaaDoorOpn7
namespace Go.Proofs.YtpehmkglkjlmfaaDoor
open Go.RowKit

theorem journalOpens_walk (a : Option Addr) (c : Nat) (bs : List Int) (a2 : Option Addr) (c2 : Nat) (rs : List Int) (W : World) (k1 : SlB (.slice a bs.length c) bs W) (k2 : InB bs) (_k3 : bs.length ≤ maxLen) (k4 : bs.length ≤ c) (j1 : SlB (.slice a2 rs.length c2) rs W) (j2 : InB rs) (_j3 : rs.length ≤ maxLen) (_j4 : rs.length ≤ c2) (hL : laidMetH Tryd.prog Rows.journalOpensRow.laid W) :
    Calls Tryd.prog 4 #[.slice a bs.length c, .slice a2 rs.length c2] W fun e w' => e = .returned (.bool true) ∧ Below W.heap.size W w' := by
  obtain ⟨ads, V, E⟩ := ej_of (l := Rows.journalOpensRow.laid) (by kernel_rfl) (by kernel_rfl) (by kernel_rfl) hL
  have T := tapC_R ads W E.e3
  obtain ⟨J, C⟩ := jouC_of ads W E T (bytesO_of W)
  exact opens_any T C V a a2 _ c _ c2 bs rs k1 rfl k4 k2 j1 rfl j2

end Go.Proofs.YtpehmkglkjlmfaaDoor
