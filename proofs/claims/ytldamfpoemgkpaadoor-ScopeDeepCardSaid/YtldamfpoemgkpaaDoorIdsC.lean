/-
  WHAT PACKAGE ids ANSWERS (own work), as the laws of layer 5 want it; the laws' alive.
-/
import Derived.Test.YtldamfpoemgkpaaDoorNumsR
import Derived.Test.YtldamfpoemgkpaaDoorErrI
namespace Go.Proofs.YtldamfpoemgkpaaDoor
open Go.RowKit Go.ChangeShapes Go.WideShapes

/-- a text, or ErrRange -/
def textR (ads : List Addr) : Option (List Int) → Value
  | some t => .tuple #[.string (strOfNums t), .nilIface]
  | none => .tuple #[.string ⟨#[]⟩, errI ads 1]
def nodeR (n : Int) : Bool := decide (0 ≤ n ∧ n < 4)
def nodeO (n : Int) : Option (List Int) := if nodeR n = true then some (nodeT n.toNat) else none
def actO (n s : Int) : Option (List Int) := if rightA n s = true then some (actT n.toNat s.toNat) else none
def regR (r : Int) : Bool := decide (0 ≤ r ∧ r < 6)
def partR (p : Int) : Bool := decide (0 ≤ p ∧ p < 8)
def regO (n s r : Int) : Option (List Int) := if (rightA n s && regR r) = true then some (regT n.toNat s.toNat r.toNat) else none
def partO (n p : Int) : Option (List Int) := if (nodeR n && partR p) = true then some (partT n.toNat p.toNat) else none
def nodeP : List Int := [110, 35]
def actP : List Int := [97, 35, 46, 35]
def regP : List Int := [97, 35, 46, 35, 47, 35]
def partP : List Int := [112, 35, 46, 35]
def nodeN (S : List Int) : List Int × Int := numM S nodeP [4]
def actN (S : List Int) : List Int × Int := numM S actP [4, 1000000]
def regN (S : List Int) : List Int × Int := numM S regP [4, 1000000, 6]
def partN (S : List Int) : List Int × Int := numM S partP [4, 8]
/-- a number of an int -/
abbrev I64 (n : Int) : Prop := -9223372036854775808 ≤ n ∧ n ≤ 9223372036854775807

/-- Num of such an error -/
theorem num_errI (ads : List Addr) (w : World) (V : St ads w) (k : Int) (hk : k = 0 ∨ k = 1 ∨ k = 4) :
    Calls Tryd.prog 11 #[errI ads k] w fun e w' => e = .returned (.int .i64 k) ∧ Kp w w' := by
  have h14 : ads.length = 14 := V.len
  rcases hk with rfl | rfl | rfl
  · refine (num_nil w).mono ?_
    rintro e w' ⟨h, rfl⟩
    exact ⟨h, Kp.refl _⟩
  · have h := num_err ads w V 0 (by decide) (by omega)
    have e : errI ads 1 = .iface 115 (.pointer (some ads[0])) := by
      unfold errI
      rw [if_neg (by decide), show ((1 : Int) - 1).toNat = 0 from rfl, List.getElem?_eq_getElem (by omega)]
    rw [e]
    exact h
  · have h := num_err ads w V 3 (by decide) (by omega)
    have e : errI ads 4 = .iface 115 (.pointer (some ads[3])) := by
      unfold errI
      rw [if_neg (by decide), show ((4 : Int) - 1).toNat = 3 from rfl, List.getElem?_eq_getElem (by omega)]
    rw [e]
    exact h
theorem numM_three (S P lims : List Int) : (numM S P lims).2 = 0 ∨ (numM S P lims).2 = 1 ∨ (numM S P lims).2 = 4 := by
  unfold numM
  split
  · exact .inr (.inr rfl)
  · split
    · split
      · exact .inl rfl
      · exact .inr (.inl rfl)
    · exact .inr (.inr rfl)

end Go.Proofs.YtldamfpoemgkpaaDoor
