/-
  TEXTS (own work): liaisonref05.Right, Act, Reg, Part.
-/
import Derived.Test.YtldamfpoemgkpaaDoorDecD
import Derived.Test.YtldamfpoemgkpaaDoorRiA
namespace Go.Proofs.YtldamfpoemgkpaaDoor
open Go.RowKit Go.ChangeShapes Go.WideShapes

theorem dec_len (n : Nat) : (dec n).length ≤ 8 := decF_len 8 n
theorem dec_in (n : Nat) : InB (dec n) := decF_in 8 n
/-- HAS AN ACTIVITY A TEXT? -/
def nodeT (n : Nat) : List Int := [110] ++ dec n
def actT (n s : Nat) : List Int := (([97] ++ dec n) ++ [46]) ++ dec s
def regT (n s r : Nat) : List Int := (actT n s ++ [47]) ++ dec r
def partT (n p : Nat) : List Int := (([112] ++ dec n) ++ [46]) ++ dec p


theorem c97 : (⟨#[97]⟩ : ByteArray) = strOfNums [97] := by decide
theorem c46 : (⟨#[46]⟩ : ByteArray) = strOfNums [46] := by decide
theorem c47 : (⟨#[47]⟩ : ByteArray) = strOfNums [47] := by decide
theorem c112 : (⟨#[112]⟩ : ByteArray) = strOfNums [112] := by decide
theorem c110 : (⟨#[110]⟩ : ByteArray) = strOfNums [110] := by decide

end Go.Proofs.YtldamfpoemgkpaaDoor
