/-
  AN ERROR BY ITS NUMBER (own work): 0: none; k: package api's k-th.
-/
import Derived.Test.YtanbeaebdingeaaDoorStE
namespace Go.Proofs.YtanbeaebdingeaaDoor
open Go.RowKit

/-- the error of a number (0: none) -/
def errI (ads : List Addr) (k : Int) : Value := if k = 0 then .nilIface else .iface 131 (.pointer (ads[(k - 1).toNat]?))
theorem errI_nil (ads : List Addr) : errI ads 0 = .nilIface := rfl
theorem errI_at (ads : List Addr) (k : Nat) (hk : k < ads.length) : errI ads ((k : Int) + 1) = snt ads[k] := by
  unfold errI
  rw [if_neg (by omega), show ((k : Int) + 1 - 1).toNat = k by omega, List.getElem?_eq_getElem hk]
/-- Num of such an error -/
theorem num_errN (ads : List Addr) (w : World) (V : St ads w) (k : Int) (h0 : 0 ≤ k) (h1 : k ≤ 14) :
    Calls Tryd.prog 22 #[errI ads k] w fun e w' => e = .returned (.int .i64 k) ∧ Kp w w' := by
  have h14 : ads.length = 14 := V.len
  by_cases hk : k = 0
  · subst hk
    refine (num_nil w).mono ?_
    rintro e w' ⟨h, rfl⟩
    exact ⟨h, Kp.refl _⟩
  · obtain ⟨j, hj⟩ : ∃ j : Nat, k = (j : Int) + 1 := ⟨(k - 1).toNat, by omega⟩
    subst hj
    rw [errI_at ads j (by omega)]
    exact num_err ads w V j (by omega) (by omega)
end Go.Proofs.YtanbeaebdingeaaDoor
