/-
  liaisonref05.Numbers, the law's told (own work).
-/
import Derived.Test.YtldamfpoemgkpaaDoorReadI
import Derived.Test.YtldamfpoemgkpaaDoorStE
import Derived.Laws.OwnMore
namespace Go.Proofs.YtldamfpoemgkpaaDoor
open Go.RowKit Go.ChangeShapes Go.WideShapes

def allL : List Int → List Int → Bool
  | x :: xs, y :: ys => decide (x < y) && allL xs ys
  | _, _ => true
/-- A TEXT's NUMBERS by a pattern, each below its limit; else the error's number. -/
def numM (S P lims : List Int) : List Int × Int :=
  match readM S P 0 [] with
  | none => ([], 4)
  | some (l, b) => if b = S.length then (if allL l lims = true then (l, 0) else ([], 1)) else ([], 4)
theorem allL_at : ∀ (l lims : List Int) (j : Nat) (h : j < l.length) (h2 : j < lims.length), allL (l.drop j) (lims.drop j) = (decide (l[j] < lims[j]) && allL (l.drop (j + 1)) (lims.drop (j + 1))) := by
  intro l lims j h h2
  rw [List.drop_eq_getElem_cons h, List.drop_eq_getElem_cons h2]
  rfl
theorem own_gi {w : World} {base n : Nat} {e : TypeId} {v : Value} {xs : List Value} (h : w.ownsRow base e 1 v n xs) (hn : 0 < n) : ∃ g cap, v = .slice (some ⟨g, 0, none⟩) n cap := by
  rcases h.2 with ⟨rfl, rfl⟩ | ⟨g, cap, cur, rfl, hg, _, hc, _⟩
  · omega
  · exact ⟨g, cap, rfl⟩
theorem own_form0 {w : World} {base n : Nat} {e : TypeId} {v : Value} {xs : List Value} (h : w.ownsRow base e 1 v n xs) : ∃ a cap, v = .slice a n cap := by
  rcases h.2 with ⟨rfl, rfl⟩ | ⟨g, cap, cur, rfl, hg, _, hc, _⟩
  · exact ⟨none, 0, rfl⟩
  · exact ⟨_, cap, rfl⟩

end Go.Proofs.YtldamfpoemgkpaaDoor
