/-
  fields.Split (own work): its body.
-/
import Derived.Test.YtfealdllicicnaaDoorTake
import Derived.Test.YtfealdllicicnaaDoorJoinF
import Derived.BigQuiet
namespace Go.Proofs.YtfealdllicicnaaDoor
open Go.RowKit Go.ChangeShapes Go.WideShapes

/-- ALL BUT THE BLOCK p IS AS IT WAS. -/
def Kb (p : Nat) (w w' : World) : Prop := w.heap.size ≤ w'.heap.size ∧ ∀ b, b ≠ p → b < w.heap.size → w'.heap[b]? = w.heap[b]?
theorem Kb.refl (p : Nat) (w : World) : Kb p w w := ⟨Nat.le_refl _, fun _ _ _ => rfl⟩
theorem Kb.kp {p : Nat} {w w1 w2 : World} (h : Kb p w w1) (hk : Kp w1 w2) : Kb p w w2 := ⟨Nat.le_trans h.1 (Below.size hk), fun b hb hl => by rw [Below.block hk b (Nat.lt_of_lt_of_le hl h.1)]; exact h.2 b hb hl⟩
theorem Kb.set {p : Nat} {w w1 : World} (h : Kb p w w1) (v : Value) : Kb p w (w1.setCell ⟨p, 0, none⟩ v) := ⟨by simp; exact h.1, fun b hb hl => by rw [Below.heap_setCell _ _ _ _ hb]; exact h.2 b hb hl⟩
theorem Kb.setNew {p q : Nat} {w w1 : World} (h : Kb p w w1) (hq : w.heap.size ≤ q) (v : Value) : Kb p w (w1.setCell ⟨q, 0, none⟩ v) := ⟨by simp; exact h.1, fun b hb hl => by rw [Below.heap_setCell _ _ _ _ (by simp; omega)]; exact h.2 b hb hl⟩
theorem Kb.grow {p : Nat} {w w1 w2 : World} {base n size : Nat} {e : TypeId} {v : Value} {xs : List Value} (h : Kb p w w1) (hown : w1.ownsRow base e size v n xs) (hb : w.heap.size ≤ base) (hgr : w1.grownBy w2 v.ownBlock) : Kb p w w2 :=
  ⟨Nat.le_trans h.1 hgr.size, fun b hne hl => by
    have hl1 : b < w1.heap.size := Nat.lt_of_lt_of_le hl h.1
    have hr : w1.heap[b]? = some w1.heap[b] := by simp [hl1]
    rw [box_grow hown hgr hr (by omega), ← hr]
    exact h.2 b hne hl⟩
theorem Kb.past {p B : Nat} {w w' : World} (h : Kb p w w') (hp : p < B) : Past B w w' := ⟨h.1, fun b hb hl => h.2 b (by omega) hl⟩

theorem drewN_kp (w : World) (n : Nat) : Kp w (w.drewN n) := by
  induction n with
  | zero => exact Kp.refl _
  | succ n ih => exact ih.drew

end Go.Proofs.YtfealdllicicnaaDoor
