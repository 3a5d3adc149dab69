/-
  SLICES OF ints (own work): read as a list; rows of the call's own.
-/
import Derived.Test.YtghjnhdepeiloaaDoorKp
import Derived.ArgAppend
import Derived.OwnWalk
import Derived.LoopTactic
import Derived.Lib.Hide
namespace Go.Proofs.YtghjnhdepeiloaaDoor
open Go.RowKit Go.ChangeShapes Go.WideShapes

/-- THE SLICE VALUE v READS AS THE ints bs. -/
def SlI (v : Value) (bs : List Int) (w : World) : Prop :=
  (bs = [] ∧ ∃ a cap, v = .slice a 0 cap) ∨
  ∃ b off cap, 0 < bs.length ∧ v = .slice (some ⟨b, off, none⟩) bs.length cap ∧ ∀ j, j < bs.length → w.cell? ⟨b, off + j, none⟩ = some (.int .i64 (bs.getD j 0))

theorem SlI.kp {v : Value} {bs : List Int} {w w' : World} (h : SlI v bs w) (hb : Kp w w') : SlI v bs w' := by
  rcases h with h | ⟨b, off, cap, h0, h1, h2⟩
  · exact Or.inl h
  · exact Or.inr ⟨b, off, cap, h0, h1, fun j hj => kp_cell hb (h2 j hj)⟩

theorem SlI.form {v : Value} {bs : List Int} {w : World} (h : SlI v bs w) : ∃ a cap, v = .slice a bs.length cap := by
  rcases h with ⟨rfl, a, cap, rfl⟩ | ⟨b, off, cap, _, rfl, _⟩
  · exact ⟨a, cap, rfl⟩
  · exact ⟨_, cap, rfl⟩

theorem SlI.at {a : Option Addr} {n cap : Nat} {bs : List Int} {w : World} (h : SlI (.slice a n cap) bs w) (j : Nat) (hj : j < bs.length) : ∃ b off, a = some ⟨b, off, none⟩ ∧ w.cell? ⟨b, off + j, none⟩ = some (.int .i64 (bs.getD j 0)) := by
  rcases h with ⟨hz, _⟩ | ⟨b, off, cap', _, hv, hcc⟩
  · rw [hz] at hj; cases hj
  · injection hv with hv1 _ _
    exact ⟨b, off, hv1, hcc j hj⟩

theorem own_sli {w : World} {base n : Nat} {v : Value} {bs : List Int} (h : w.ownsRow base 3 1 v n (bs.map (Value.int .i64))) : SlI v bs w := by
  obtain ⟨h1, h2⟩ := h
  have hlen : bs.length = n := by simpa using h1
  rcases h2 with ⟨rfl, hn⟩ | ⟨g, cap, cur, rfl, hg, hh, hc, hm, hs, ht⟩
  · left
    exact ⟨List.length_eq_zero_iff.1 (by omega), none, 0, rfl⟩
  · by_cases h0 : n = 0
    · left
      subst h0
      exact ⟨List.length_eq_zero_iff.1 (by omega), _, cap, rfl⟩
    · right
      refine ⟨g, 0, cap, by omega, by rw [hlen], fun j hj => ?_⟩
      unfold World.cell?
      dsimp only
      rw [hh]
      simp only [Option.isSome_none, Bool.false_eq_true, if_false, Nat.zero_add]
      have : (cur.toList.take (n * 1))[j]? = some (.int .i64 (bs.getD j 0)) := by
        rw [ht]; simp [List.getD, hj]
      rw [List.getElem?_take, Nat.mul_one, if_pos (by omega)] at this
      simpa using this

end Go.Proofs.YtghjnhdepeiloaaDoor
