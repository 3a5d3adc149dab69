/-
  SLICES OF ints THAT CAME IN (own work): opened as a list; rows of the call's own.
-/
import Derived.Test.YtcgcliglcdfijaaDoorTriesK
import Derived.Deep.Slices
import Derived.ProofKit
import Derived.ArgAppend
import Derived.OwnWalk
import Derived.LoopTactic
import Derived.Laws.EntriesVeiled
namespace Go.Proofs.YtcgcliglcdfijaaDoor
open Go.RowKit Go.ChangeShapes Go.WideShapes

/-- THE SLICE VALUE v READS AS THE ints bs. -/
def SlI (v : Value) (bs : List Int) (w : World) : Prop :=
  (bs = [] ∧ ∃ a cap, v = .slice a 0 cap) ∨
  ∃ b off cap, 0 < bs.length ∧ v = .slice (some ⟨b, off, none⟩) bs.length cap ∧ ∀ j, j < bs.length → w.cell? ⟨b, off + j, none⟩ = some (.int .i64 (bs.getD j 0))

theorem SlI.kp {v : Value} {bs : List Int} {w w' : World} (h : SlI v bs w) (hb : Kp w w') : SlI v bs w' := by
  rcases h with h | ⟨b, off, cap, h0, h1, h2⟩
  · exact Or.inl h
  · exact Or.inr ⟨b, off, cap, h0, h1, fun j hj => kp_cell hb (h2 j hj)⟩

theorem SlI.form {v : Value} {bs : List Int} {w : World} (h : SlI v bs w) : ∃ a cap, v = .slice a bs.length cap := by
  rcases h with ⟨rfl, a, cap, rfl⟩ | ⟨b, off, cap, _, rfl, _⟩
  · exact ⟨a, cap, rfl⟩
  · exact ⟨_, cap, rfl⟩

theorem SlI.at {a : Option Addr} {n cap : Nat} {bs : List Int} {w : World} (h : SlI (.slice a n cap) bs w) (j : Nat) (hj : j < bs.length) : ∃ b off, a = some ⟨b, off, none⟩ ∧ w.cell? ⟨b, off + j, none⟩ = some (.int .i64 (bs.getD j 0)) := by
  rcases h with ⟨hz, _⟩ | ⟨b, off, cap', _, hv, hcc⟩
  · rw [hz] at hj; cases hj
  · injection hv with hv1 _ _
    exact ⟨b, off, hv1, hcc j hj⟩

theorem trod_int {H : Type} {enc : TypeId × Value → H} {P : Program} {w : World} {base : Nat} {spare : Nat → Bool} {held : Bool} {fuel : Nat} {t : TypeId} {cs : List Value} {x : DataW H × List MemPlace} {k : IntKind}
    (ht : P.underlying t = some (.int k)) (h : DataW.trod enc P w base spare held fuel t cs = some x) : ∃ b, cs = [.int k b] := by
  cases fuel with
  | zero => simp [DataW.trod] at h
  | succ n =>
    unfold DataW.trod at h
    rw [ht] at h
    split at h <;> simp_all

theorem open_intsl {H : Type} {enc : TypeId × Value → H} {P : Program} {W : World} {r : Reach} {b0 : Nat} {t e : TypeId} {v : Value} {d : DataW H} {ps : List MemPlace}
    (ht : P.underlying t = some (.slice e)) (he : P.underlying e = some (.int .i64)) (hc : P.cellsOf e = 1) (hval : Value.okWide P W r b0 t v)
    (h : DataW.Trod enc P W 0 (fun _ => true) true t v d ps) : ∃ bs : List Int, SlI v bs W ∧ bs.length ≤ maxLen := by
  obtain ⟨a0, len0, cap0, rfl⟩ := okWide_slice ht hval
  obtain ⟨fuel, hf⟩ := h
  rcases Deep.open_slice1 ht hc hf with ⟨hcs, hx⟩ | ⟨a, len, cap, m, n, V, D, Pl, hcs, _, hl, hm, hmm, hx, hcell⟩
  · simp [Value.cells] at hcs
    obtain ⟨rfl, rfl, rfl⟩ := hcs
    exact ⟨[], Or.inl ⟨rfl, none, 0, rfl⟩, by simp⟩
  · simp [Value.cells] at hcs
    obtain ⟨rfl, rfl, rfl⟩ := hcs
    simp only [if_true] at hmm
    have hel : ∀ i, i < len0 → ∃ b, V i = .int .i64 b := by
      intro i hi
      obtain ⟨b, h1⟩ := trod_int he (hcell i (by omega)).2
      exact ⟨b, by simpa using h1⟩
    let f : Nat → Int := fun i => match V i with | .int _ b => b | _ => 0
    have hf' : ∀ i, i < len0 → V i = .int .i64 (f i) := by
      intro i hi
      obtain ⟨b, h1⟩ := hel i hi
      have : f i = b := by show (match V i with | .int _ b => b | _ => 0) = b; rw [h1]
      rw [this]; exact h1
    refine ⟨(List.range len0).map f, ?_, by simp; omega⟩
    by_cases h0 : len0 = 0
    · subst h0; exact Or.inl ⟨by simp, some a, cap0, rfl⟩
    · obtain ⟨b, off, spot⟩ := a
      have hspot : spot = none := by simpa [Addr.add] using World.cell?_spot (hcell 0 (by omega)).1
      subst hspot
      refine Or.inr ⟨b, off, cap0, by simp; omega, by simp, fun j hj => ?_⟩
      have hj' : j < len0 := by simpa using hj
      rw [← add_plain, (hcell j (by omega)).1, hf' j hj']
      simp [List.getD, hj']

theorem own_kp {w w' : World} {base : Nat} {e : TypeId} {size n : Nat} {v : Value} {xs : List Value} (h : w.ownsRow base e size v n xs) (hk : Kp w w') : w'.ownsRow base e size v n xs := by
  obtain ⟨h1, h2⟩ := h
  refine ⟨h1, ?_⟩
  rcases h2 with h2 | ⟨g, cap, cur, hv, hg, hh, r⟩
  · exact Or.inl h2
  · have hlt : g < w.heap.size := by
      rcases Nat.lt_or_ge g w.heap.size with k | k
      · exact k
      · simp [Array.getElem?_eq_none k] at hh
    exact Or.inr ⟨g, cap, cur, hv, hg, by rw [Below.block hk g hlt]; exact hh, r⟩

theorem own_mono {w : World} {base base' : Nat} {e : TypeId} {size n : Nat} {v : Value} {xs : List Value} (h : w.ownsRow base e size v n xs) (hb : base' ≤ base) : w.ownsRow base' e size v n xs := by
  obtain ⟨h1, h2⟩ := h
  refine ⟨h1, ?_⟩
  rcases h2 with h2 | ⟨g, cap, cur, hv, hg, r⟩
  · exact Or.inl h2
  · exact Or.inr ⟨g, cap, cur, hv, Nat.le_trans hb hg, r⟩

end Go.Proofs.YtcgcliglcdfijaaDoor
