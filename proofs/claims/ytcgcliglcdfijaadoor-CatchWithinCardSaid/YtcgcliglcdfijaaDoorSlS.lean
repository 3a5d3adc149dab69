/-
  SLICES OF SLICES OF ints THAT CAME IN (own work).
-/
import Derived.Test.YtcgcliglcdfijaaDoorSlI
namespace Go.Proofs.YtcgcliglcdfijaaDoor
open Go.RowKit Go.ChangeShapes Go.WideShapes

/-- THE SLICE VALUE v READS AS THE LISTS bss. -/
def SlS (v : Value) (bss : List (List Int)) (w : World) : Prop :=
  (bss = [] ∧ ∃ a cap, v = .slice a 0 cap) ∨
  ∃ b off cap, 0 < bss.length ∧ v = .slice (some ⟨b, off, none⟩) bss.length cap ∧ ∀ (j : Nat) (h : j < bss.length), ∃ a c, w.cell? ⟨b, off + j, none⟩ = some (.slice a bss[j].length c) ∧ SlI (.slice a bss[j].length c) bss[j] w

theorem SlS.kp {v : Value} {bss : List (List Int)} {w w' : World} (h : SlS v bss w) (hb : Kp w w') : SlS v bss w' := by
  rcases h with h | ⟨b, off, cap, h0, h1, h2⟩
  · exact Or.inl h
  · refine Or.inr ⟨b, off, cap, h0, h1, fun j hj => ?_⟩
    obtain ⟨a, c, h3, h4⟩ := h2 j hj
    exact ⟨a, c, kp_cell hb h3, h4.kp hb⟩

theorem SlS.form {v : Value} {bss : List (List Int)} {w : World} (h : SlS v bss w) : ∃ a cap, v = .slice a bss.length cap := by
  rcases h with ⟨rfl, a, cap, rfl⟩ | ⟨b, off, cap, _, rfl, _⟩
  · exact ⟨a, cap, rfl⟩
  · exact ⟨_, cap, rfl⟩

theorem SlS.at {a : Option Addr} {n cap : Nat} {bss : List (List Int)} {w : World} (h : SlS (.slice a n cap) bss w) (j : Nat) (hj : j < bss.length) :
    ∃ b off, a = some ⟨b, off, none⟩ ∧ ∃ a' c, w.cell? ⟨b, off + j, none⟩ = some (.slice a' bss[j].length c) ∧ SlI (.slice a' bss[j].length c) bss[j] w := by
  rcases h with ⟨hz, _⟩ | ⟨b, off, cap', _, hv, hcc⟩
  · rw [hz] at hj; cases hj
  · injection hv with hv1 _ _
    exact ⟨b, off, hv1, hcc j hj⟩

theorem open_elem {H : Type} {enc : TypeId × Value → H} {P : Program} {W : World} {fuel : Nat} {t e : TypeId} {cs : List Value} {x : DataW H × List MemPlace}
    (ht : P.underlying t = some (.slice e)) (he : P.underlying e = some (.int .i64)) (hc : P.cellsOf e = 1)
    (hf : DataW.trod enc P W 0 (fun _ => true) true fuel t cs = some x) : ∃ (bs : List Int) (a : Option Addr) (c : Nat), cs = [.slice a bs.length c] ∧ SlI (.slice a bs.length c) bs W := by
  rcases Deep.open_slice1 ht hc hf with ⟨hcs, hx⟩ | ⟨a, len, cap, m, n, V, D, Pl, hcs, _, hl, hm, hmm, hx, hcell⟩
  · exact ⟨[], none, 0, hcs, Or.inl ⟨rfl, none, 0, rfl⟩⟩
  · simp only [if_true] at hmm
    have hel : ∀ i, i < len → ∃ b, V i = .int .i64 b := by
      intro i hi
      obtain ⟨b, h1⟩ := trod_int he (hcell i (by omega)).2
      exact ⟨b, by simpa using h1⟩
    let f : Nat → Int := fun i => match V i with | .int _ b => b | _ => 0
    have hf' : ∀ i, i < len → V i = .int .i64 (f i) := by
      intro i hi
      obtain ⟨b, h1⟩ := hel i hi
      have : f i = b := by show (match V i with | .int _ b => b | _ => 0) = b; rw [h1]
      rw [this]; exact h1
    refine ⟨(List.range len).map f, some a, cap, by simpa using hcs, ?_⟩
    by_cases h0 : len = 0
    · subst h0; exact Or.inl ⟨by simp, some a, cap, rfl⟩
    · obtain ⟨b, off, spot⟩ := a
      have hspot : spot = none := by simpa [Addr.add] using World.cell?_spot (hcell 0 (by omega)).1
      subst hspot
      refine Or.inr ⟨b, off, cap, by simp; omega, by simp, fun j hj => ?_⟩
      have hj' : j < len := by simpa using hj
      rw [← add_plain, (hcell j (by omega)).1, hf' j hj']
      simp [List.getD, hj']

theorem open_intss {H : Type} {enc : TypeId × Value → H} {P : Program} {W : World} {r : Reach} {b0 : Nat} {t e e2 : TypeId} {v : Value} {d : DataW H} {ps : List MemPlace}
    (ht : P.underlying t = some (.slice e)) (he : P.underlying e = some (.slice e2)) (he2 : P.underlying e2 = some (.int .i64)) (hc : P.cellsOf e = 1) (hc2 : P.cellsOf e2 = 1) (hval : Value.okWide P W r b0 t v)
    (h : DataW.Trod enc P W 0 (fun _ => true) true t v d ps) : ∃ bss : List (List Int), SlS v bss W ∧ bss.length ≤ maxLen := by
  obtain ⟨a0, len0, cap0, rfl⟩ := okWide_slice ht hval
  obtain ⟨fuel, hf⟩ := h
  rcases Deep.open_slice1 ht hc hf with ⟨hcs, hx⟩ | ⟨a, len, cap, m, n, V, D, Pl, hcs, _, hl, hm, hmm, hx, hcell⟩
  · simp [Value.cells] at hcs
    obtain ⟨rfl, rfl, rfl⟩ := hcs
    exact ⟨[], Or.inl ⟨rfl, none, 0, rfl⟩, by simp⟩
  · simp [Value.cells] at hcs
    obtain ⟨rfl, rfl, rfl⟩ := hcs
    simp only [if_true] at hmm
    have hel : ∀ i, i < len0 → ∃ (bs : List Int) (a' : Option Addr) (c : Nat), V i = .slice a' bs.length c ∧ SlI (.slice a' bs.length c) bs W := by
      intro i hi
      obtain ⟨bs, a', c, h1, h2⟩ := open_elem he he2 hc2 (hcell i (by omega)).2
      exact ⟨bs, a', c, by simpa using h1, h2⟩
    let f : Nat → List Int := fun i => if h : i < len0 then (hel i h).choose else []
    have hf' : ∀ i, i < len0 → ∃ (a' : Option Addr) (c : Nat), V i = .slice a' (f i).length c ∧ SlI (.slice a' (f i).length c) (f i) W := by
      intro i hi
      have e : f i = (hel i hi).choose := by show (if h : i < len0 then (hel i h).choose else []) = _; rw [dif_pos hi]
      rw [e]
      exact (hel i hi).choose_spec
    refine ⟨(List.range len0).map f, ?_, by simp; omega⟩
    by_cases h0 : len0 = 0
    · subst h0; exact Or.inl ⟨by simp, some a, cap0, rfl⟩
    · obtain ⟨b, off, spot⟩ := a
      have hspot : spot = none := by simpa [Addr.add] using World.cell?_spot (hcell 0 (by omega)).1
      subst hspot
      refine Or.inr ⟨b, off, cap0, by simp; omega, by simp, fun j hj => ?_⟩
      have hj' : j < len0 := by simpa using hj
      obtain ⟨a', c, h1, h2⟩ := hf' j hj'
      refine ⟨a', c, ?_, ?_⟩
      · rw [← add_plain, (hcell j (by omega)).1, h1]
        simp
      · simpa using h2
end Go.Proofs.YtcgcliglcdfijaaDoor
