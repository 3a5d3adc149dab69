/-
  SLICES OF SLICES OF BYTES (own work).
-/
import Derived.Test.YtjffkfcokgcenaaDoorSlB
namespace Go.Proofs.YtjffkfcokgcenaaDoor
open Go.RowKit Go.ChangeShapes Go.WideShapes

/-- THE SLICE VALUE v READS AS THE LISTS bss. -/
def SlBB (v : Value) (bss : List (List Int)) (w : World) : Prop :=
  (bss = [] ∧ ∃ a cap, v = .slice a 0 cap ∧ (a = none → cap = 0)) ∨
  ∃ b off cap, 0 < bss.length ∧ v = .slice (some ⟨b, off, none⟩) bss.length cap ∧ ∀ (j : Nat) (h : j < bss.length), ∃ a c, w.cell? ⟨b, off + j, none⟩ = some (.slice a bss[j].length c) ∧ SlB (.slice a bss[j].length c) bss[j] w ∧ InB bss[j]

theorem SlBB.kp {v : Value} {bss : List (List Int)} {w w' : World} (h : SlBB v bss w) (hb : Kp w w') : SlBB v bss w' := by
  rcases h with h | ⟨b, off, cap, h0, h1, h2⟩
  · exact Or.inl h
  · refine Or.inr ⟨b, off, cap, h0, h1, fun j hj => ?_⟩
    obtain ⟨a, c, h3, h4, h5⟩ := h2 j hj
    exact ⟨a, c, kp_cell hb h3, h4.kp hb, h5⟩

theorem SlBB.form {v : Value} {bss : List (List Int)} {w : World} (h : SlBB v bss w) : ∃ a cap, v = .slice a bss.length cap := by
  rcases h with ⟨rfl, a, cap, rfl, _⟩ | ⟨b, off, cap, _, rfl, _⟩
  · exact ⟨a, cap, rfl⟩
  · exact ⟨_, cap, rfl⟩

theorem SlBB.at {a : Option Addr} {n cap : Nat} {bss : List (List Int)} {w : World} (h : SlBB (.slice a n cap) bss w) (j : Nat) (hj : j < bss.length) :
    ∃ b off, a = some ⟨b, off, none⟩ ∧ ∃ a' c, w.cell? ⟨b, off + j, none⟩ = some (.slice a' bss[j].length c) ∧ SlB (.slice a' bss[j].length c) bss[j] w ∧ InB bss[j] := by
  rcases h with ⟨hz, _⟩ | ⟨b, off, cap', _, hv, hcc⟩
  · rw [hz] at hj; cases hj
  · injection hv with hv1 _ _
    exact ⟨b, off, hv1, hcc j hj⟩

theorem open_bytess {H : Type} {enc : TypeId × Value → H} {P : Program} {W : World} {r : Reach} {b0 : Nat} {t e e2 : TypeId} {v : Value} {d : DataW H} {ps : List MemPlace}
    (ht : P.underlying t = some (.slice e)) (he : P.underlying e = some (.slice e2)) (he2 : P.underlying e2 = some (.int .u8)) (hc : P.cellsOf e = 1) (hc2 : P.cellsOf e2 = 1) (hval : Value.okWide P W r b0 t v)
    (h : DataW.Trod enc P W 0 (fun _ => true) true t v d ps) : ∃ bss : List (List Int), SlBB v bss W ∧ bss.length ≤ maxLen := by
  obtain ⟨a0, len0, cap0, rfl⟩ := okWide_slice ht hval
  obtain ⟨fuel, hf⟩ := h
  rcases Deep.open_slice1 ht hc hf with ⟨hcs, hx⟩ | ⟨a, len, cap, m, n, V, D, Pl, hcs, _, hl, hm, hmm, hx, hcell⟩
  · simp [Value.cells] at hcs
    obtain ⟨rfl, rfl, rfl⟩ := hcs
    exact ⟨[], Or.inl ⟨rfl, none, 0, rfl, fun _ => rfl⟩, by simp⟩
  · simp [Value.cells] at hcs
    obtain ⟨rfl, rfl, rfl⟩ := hcs
    simp only [if_true] at hmm
    have hel : ∀ i, i < len0 → ∃ (bs : List Int) (a' : Option Addr) (c : Nat), V i = .slice a' bs.length c ∧ SlB (.slice a' bs.length c) bs W ∧ InB bs := by
      intro i hi
      obtain ⟨bs, a', c, h1, h2, h3, _⟩ := open_byte_elem he he2 hc2 (hcell i (by omega)).2
      exact ⟨bs, a', c, by simpa using h1, h2, h3⟩
    let f : Nat → List Int := fun i => if h : i < len0 then (hel i h).choose else []
    have hf' : ∀ i, i < len0 → ∃ (a' : Option Addr) (c : Nat), V i = .slice a' (f i).length c ∧ SlB (.slice a' (f i).length c) (f i) W ∧ InB (f i) := by
      intro i hi
      have e : f i = (hel i hi).choose := by show (if h : i < len0 then (hel i h).choose else []) = _; rw [dif_pos hi]
      rw [e]
      exact (hel i hi).choose_spec
    refine ⟨(List.range len0).map f, ?_, by simp; omega⟩
    by_cases h0 : len0 = 0
    · subst h0; exact Or.inl ⟨by simp, some a, cap0, rfl, fun h => by cases h⟩
    · obtain ⟨b, off, spot⟩ := a
      have hspot : spot = none := by simpa [Addr.add] using World.cell?_spot (hcell 0 (by omega)).1
      subst hspot
      refine Or.inr ⟨b, off, cap0, by simp; omega, by simp, fun j hj => ?_⟩
      have hj' : j < len0 := by simpa using hj
      obtain ⟨a', c, h1, h2⟩ := hf' j hj'
      refine ⟨a', c, ?_, ?_⟩
      · rw [← add_plain, (hcell j (by omega)).1, h1]
        simp
      · simpa using h2

/-- one, and two, of them in a box that was just made -/
theorem bb_one {w : World} {a : Option Addr} {n c : Nat} {bs : List Int} {t : TypeId} (h : SlB (.slice a n c) bs w) (hn : bs.length = n) (hb : InB bs) :
    SlBB (.slice (some ⟨w.heap.size, 0, none⟩) 1 1) [bs] (w.alloc (.cells #[.slice a n c] t)) := by
  subst hn
  refine .inr ⟨w.heap.size, 0, 1, by simp, rfl, fun j hj => ?_⟩
  obtain rfl : j = 0 := by simpa using hj
  exact ⟨a, c, box_cell w _ t, h.kp (kp_alloc _ _), hb⟩
theorem cell_two {w : World} {b : Nat} {u v : Value} {t : TypeId} {x : Nat × Nat} (h : w.heap[b]? = some (.cells #[u, v] t x)) : w.cell? ⟨b, 0, none⟩ = some u ∧ w.cell? ⟨b, 1, none⟩ = some v := by
  unfold World.cell?
  dsimp only
  rw [h]
  simp
theorem bb_two {w : World} {a a2 : Option Addr} {n c n2 c2 : Nat} {bs bs2 : List Int} {t : TypeId} (h : SlB (.slice a n c) bs w) (hn : bs.length = n) (hb : InB bs) (h2 : SlB (.slice a2 n2 c2) bs2 w) (hn2 : bs2.length = n2) (hb2 : InB bs2) :
    SlBB (.slice (some ⟨w.heap.size, 0, none⟩) 2 2) [bs, bs2] (w.alloc (.cells #[.slice a n c, .slice a2 n2 c2] t)) := by
  subst hn hn2
  have hc := cell_two (MapKept.heap_alloc w (.cells #[.slice a bs.length c, .slice a2 bs2.length c2] t)).1
  refine .inr ⟨w.heap.size, 0, 2, by simp, rfl, fun j hj => ?_⟩
  have hj2 : j < 2 := hj
  match j, hj2 with
  | 0, _ => exact ⟨a, c, hc.1, h.kp (kp_alloc _ _), hb⟩
  | 1, _ => exact ⟨a2, c2, hc.2, h2.kp (kp_alloc _ _), hb2⟩
end Go.Proofs.YtjffkfcokgcenaaDoor
