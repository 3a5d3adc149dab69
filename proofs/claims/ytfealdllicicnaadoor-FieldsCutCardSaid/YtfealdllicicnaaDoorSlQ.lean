/-
  SLICES OF FIELDS (own work): each a tag and bytes.
-/
import Derived.Test.YtfealdllicicnaaDoorSlB
import Derived.Deep.SlicePairs
namespace Go.Proofs.YtfealdllicicnaaDoor
open Go.RowKit Go.ChangeShapes Go.WideShapes

/-- THE VALUE OF THE DATA OF A FIELD reads as bytes. -/
def DatB (v : Value) (bs : List Int) (w : World) : Prop := ∃ (a : Option Addr) (c : Nat), v = .slice a bs.length c ∧ SlB (.slice a bs.length c) bs w ∧ InB bs
/-- THE SLICE VALUE v READS AS THE FIELDS fs. -/
def SlQ (v : Value) (fs : List (Int × List Int)) (w : World) : Prop :=
  (fs = [] ∧ ∃ (a : Option Addr) (cap : Nat), v = .slice a 0 cap ∧ (a = none → cap = 0)) ∨
  ∃ b off cap, 0 < fs.length ∧ v = .slice (some ⟨b, off, none⟩) fs.length cap ∧ ∀ (j : Nat) (h : j < fs.length), w.cell? ⟨b, off + j * 2, none⟩ = some (.int .i64 fs[j].1) ∧ ∃ d, w.cell? ⟨b, off + j * 2 + 1, none⟩ = some d ∧ DatB d fs[j].2 w

theorem DatB.kp {v : Value} {bs : List Int} {w w' : World} (h : DatB v bs w) (hb : Kp w w') : DatB v bs w' := by
  obtain ⟨a, c, h1, h2, h3⟩ := h
  exact ⟨a, c, h1, h2.kp hb, h3⟩
theorem SlQ.kp {v : Value} {fs : List (Int × List Int)} {w w' : World} (h : SlQ v fs w) (hb : Kp w w') : SlQ v fs w' := by
  rcases h with h | ⟨b, off, cap, h0, h1, h2⟩
  · exact Or.inl h
  · refine Or.inr ⟨b, off, cap, h0, h1, fun j hj => ?_⟩
    obtain ⟨h3, d, h4, h5⟩ := h2 j hj
    exact ⟨kp_cell hb h3, d, kp_cell hb h4, h5.kp hb⟩
theorem SlQ.form {v : Value} {fs : List (Int × List Int)} {w : World} (h : SlQ v fs w) : ∃ a cap, v = .slice a fs.length cap := by
  rcases h with ⟨rfl, a, cap, rfl, _⟩ | ⟨b, off, cap, _, rfl, _⟩
  · exact ⟨a, cap, rfl⟩
  · exact ⟨_, cap, rfl⟩
theorem SlQ.at {a : Option Addr} {n cap : Nat} {fs : List (Int × List Int)} {w : World} (h : SlQ (.slice a n cap) fs w) (j : Nat) (hj : j < fs.length) :
    ∃ b off, a = some ⟨b, off, none⟩ ∧ w.cell? ⟨b, off + j * 2, none⟩ = some (.int .i64 fs[j].1) ∧ ∃ a' c, w.cell? ⟨b, off + j * 2 + 1, none⟩ = some (.slice a' fs[j].2.length c) ∧ SlB (.slice a' fs[j].2.length c) fs[j].2 w ∧ InB fs[j].2 := by
  rcases h with ⟨hz, _⟩ | ⟨b, off, cap', _, hv, hcc⟩
  · rw [hz] at hj; cases hj
  · injection hv with hv1 _ _
    obtain ⟨h1, d, h2, a', c, rfl, h3, h4⟩ := hcc j hj
    exact ⟨b, off, hv1, h1, a', c, h2, h3, h4⟩

theorem trod_int {H : Type} {enc : TypeId × Value → H} {P : Program} {w : World} {base : Nat} {spare : Nat → Bool} {held : Bool} {fuel : Nat} {t : TypeId} {cs : List Value} {x : DataW H × List MemPlace} {k : IntKind}
    (ht : P.underlying t = some (.int k)) (h : DataW.trod enc P w base spare held fuel t cs = some x) : ∃ b, cs = [.int k b] := by
  cases fuel with
  | zero => simp [DataW.trod] at h
  | succ n =>
    unfold DataW.trod at h
    rw [ht] at h
    split at h <;> simp_all

theorem fieldFields : ∃ f0 f1 : Field, Tryd.prog.underlying 63 = some (.struct #[f0, f1]) ∧ f0.type = 3 ∧ f1.type = 25 ∧ f0.offset = 0 ∧ f1.offset = 1 := ⟨_, _, Tryd.underlying63, rfl, rfl, rfl, rfl⟩

theorem open_fields {H : Type} {enc : TypeId × Value → H} {P : Program} {W : World} {r : Reach} {b0 : Nat} {t e eb : TypeId} {f0 f1 : Field} {v : Value} {d : DataW H} {ps : List MemPlace}
    (ht : P.underlying t = some (.slice e)) (he : P.underlying e = some (.struct #[f0, f1])) (ce : P.cellsOf e = 2) (o0 : f0.offset = 0) (o1 : f1.offset = 1) (c0 : P.cellsOf f0.type = 1) (c1 : P.cellsOf f1.type = 1)
    (t0 : P.underlying f0.type = some (.int .i64)) (t1 : P.underlying f1.type = some (.slice eb)) (tb : P.underlying eb = some (.int .u8)) (cb : P.cellsOf eb = 1)
    (hval : Value.okWide P W r b0 t v)
    (h : DataW.Trod enc P W 0 (fun _ => true) true t v d ps) : ∃ fs : List (Int × List Int), SlQ v fs W ∧ fs.length ≤ maxLen := by
  obtain ⟨a0, len0, cap0, rfl⟩ := okWide_slice ht hval
  obtain ⟨fuel, hf⟩ := h
  rcases Deep.open_slice_pairs ht he ce o0 o1 c0 c1 hf with ⟨hcs, hx⟩ | ⟨a, len, cap, m, n, V0, V1, D0, D1, P0, P1, hcs, _, hl, hm, hmm, hx, hcell⟩
  · simp [Value.cells] at hcs
    obtain ⟨rfl, rfl, rfl⟩ := hcs
    exact ⟨[], Or.inl ⟨rfl, none, 0, rfl, fun _ => rfl⟩, by simp⟩
  · simp [Value.cells] at hcs
    obtain ⟨rfl, rfl, rfl⟩ := hcs
    simp only [if_true] at hmm
    have hel : ∀ i, i < len0 → ∃ q : Int × List Int, V0 i = .int .i64 q.1 ∧ DatB (V1 i) q.2 W := by
      intro i hi
      obtain ⟨_, _, h2, h3⟩ := hcell i (by omega)
      obtain ⟨x, hx⟩ := trod_int t0 h2
      obtain ⟨bs, a', c, h4, h5, h6, _⟩ := open_byte_elem t1 tb cb h3
      exact ⟨(x, bs), by simpa using hx, a', c, by simpa using h4, h5, h6⟩
    let f : Nat → Int × List Int := fun i => if h : i < len0 then (hel i h).choose else (0, [])
    have hf' : ∀ i, i < len0 → V0 i = .int .i64 (f i).1 ∧ DatB (V1 i) (f i).2 W := by
      intro i hi
      have e : f i = (hel i hi).choose := by show (if h : i < len0 then (hel i h).choose else (0, [])) = _; rw [dif_pos hi]
      rw [e]
      exact (hel i hi).choose_spec
    refine ⟨(List.range len0).map f, ?_, by simp; omega⟩
    by_cases h0 : len0 = 0
    · subst h0; exact Or.inl ⟨by simp, some a, cap0, rfl, fun h => by cases h⟩
    · obtain ⟨b, off, spot⟩ := a
      have hspot : spot = none := by simpa [Addr.add] using World.cell?_spot (hcell 0 (by omega)).1
      subst hspot
      refine Or.inr ⟨b, off, cap0, by simp; omega, by simp, fun j hj => ?_⟩
      have hj' : j < len0 := by simpa using hj
      obtain ⟨c0, c1, _⟩ := hcell j (by omega)
      obtain ⟨e0, e1⟩ := hf' j hj'
      rw [add_plain] at c0 c1
      refine ⟨by rw [c0, e0]; simp, V1 j, by rw [Nat.add_assoc]; exact c1, by simpa using e1⟩
end Go.Proofs.YtfealdllicicnaaDoor
