/-
  SLICES OF ints AND OF bools THAT CAME IN; A ROW OF STRINGS OF A CALL's OWN (own work).
-/
import Derived.Test.YtjffkfcokgcenaaDoorNetO
import Derived.Test.YtjffkfcokgcenaaDoorRnG
import Derived.Deep.Slices
namespace Go.Proofs.YtjffkfcokgcenaaDoor
open Go.RowKit Go.Shelf Go.ChangeShapes Go.WideShapes

/-- the slice value v reads as xs -/
def SlV {α : Type} (mk : α → Value) (v : Value) (xs : List α) (w : World) : Prop :=
  ∃ a cap, v = .slice a xs.length cap ∧ ∀ (j : Nat) (h : j < xs.length), ∃ b off, a = some ⟨b, off, none⟩ ∧ w.cell? ⟨b, off + j, none⟩ = some (mk xs[j])
theorem open_slV {α : Type} [Inhabited α] (mk : α → Value) {H : Type} {enc : TypeId × Value → H} {P : Program} {W : World} {r : Reach} {b0 : Nat} {t e : TypeId} {v : Value} {d : DataW H} {ps : List MemPlace}
    (ht : P.underlying t = some (.slice e)) (hc : P.cellsOf e = 1) (hel0 : ∀ (n : Nat) (u : Value) (y : DataW H × List MemPlace), DataW.trod enc P W 0 (fun _ => true) true n e [u] = some y → ∃ b, u = mk b) (hval : Value.okWide P W r b0 t v)
    (h : DataW.Trod enc P W 0 (fun _ => true) true t v d ps) : ∃ xs : List α, SlV mk v xs W ∧ xs.length ≤ maxLen := by
  obtain ⟨a0, len0, cap0, rfl⟩ := okWide_slice ht hval
  obtain ⟨fuel, hf⟩ := h
  rcases Deep.open_slice1 ht hc hf with ⟨hcs, hx⟩ | ⟨a, len, cap, m, n, V, D, Pl, hcs, _, hl, hm, hmm, hx, hcell⟩
  · simp [Value.cells] at hcs
    obtain ⟨rfl, rfl, rfl⟩ := hcs
    exact ⟨[], ⟨none, 0, rfl, fun j hj => by cases hj⟩, by simp⟩
  · simp [Value.cells] at hcs
    obtain ⟨rfl, rfl, rfl⟩ := hcs
    simp only [if_true] at hmm
    have hel : ∀ i, i < len0 → ∃ b, V i = mk b := fun i hi => hel0 _ _ _ (hcell i (by omega)).2
    let f : Nat → α := fun i => if h : i < len0 then (hel i h).choose else default
    have hf' : ∀ i, i < len0 → V i = mk (f i) := by
      intro i hi
      have e : f i = (hel i hi).choose := by show (if h : i < len0 then (hel i h).choose else default) = _; rw [dif_pos hi]
      rw [e]
      exact (hel i hi).choose_spec
    refine ⟨(List.range len0).map f, ⟨some a, cap0, by simp, fun j hj => ?_⟩, by simp; omega⟩
    have hj' : j < len0 := by simpa using hj
    obtain ⟨b, off, spot⟩ := a
    have hspot : spot = none := by simpa [Addr.add] using World.cell?_spot (hcell 0 (by omega)).1
    subst hspot
    refine ⟨b, off, rfl, ?_⟩
    rw [← add_plain, (hcell j (by omega)).1, hf' j hj']
    simp
set_option maxRecDepth 100000 in
theorem open_ints12 {H : Type} {enc : TypeId × Value → H} {W : World} {r : Reach} {b0 : Nat} {v : Value} {d : DataW H} {ps : List MemPlace} (hval : Value.okWide Tryd.prog W r b0 55 v) (h : DataW.Trod enc Tryd.prog W 0 (fun _ => true) true 55 v d ps) : ∃ xs : List Int, SlV (Value.int .i64) v xs W ∧ xs.length ≤ maxLen :=
  open_slV _ Tryd.underlying55 (by kernel_rfl) (fun n u y hy => by
    obtain ⟨x, e, _⟩ := DataW.trod_int Tryd.underlying3 hy
    exact ⟨x, by simpa using e⟩) hval h
set_option maxRecDepth 100000 in
theorem open_bools12 {H : Type} {enc : TypeId × Value → H} {W : World} {r : Reach} {b0 : Nat} {v : Value} {d : DataW H} {ps : List MemPlace} (hval : Value.okWide Tryd.prog W r b0 54 v) (h : DataW.Trod enc Tryd.prog W 0 (fun _ => true) true 54 v d ps) : ∃ xs : List Bool, SlV Value.bool v xs W ∧ xs.length ≤ maxLen :=
  open_slV _ Tryd.underlying54 (by kernel_rfl) (fun n u y hy => by
    obtain ⟨x, e, _⟩ := DataW.trod_bool Tryd.underlying4 hy
    exact ⟨x, by simpa using e⟩) hval h
/-- a string of the row -/
def sE : EncG (List Int) where
  enc d := [.string (strOfNums d)]
  k := 1
  len := fun _ => rfl
  one := by
    intro x u hu
    rw [List.mem_singleton] at hu
    subst hu
    rfl
theorem info_st0 : (Tryd.prog.info? 9).map (fun i => (i.zero, i.size, i.bytes)) = some (some (.string ⟨#[]⟩), 1, 16) := by kernel_rfl
theorem info_st : ∃ i0, Tryd.prog.info? 9 = some i0 ∧ i0.zero = some (.string ⟨#[]⟩) ∧ i0.size = 1 ∧ i0.bytes = 16 := by
  have h := info_st0
  cases g : Tryd.prog.info? 9 with
  | none => rw [g] at h; cases h
  | some i0 =>
    rw [g] at h
    simp only [Option.map_some, Option.some.injEq, Prod.mk.injEq] at h
    exact ⟨i0, rfl, h.1, h.2.1, h.2.2⟩
theorem ty_st : TyG Tryd.prog 56 9 1 (.string ⟨#[]⟩) 16 := ⟨Tryd.underlying56, info_st, rfl, by decide⟩
theorem part_oneS {w : World} {b : Nat} {d : List Int} {s : ByteArray} (hs : strOfNums d = s) (h : w.heap[b]? = some (.cells #[.string s] 9 (0, 0))) : PartG sE (.slice (some ⟨b, 0, none⟩) 1 1) [d] w := by
  refine ⟨some ⟨b, 0, none⟩, 1, rfl, fun q => (by cases q), fun ad q j u hj => ?_⟩
  injection q with q
  subst q
  have hr : sE.row [d] = [.string s] := by rw [← hs]; rfl
  rw [hr] at hj
  match j, hj with
  | 0, hj =>
    obtain rfl : Value.string s = u := by simpa using hj
    exact cell_row h rfl
  | j + 1, hj => simp at hj
theorem own_prefix {α : Type} {E : EncG α} {w : World} {base n g cp i : Nat} {e : TypeId} {f : List α} (h0 : 0 < E.k) (h : w.ownsRow base e E.k (.slice (some ⟨g, 0, none⟩) n cp) n (E.row f)) (hi : i ≤ n) : w.ownsRow base e E.k (.slice (some ⟨g, 0, none⟩) i cp) i (E.row (f.take i)) := by
  have hn := own_lenG h0 h
  refine ⟨by rw [row_len, List.length_take, Nat.min_eq_left (by omega)], ?_⟩
  rcases h.2 with ⟨q, _⟩ | ⟨g', cap, cur, e1, hg, hh, hc, hm, hs, ht⟩
  · cases q
  · injection e1 with e2 e3 e4
    injection e2 with e2
    injection e2 with e2
    subst e2 e4
    exact .inr ⟨g, cp, cur, rfl, hg, hh, by omega, hm, hs, by rw [row_take, ← ht, List.take_take, Nat.min_eq_left (Nat.mul_le_mul_right _ hi)]⟩
theorem asd_grownV {w w' : World} {v v' : Value} (hg : w.grownBy w' v.ownBlock) (hv : ∀ b, v'.ownBlock = some b → v.ownBlock = some b ∨ w.heap.size ≤ b) : Asd (fun b => v.ownBlock = some b) (fun b => v'.ownBlock = some b) w w' :=
  ⟨hg.os, hg.tape, hg.output, hg.size, fun b hb hn => hg.block b hb (fun e => hn e.symm), hv⟩
/-- a string of the row -/
theorem own_strS {w : World} {base n g cp i : Nat} {f : List (List Int)} (h : w.ownsRow base 9 1 (.slice (some ⟨g, 0, none⟩) n cp) n (sE.row f)) (hi : i < f.length) : w.cell? ⟨g, i, none⟩ = some (.string (strOfNums f[i])) := by
  have e : (sE.row f)[i * 1 + 0]? = some (.string (strOfNums f[i])) := row_at sE f i hi 0 (by decide)
  have := h.cells rfl _ _ e
  rw [Addr.add_lit] at this
  simpa using this
end Go.Proofs.YtjffkfcokgcenaaDoor
