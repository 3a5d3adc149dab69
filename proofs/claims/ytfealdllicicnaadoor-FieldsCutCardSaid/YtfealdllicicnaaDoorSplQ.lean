/-
  liaisonref03.Split (own work): which bytes are a row.
-/
import Derived.Test.YtfealdllicicnaaDoorAppB
import Derived.Test.YtfealdllicicnaaDoorSlQ
import Derived.Lib.SlBytesRow
namespace Go.Proofs.YtfealdllicicnaaDoor
open Go.RowKit Go.ChangeShapes Go.WideShapes

theorem byte_sz : ∀ w, (Go.sizeOf 5).run Tryd.prog w = .ok 1 w := by
  obtain ⟨i0, hi, -, hz1, -⟩ := info_parts info_byte
  intro w
  simp [sizeOf, typeInfo, hi, hz1]

/-- A WINDOW of a slice of bytes. -/
theorem slb_window {b off len cap at' n : Nat} {bs : List Int} {w : World} (h : SlB (.slice (some ⟨b, off, none⟩) len cap) bs w) (hlc : len ≤ cap) (hn : at' + n ≤ len) :
    ∃ A C, (∀ w, (Instr.slice 25 (.slice (some ⟨b, off, none⟩) len cap) (some (.int .i64 (at' : Int))) (some (.int .i64 ((at' + n : Nat) : Int))) none).run Tryd.prog w = .ok (.slice (some A) n C) w) ∧ SlB (.slice (some A) n C) ((bs.drop at').take n) w := by
  have hlen := h.len
  rcases Nat.eq_zero_or_pos n with rfl | hp
  · have hz : ∀ w, (Instr.slice 25 (.slice (some ⟨b, off, none⟩) len cap) (some (.int .i64 (at' : Int))) (some (.int .i64 ((at' + 0 : Nat) : Int))) none).run Tryd.prog w = .ok (.slice (some (if cap - at' = 0 then ⟨b, off, none⟩ else ⟨b, off + at', none⟩)) 0 (cap - at')) w := by
      intro w
      have ht' : Tryd.prog.underlying 25 = some (.slice (Tryd.prog.elem 25)) := by simp [Program.elem, Tryd.underlying25]
      have he : Tryd.prog.elem 25 = 5 := by simp [Program.elem, Tryd.underlying25]
      rw [run_slice_lh w 25 _ _ _ ht' .i64 .i64 _ _ (by omega) (by omega) (by omega), he, byte_sz]
      by_cases hc : cap = at'
      · subst hc
        simp [Result.andThen, sliced]
      · have hc2 : ¬ cap - at' = 0 := by omega
        by_cases h0 : at' = 0
        · subst h0
          simp [Result.andThen, sliced, Addr.add, hc]
        · simp [Result.andThen, sliced, Addr.add, hc, hc2, h0]
    exact ⟨_, _, hz, .inl ⟨by simp, _, _, rfl, fun h => by cases h⟩⟩
  · have hw := fun w => Lib.run_slice_window (P := Tryd.prog) w 25 5 Tryd.underlying25 byte_sz b off len cap at' (at' + n) (by omega) (by omega)
    refine ⟨⟨b, off + at', none⟩, cap - at', fun w => ?_, ?_⟩
    · rw [hw w]
      congr 2
      omega
    · have hl2 : ((bs.drop at').take n).length = n := by simp; omega
      refine .inr ⟨b, off + at', cap - at', by omega, by rw [hl2], fun j hj => ?_⟩
      rw [hl2] at hj
      rcases h with ⟨rfl, _⟩ | ⟨b', off', cap', h0, hv, hc⟩
      · simp at hlen; omega
      · injection hv with h1 h2 h3
        injection h1 with h1
        injection h1 with h4 h5
        subst h4 h5
        rw [Nat.add_assoc, hc (at' + j) (by omega)]
        simp [List.getD, List.getElem?_drop, hj]
end Go.Proofs.YtfealdllicicnaaDoor
