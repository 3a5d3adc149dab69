/-
  SLICES OF SLICES OF BYTES (own work): a beginning, an end.
-/
import Derived.Test.YtpehmkglkjlmfaaDoorAppB
import Derived.Lib.SlBytesRow
import Derived.Lib.SliceRun
namespace Go.Proofs.YtpehmkglkjlmfaaDoor
open Go.RowKit Go.ChangeShapes Go.WideShapes

theorem byte_sz : ∀ w, (Go.sizeOf 5).run Tryd.prog w = .ok 1 w := by
  obtain ⟨i0, hi, -, hz1, -⟩ := info_parts info_byte
  intro w
  simp [sizeOf, typeInfo, hi, hz1]
theorem byte_elem : Tryd.prog.elem 46 = 5 := by simp [Program.elem, Tryd.underlying46]
theorem byte_sl : Tryd.prog.underlying 46 = some (.slice (Tryd.prog.elem 46)) := by simp [Program.elem, Tryd.underlying46]

theorem SlB.pos {a : Option Addr} {n c : Nat} {bs : List Int} {w : World} (h : SlB (.slice a n c) bs w) (hn : 0 < n) : ∃ b off, a = some ⟨b, off, none⟩ := by
  rcases h with ⟨rfl, a', cap, hv, _⟩ | ⟨b, off, cap, _, hv, _⟩
  · injection hv with _ h2 _; omega
  · injection hv with h1 _ _; exact ⟨b, off, h1⟩
theorem slb_take {b off n c m : Nat} {bs : List Int} {w : World} (h : SlB (.slice (some ⟨b, off, none⟩) n c) bs w) (hm : m ≤ n) : SlB (.slice (some ⟨b, off, none⟩) m c) (bs.take m) w := by
  have hl := h.len
  rcases Nat.eq_zero_or_pos m with rfl | hp
  · exact .inl ⟨by simp, _, c, rfl, fun h => by cases h⟩
  · rcases h with ⟨rfl, _⟩ | ⟨b', off', c', h0, hv, hc⟩
    · simp at hl; omega
    · injection hv with h1 h2 h3
      injection h1 with h1
      injection h1 with h4 h5
      subst h4 h5
      have hml : (bs.take m).length = m := by simp; omega
      refine .inr ⟨b, off, c, by omega, by rw [hml], fun j hj => ?_⟩
      rw [hc j (by omega)]
      simp [List.getD, show j < m by omega]
theorem slb_drop {b off n c m : Nat} {bs : List Int} {w : World} (h : SlB (.slice (some ⟨b, off, none⟩) n c) bs w) (hm : m ≤ n) (hnc : n ≤ c) : SlB (.slice (some ⟨b, if c = m then off else off + m, none⟩) (n - m) (c - m)) (bs.drop m) w := by
  have hl := h.len
  rcases Nat.eq_zero_or_pos (n - m) with hz | hp
  · rw [hz]
    exact .inl ⟨by rw [List.drop_of_length_le]; omega, _, _, rfl, fun h => by cases h⟩
  · have hcm : ¬ c = m := by omega
    rw [if_neg hcm]
    rcases h with ⟨rfl, _⟩ | ⟨b', off', c', h0, hv, hc⟩
    · simp at hl; omega
    · injection hv with h1 h2 h3
      injection h1 with h1
      injection h1 with h4 h5
      subst h4 h5
      have hml : (bs.drop m).length = n - m := by simp; omega
      refine .inr ⟨b, off + m, c - m, by omega, by rw [hml], fun j hj => ?_⟩
      rw [Nat.add_assoc, hc (m + j) (by omega)]
      simp [List.getD, List.getElem?_drop]
theorem run_head {b off n c m : Nat} {mm : Int} (hmm : (m : Int) = mm) (hm : m ≤ n) (hnc : n ≤ c) (w : World) :
    (Instr.slice 46 (.slice (some ⟨b, off, none⟩) n c) none (some (.int .i64 mm)) none).run Tryd.prog w = .ok (.slice (some ⟨b, off, none⟩) m c) w := by
  rw [run_slice_h w 46 _ _ _ byte_sl .i64 _ (by omega) (by omega), byte_elem, byte_sz]
  have e : mm.toNat = m := by omega
  simp [Result.andThen, sliced, Addr.add, e]
theorem run_tail {b off n c m : Nat} {mm : Int} (hmm : (m : Int) = mm) (hm : m ≤ n) (w : World) :
    (Instr.slice 46 (.slice (some ⟨b, off, none⟩) n c) (some (.int .i64 mm)) none none).run Tryd.prog w = .ok (.slice (some ⟨b, if c = m then off else off + m, none⟩) (n - m) (c - m)) w := by
  rw [run_slice_l w 46 _ _ _ byte_sl .i64 _ (by omega) (by omega), byte_elem, byte_sz]
  have e : mm.toNat = m := by omega
  simp [Result.andThen, sliced, Addr.add, e]
  split <;> simp
/-- A beginning of a slice, whatever slice. -/
theorem slb_head {a : Option Addr} {n c m : Nat} {bs : List Int} {w : World} (h : SlB (.slice a n c) bs w) (hm : m ≤ n) (hnc : n ≤ c) {mm : Int} (hmm : (m : Int) = mm) :
    ∃ A C, (∀ w, (Instr.slice 46 (.slice a n c) none (some (.int .i64 mm)) none).run Tryd.prog w = .ok (.slice A m C) w) ∧ SlB (.slice A m C) (bs.take m) w := by
  by_cases hn : 0 < n
  · obtain ⟨b, off, rfl⟩ := h.pos hn
    exact ⟨_, _, fun w => run_head hmm hm hnc w, slb_take h hm⟩
  · obtain rfl : n = 0 := by omega
    obtain rfl : m = 0 := by omega
    have e : mm.toNat = 0 := by omega
    cases a with
    | none =>
      obtain ⟨_, rfl⟩ := h.app.1 rfl
      refine ⟨none, 0, fun w => ?_, .inl ⟨by simp, none, 0, rfl, fun _ => rfl⟩⟩
      rw [run_slice_h w 46 _ _ _ byte_sl .i64 _ (by omega) (by omega), byte_elem, byte_sz]
      simp [Result.andThen, sliced, e]
    | some ad =>
      obtain ⟨b, off, sp⟩ := ad
      refine ⟨some ⟨b, off, sp⟩, c, fun w => ?_, .inl ⟨by simp, _, c, rfl, fun h => by cases h⟩⟩
      rw [run_slice_h w 46 _ _ _ byte_sl .i64 _ (by omega) (by omega), byte_elem, byte_sz]
      simp [Result.andThen, sliced, Addr.add, e]
end Go.Proofs.YtpehmkglkjlmfaaDoor
