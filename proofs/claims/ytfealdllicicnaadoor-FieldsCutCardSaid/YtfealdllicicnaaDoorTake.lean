/-
  fields.Split's take (own work): the first bytes of what is left.
-/
import Derived.Test.YtfealdllicicnaaDoorRow
import Derived.Test.YtfealdllicicnaaDoorSplR
namespace Go.Proofs.YtfealdllicicnaaDoor
open Go.RowKit Go.ChangeShapes Go.WideShapes

theorem slb_take {b off n c m : Nat} {bs : List Int} {w : World} (h : SlB (.slice (some ⟨b, off, none⟩) n c) bs w) (hm : m ≤ n) : SlB (.slice (some ⟨b, off, none⟩) m c) (bs.take m) w := by
  have hl := h.len
  rcases Nat.eq_zero_or_pos m with rfl | hp
  · exact .inl ⟨by simp, _, c, rfl, fun h => by cases h⟩
  · rcases h with ⟨rfl, _⟩ | ⟨b', off', c', h0, hv, hc⟩
    · simp at hl; omega
    · injection hv with h1 h2 h3
      injection h1 with h1
      injection h1 with h4 h5
      subst h4 h5
      have hml : (bs.take m).length = m := by simp; omega
      refine .inr ⟨b, off, c, by omega, by rw [hml], fun j hj => ?_⟩
      rw [hc j (by omega)]
      simp [List.getD, show j < m by omega]
theorem slb_drop {b off n c m : Nat} {bs : List Int} {w : World} (h : SlB (.slice (some ⟨b, off, none⟩) n c) bs w) (hm : m ≤ n) (hnc : n ≤ c) : SlB (.slice (some ⟨b, if c = m then off else off + m, none⟩) (n - m) (c - m)) (bs.drop m) w := by
  have hl := h.len
  rcases Nat.eq_zero_or_pos (n - m) with hz | hp
  · rw [hz]
    exact .inl ⟨by rw [List.drop_of_length_le]; omega, _, _, rfl, fun h => by cases h⟩
  · have hcm : ¬ c = m := by omega
    rw [if_neg hcm]
    rcases h with ⟨rfl, _⟩ | ⟨b', off', c', h0, hv, hc⟩
    · simp at hl; omega
    · injection hv with h1 h2 h3
      injection h1 with h1
      injection h1 with h4 h5
      subst h4 h5
      have hml : (bs.drop m).length = n - m := by simp; omega
      refine .inr ⟨b, off + m, c - m, by omega, by rw [hml], fun j hj => ?_⟩
      rw [Nat.add_assoc, hc (m + j) (by omega)]
      simp [List.getD, List.getElem?_drop]

theorem byte_elem : Tryd.prog.elem 25 = 5 := by simp [Program.elem, Tryd.underlying25]
theorem byte_sl : Tryd.prog.underlying 25 = some (.slice (Tryd.prog.elem 25)) := by simp [Program.elem, Tryd.underlying25]
theorem run_head {b off n c m : Nat} {mm : Int} (hmm : (m : Int) = mm) (hm : m ≤ n) (hnc : n ≤ c) (w : World) :
    (Instr.slice 25 (.slice (some ⟨b, off, none⟩) n c) none (some (.int .i64 mm)) none).run Tryd.prog w = .ok (.slice (some ⟨b, off, none⟩) m c) w := by
  rw [run_slice_h w 25 _ _ _ byte_sl .i64 _ (by omega) (by omega), byte_elem, byte_sz]
  have e : mm.toNat = m := by omega
  simp [Result.andThen, sliced, Addr.add, e]
theorem run_tail {b off n c m : Nat} {mm : Int} (hmm : (m : Int) = mm) (hm : m ≤ n) (w : World) :
    (Instr.slice 25 (.slice (some ⟨b, off, none⟩) n c) (some (.int .i64 mm)) none none).run Tryd.prog w = .ok (.slice (some ⟨b, if c = m then off else off + m, none⟩) (n - m) (c - m)) w := by
  rw [run_slice_l w 25 _ _ _ byte_sl .i64 _ (by omega) (by omega), byte_elem, byte_sz]
  have e : mm.toNat = m := by omega
  simp [Result.andThen, sliced, Addr.add, e]
  split <;> simp

/-- A BOX OF A SLICE OF BYTES. -/
abbrev boxS (v : Value) : Obj := .cells #[v] 25 (0, 0)

theorem take_ok (ads : List Addr) (p b off n c m : Nat) (mm : Int) (hmm : (m : Int) = mm) (hm : m ≤ n) (hnc : n ≤ c) (w : World) (V : St ads w) (hp : w.heap[p]? = some (boxS (.slice (some ⟨b, off, none⟩) n c))) :
    Calls Tryd.prog 42 #[.int .i64 mm, .pointer (some ⟨p, 0, none⟩)] w fun e w' => e = .returned (.slice (some ⟨b, off, none⟩) m c) ∧ w' = w.setCell ⟨p, 0, none⟩ (.slice (some ⟨b, if c = m then off else off + m, none⟩) (n - m) (c - m)) := by
  have h14 : ads.length = 14 := V.len
  obtain ⟨e1, c1⟩ : ∃ e1, w.cell? ⟨1, 0, none⟩ = some (snt e1) := ⟨ads[1]'(by omega), V.cell 1 (by decide)⟩
  have cp := cell_of_one hp
  have zp := free_of_one hp
  have s1 := fun w => run_head (b := b) (off := off) hmm hm hnc w
  have s2 := fun w => run_tail (b := b) (off := off) (c := c) hmm hm w
  obtain ⟨o2, ho2⟩ : ∃ o2, (if c = m then off else off + m) = o2 := ⟨_, rfl⟩
  obtain ⟨n2, hn2⟩ : ∃ n2, n - m = n2 := ⟨_, rfl⟩
  obtain ⟨c2, hc2⟩ : ∃ c2, c - m = c2 := ⟨_, rfl⟩
  rw [ho2, hn2, hc2] at s2 ⊢
  have hle : mm ≤ n := by omega
  clear V h14 ho2 hn2 hc2 hmm hm hnc
  go_enter Tryd.func42, Tryd.ntmps42
  go_wp2_with (go_at_call 43; (with_reducible refine (demand_t _ _).mono ?_); rintro e w' ⟨rfl, rfl⟩)
  go_ret
  exact ⟨rfl, rfl⟩

theorem take_short (ads : List Addr) (h1 : 1 < ads.length) (p : Nat) (a : Option Addr) (n c m : Nat) (mm : Int) (hmm : (m : Int) = mm) (hm : n < m) (w : World) (V : St ads w) (hp : w.heap[p]? = some (boxS (.slice a n c))) :
    Calls Tryd.prog 42 #[.int .i64 mm, .pointer (some ⟨p, 0, none⟩)] w fun e w' => e = .panicked [{ v := snt (ads[1]'h1), recovered := false }] ∧ w = w' := by
  have c1 : w.cell? ⟨1, 0, none⟩ = some (snt (ads[1]'h1)) := V.cell 1 (by decide)
  obtain ⟨e1, he1⟩ : ∃ a, ads[1]'h1 = a := ⟨_, rfl⟩
  rw [he1] at c1 ⊢
  have cp := cell_of_one hp
  have hle : decide (mm ≤ n) = false := decide_eq_false (by omega)
  clear V he1 hmm hm
  go_enter Tryd.func42, Tryd.ntmps42
  go_wp2_with (go_at_call 43; (with_reducible refine (demand_f _ _).mono ?_); rintro e w' ⟨rfl, rfl⟩)
  exact ⟨rfl, rfl, rfl⟩
end Go.Proofs.YtfealdllicicnaaDoor
