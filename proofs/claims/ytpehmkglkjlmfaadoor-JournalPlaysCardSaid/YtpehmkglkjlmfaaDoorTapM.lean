/-
  A TAPE AS IT IS TOLD (own work): what it holds, what each call answers.
-/
import Derived.Test.YtpehmkglkjlmfaaDoorErrI
import Derived.Test.YtpehmkglkjlmfaaDoorSlB
namespace Go.Proofs.YtpehmkglkjlmfaaDoor
open Go.RowKit

/-- what is sure, the tail, the room, how many steps the power lasts (-1: it isn't told), whether it is off -/
structure TM where
  sure : List Int
  tail : List Int
  room : Int
  left : Int
  off : Bool

def TM.all (m : TM) : List Int := m.sure ++ m.tail
/-- a step: the error's number -/
def stepM (m : TM) : Int × TM :=
  if m.left = 0 ∨ m.off = true then (7, { m with off := true }) else if 0 < m.left then (0, { m with left := m.left - 1 }) else (0, m)
def appM (m : TM) (bs : List Int) : Int × TM :=
  if m.room - (m.sure.length : Int) - (m.tail.length : Int) < (bs.length : Int) then (6, m)
  else if (stepM m).1 = 0 then (0, { (stepM m).2 with tail := m.tail ++ bs }) else stepM m
def syncM (m : TM) : Int × TM := if (stepM m).1 = 0 then (0, { (stepM m).2 with sure := m.sure ++ m.tail, tail := [] }) else stepM m
def swapM (m : TM) (bs : List Int) : Int × TM :=
  if m.room < (bs.length : Int) then (6, m) else if (stepM m).1 = 0 then (0, { (stepM m).2 with sure := bs, tail := [] }) else stepM m
def cutsM (m : TM) (n : Int) : Int × TM :=
  if n < 0 ∨ (m.all.length : Int) < n then (1, m) else if (stepM m).1 = 0 then (0, { (stepM m).2 with sure := m.all.take n.toNat, tail := [] }) else stepM m
def roomM (m : TM) (n : Int) : Int × TM := if 0 ≤ n ∧ n ≤ 65536 then (0, { m with room := n }) else (1, m)
def armM (m : TM) (n : Int) : TM := { m with left := if n < 0 then -1 else n }
def crashM (m : TM) (keep : Int) : TM := { m with sure := m.sure ++ m.tail.take keep.toNat, tail := [], left := -1, off := false }
def newM (room : Int) : TM := { sure := [], tail := [], room := room, left := -1, off := false }

/-- such a tape there is -/
structure Mok (m : TM) : Prop where
  bs : InB m.sure
  bt : InB m.tail
  len : m.sure.length + m.tail.length ≤ 65536
  r0 : 0 ≤ m.room
  r1 : m.room ≤ 65536
  l0 : -1 ≤ m.left
  l1 : m.left ≤ 9223372036854775807

theorem stepM_same (m : TM) : (stepM m).2.sure = m.sure ∧ (stepM m).2.tail = m.tail ∧ (stepM m).2.room = m.room := by
  unfold stepM
  split
  · exact ⟨rfl, rfl, rfl⟩
  · split
    · exact ⟨rfl, rfl, rfl⟩
    · exact ⟨rfl, rfl, rfl⟩
theorem stepM_two (m : TM) : (stepM m).1 = 0 ∨ (stepM m).1 = 7 := by
  unfold stepM
  split
  · exact .inr rfl
  · split
    · exact .inl rfl
    · exact .inl rfl
theorem Mok.step {m : TM} (h : Mok m) : Mok (stepM m).2 := by
  obtain ⟨e1, e2, e3⟩ := stepM_same m
  refine ⟨by rw [e1]; exact h.bs, by rw [e2]; exact h.bt, by rw [e1, e2]; exact h.len, by rw [e3]; exact h.r0, by rw [e3]; exact h.r1, ?_, ?_⟩
  · unfold stepM
    split
    · exact h.l0
    · split
      · have := h.l0; show -1 ≤ m.left - 1; omega
      · exact h.l0
  · unfold stepM
    split
    · exact h.l1
    · split
      · have := h.l1; show m.left - 1 ≤ _; omega
      · exact h.l1
theorem InB.app {a b : List Int} (ha : InB a) (hb : InB b) : InB (a ++ b) := fun x hx => by
  rcases List.mem_append.1 hx with h | h
  · exact ha x h
  · exact hb x h
theorem InB.take {a : List Int} (ha : InB a) (k : Nat) : InB (a.take k) := fun x hx => ha x (List.mem_of_mem_take hx)
theorem InB.nil : InB [] := fun x hx => by cases hx
theorem Mok.app {m : TM} (h : Mok m) {bs : List Int} (hb : InB bs) : Mok (appM m bs).2 := by
  unfold appM
  split
  · exact h
  · rename_i g
    split
    · have s := h.step
      obtain ⟨e1, e2, e3⟩ := stepM_same m
      have := h.r1
      exact ⟨s.bs, h.bt.app hb, by show (stepM m).2.sure.length + (m.tail ++ bs).length ≤ 65536; rw [e1, List.length_append]; omega, s.r0, s.r1, s.l0, s.l1⟩
    · exact h.step
theorem Mok.sync {m : TM} (h : Mok m) : Mok (syncM m).2 := by
  unfold syncM
  split
  · have s := h.step
    have := h.len
    exact ⟨h.bs.app h.bt, InB.nil, by show (m.sure ++ m.tail).length + 0 ≤ 65536; rw [List.length_append]; omega, s.r0, s.r1, s.l0, s.l1⟩
  · exact h.step
theorem Mok.swap {m : TM} (h : Mok m) {bs : List Int} (hb : InB bs) : Mok (swapM m bs).2 := by
  unfold swapM
  split
  · exact h
  · rename_i g
    split
    · have s := h.step
      have := h.r1
      exact ⟨hb, InB.nil, by show bs.length + 0 ≤ 65536; omega, s.r0, s.r1, s.l0, s.l1⟩
    · exact h.step
theorem Mok.cuts {m : TM} (h : Mok m) (n : Int) : Mok (cutsM m n).2 := by
  unfold cutsM
  split
  · exact h
  · split
    · have s := h.step
      have := h.len
      exact ⟨(h.bs.app h.bt).take _, InB.nil, by show (m.all.take n.toNat).length + 0 ≤ 65536; rw [List.length_take, TM.all, List.length_append]; omega, s.r0, s.r1, s.l0, s.l1⟩
    · exact h.step
theorem Mok.room {m : TM} (h : Mok m) (n : Int) : Mok (roomM m n).2 := by
  unfold roomM
  split
  · rename_i g
    exact ⟨h.bs, h.bt, h.len, g.1, g.2, h.l0, h.l1⟩
  · exact h
theorem Mok.arm {m : TM} (h : Mok m) (n : Int) (hn : n ≤ 9223372036854775807) : Mok (armM m n) := by
  refine ⟨h.bs, h.bt, h.len, h.r0, h.r1, ?_, ?_⟩
  · show -1 ≤ (if n < 0 then -1 else n)
    split <;> omega
  · show (if n < 0 then -1 else n) ≤ 9223372036854775807
    split <;> omega
theorem Mok.crash {m : TM} (h : Mok m) (n : Int) : Mok (crashM m n) := by
  have := h.len
  exact ⟨h.bs.app (h.bt.take _), InB.nil, by show (m.sure ++ m.tail.take n.toNat).length + 0 ≤ 65536; rw [List.length_append, List.length_take]; omega, h.r0, h.r1, by show -1 ≤ -1; omega, by show -1 ≤ 9223372036854775807; omega⟩
theorem Mok.new {r : Int} (h0 : 0 ≤ r) (h1 : r ≤ 65536) : Mok (newM r) :=
  ⟨InB.nil, InB.nil, by show 0 + 0 ≤ 65536; omega, h0, h1, by show -1 ≤ -1; omega, by show -1 ≤ 9223372036854775807; omega⟩
end Go.Proofs.YtpehmkglkjlmfaaDoor
