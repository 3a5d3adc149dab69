/-
  NETS (own work): letters on their way, cuts, as a model.
-/
import Derived.RowKit
namespace Go.Proofs.YtjffkfcokgcenaaDoor
open Go.RowKit

/-- a letter: from, to, its bytes -/
structure LtM where
  (a b : Int) (d : List Int)
/-- a net: how many nodes; the letters, in order; the ways that are cut; how many were lost -/
structure NetM where
  (n : Nat) (f : List LtM) (cut : List (List Bool)) (lost : Int)
def lt0 : LtM := ⟨0, 0, []⟩
def NetM.new (n : Nat) : NetM := ⟨n, [], List.replicate n (List.replicate n false), 0⟩
def NetM.has (m : NetM) (i : Int) : Bool := decide (0 ≤ i) && decide (i < m.n)
def NetM.there (m : NetM) (i : Int) : Bool := decide (0 ≤ i) && decide (i < m.f.length)
def NetM.isCut (m : NetM) (a b : Int) : Bool := (m.cut.getD a.toNat []).getD b.toNat false
def NetM.but (m : NetM) (i : Nat) : List LtM := m.f.take i ++ m.f.drop (i + 1)
/-- each call: what it answers, the error's number, the net behind it -/
def NetM.put (m : NetM) (l : LtM) : (Bool × Int) × NetM :=
  if (m.has l.a && m.has l.b) = false then ((false, 1), m)
  else if 1000 < l.d.length then ((false, 3), m)
  else if m.isCut l.a l.b = true then ((false, 0), ⟨m.n, m.f, m.cut, wrap64 (m.lost + 1)⟩)
  else if 63 < m.f.length then ((false, 6), m)
  else ((true, 0), ⟨m.n, m.f ++ [l], m.cut, m.lost⟩)
def NetM.take (m : NetM) (i : Int) : (LtM × Int) × NetM :=
  if m.there i = false then ((lt0, 1), m) else ((m.f.getD i.toNat lt0, 0), ⟨m.n, m.but i.toNat, m.cut, m.lost⟩)
def NetM.copy (m : NetM) (i : Int) : Int × NetM :=
  if m.there i = false then (1, m) else if 63 < m.f.length then (6, m) else (0, ⟨m.n, m.f ++ [m.f.getD i.toNat lt0], m.cut, m.lost⟩)
def NetM.move (m : NetM) (i t : Int) : Int × NetM :=
  if (m.there i && m.there t) = false then (1, m)
  else (0, ⟨m.n, (m.but i.toNat).take t.toNat ++ m.f.getD i.toNat lt0 :: (m.but i.toNat).drop t.toNat, m.cut, m.lost⟩)
def NetM.cutW (m : NetM) (a b : Int) (is : Bool) : Int × NetM :=
  if (m.has a && m.has b) = false then (1, m) else (0, ⟨m.n, m.f, m.cut.set a.toNat ((m.cut.getD a.toNat []).set b.toNat is), m.lost⟩)
/-- the letters to a node, with their places -/
def toM (f : List LtM) (b : Int) : List (Nat × LtM) := (f.zipIdx.map fun q => (q.2, q.1)).filter fun q => decide (q.2.b = b)
/-- what holds of every net that is made: 1 to 4 nodes; 64 letters at most, of 1000 bytes at most, between its nodes; as many cuts as ways -/
structure Nok (m : NetM) : Prop where
  n1 : 1 ≤ m.n
  n4 : m.n ≤ 4
  len : m.f.length ≤ 64
  dat : ∀ l ∈ m.f, l.d.length ≤ 1000 ∧ (∀ x ∈ l.d, 0 ≤ x ∧ x < 256) ∧ m.has l.a = true ∧ m.has l.b = true
  rows : m.cut.length = m.n
  cols : ∀ r ∈ m.cut, r.length = m.n
variable {m : NetM}
theorem nok_new {n : Nat} (h1 : 1 ≤ n) (h4 : n ≤ 4) : Nok (NetM.new n) where
  n1 := h1
  n4 := h4
  len := Nat.zero_le _
  dat := fun l h => by cases h
  rows := List.length_replicate ..
  cols := fun r h => by rw [List.eq_of_mem_replicate h]; exact List.length_replicate ..
theorem but_len {i : Nat} (h : i < m.f.length) : (m.but i).length + 1 = m.f.length := by
  unfold NetM.but
  rw [List.length_append, List.length_take, List.length_drop]
  omega
theorem but_mem {i : Nat} {l : LtM} (h : l ∈ m.but i) : l ∈ m.f := by
  unfold NetM.but at h
  rcases List.mem_append.1 h with h | h
  · exact List.mem_of_mem_take h
  · exact List.mem_of_mem_drop h
theorem there_lt {i : Int} (h : m.there i = true) : 0 ≤ i ∧ i.toNat < m.f.length := by
  unfold NetM.there at h
  simp only [Bool.and_eq_true, decide_eq_true_eq] at h
  omega
theorem get_mem {i : Nat} (h : i < m.f.length) : m.f.getD i lt0 ∈ m.f := by
  rw [List.getD_eq_getElem?_getD, List.getElem?_eq_getElem h]
  exact List.getElem_mem h
theorem Nok.with (h : Nok m) {f : List LtM} (hl : f.length ≤ 64) (hd : ∀ l ∈ f, l.d.length ≤ 1000 ∧ (∀ x ∈ l.d, 0 ≤ x ∧ x < 256) ∧ m.has l.a = true ∧ m.has l.b = true) : Nok ⟨m.n, f, m.cut, m.lost⟩ :=
  ⟨h.n1, h.n4, hl, hd, h.rows, h.cols⟩
theorem nok_put (h : Nok m) (l : LtM) (hb : ∀ x ∈ l.d, 0 ≤ x ∧ x < 256) : Nok (m.put l).2 := by
  unfold NetM.put
  split
  · exact h
  · split
    · exact h
    · split
      · exact ⟨h.n1, h.n4, h.len, h.dat, h.rows, h.cols⟩
      · split
        · exact h
        · rename_i h1 h2 h3 h4
          have h1 : (m.has l.a && m.has l.b) = true := by simpa using h1
          rw [Bool.and_eq_true] at h1
          refine h.with (by rw [List.length_append]; show m.f.length + 1 ≤ 64; omega) fun q hq => ?_
          rcases List.mem_append.1 hq with hq | hq
          · exact h.dat q hq
          · rw [List.mem_singleton.1 hq]
            exact ⟨by omega, hb, h1.1, h1.2⟩
theorem nok_take (h : Nok m) (i : Int) : Nok (m.take i).2 := by
  unfold NetM.take
  split
  · exact h
  · rename_i h1
    have h1 := there_lt (m := m) (i := i) (by simpa using h1)
    have := but_len h1.2
    exact h.with (by have := h.len; omega) fun q hq => h.dat q (but_mem hq)
theorem nok_copy (h : Nok m) (i : Int) : Nok (m.copy i).2 := by
  unfold NetM.copy
  split
  · exact h
  · split
    · exact h
    · rename_i h1 h2
      have h1 := there_lt (m := m) (i := i) (by simpa using h1)
      refine h.with (by rw [List.length_append]; show m.f.length + 1 ≤ 64; omega) fun q hq => ?_
      rcases List.mem_append.1 hq with hq | hq
      · exact h.dat q hq
      · rw [List.mem_singleton.1 hq]
        exact h.dat _ (get_mem h1.2)
theorem move_len {i t : Int} (hi : m.there i = true) : ((m.but i.toNat).take t.toNat ++ m.f.getD i.toNat lt0 :: (m.but i.toNat).drop t.toNat).length = m.f.length := by
  have h1 := there_lt hi
  have := but_len h1.2
  rw [List.length_append, List.length_cons, List.length_take, List.length_drop]
  omega
theorem nok_move (h : Nok m) (i t : Int) : Nok (m.move i t).2 := by
  unfold NetM.move
  split
  · exact h
  · rename_i h1
    have h1 : (m.there i && m.there t) = true := by simpa using h1
    rw [Bool.and_eq_true] at h1
    refine h.with (by rw [move_len h1.1]; exact h.len) fun q hq => ?_
    rcases List.mem_append.1 hq with hq | hq
    · exact h.dat q (but_mem (List.mem_of_mem_take hq))
    · rcases List.mem_cons.1 hq with rfl | hq
      · exact h.dat _ (get_mem (there_lt h1.1).2)
      · exact h.dat q (but_mem (List.mem_of_mem_drop hq))
theorem nok_cut (h : Nok m) (a b : Int) (is : Bool) : Nok (m.cutW a b is).2 := by
  unfold NetM.cutW
  split
  · exact h
  · rename_i h1
    have h1 : (m.has a && m.has b) = true := by simpa using h1
    unfold NetM.has at h1
    simp only [Bool.and_eq_true, decide_eq_true_eq] at h1
    have hr := h.rows
    refine ⟨h.n1, h.n4, h.len, h.dat, by show (m.cut.set _ _).length = m.n; rw [List.length_set]; exact hr, fun r hq => ?_⟩
    rcases List.mem_or_eq_of_mem_set hq with hq | rfl
    · exact h.cols r hq
    · rw [List.length_set]
      have hlt : a.toNat < m.cut.length := by omega
      rw [List.getD_eq_getElem?_getD, List.getElem?_eq_getElem hlt]
      exact h.cols _ (List.getElem_mem hlt)
theorem put_num (m : NetM) (l : LtM) : 0 ≤ (m.put l).1.2 ∧ (m.put l).1.2 ≤ 14 := by
  unfold NetM.put
  repeat' split
  all_goals (dsimp only; omega)
theorem take_num (m : NetM) (i : Int) : 0 ≤ (m.take i).1.2 ∧ (m.take i).1.2 ≤ 14 := by
  unfold NetM.take
  repeat' split
  all_goals (dsimp only; omega)
theorem copy_num (m : NetM) (i : Int) : 0 ≤ (m.copy i).1 ∧ (m.copy i).1 ≤ 14 := by
  unfold NetM.copy
  repeat' split
  all_goals (dsimp only; omega)
theorem move_num (m : NetM) (i t : Int) : 0 ≤ (m.move i t).1 ∧ (m.move i t).1 ≤ 14 := by
  unfold NetM.move
  repeat' split
  all_goals (dsimp only; omega)
theorem cutW_num (m : NetM) (a b : Int) (is : Bool) : 0 ≤ (m.cutW a b is).1 ∧ (m.cutW a b is).1 ≤ 14 := by
  unfold NetM.cutW
  repeat' split
  all_goals (dsimp only; omega)
end Go.Proofs.YtjffkfcokgcenaaDoor
