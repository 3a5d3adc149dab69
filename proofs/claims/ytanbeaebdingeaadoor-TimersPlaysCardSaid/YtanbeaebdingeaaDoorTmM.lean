/-
  A CLOCK AND ITS TIMERS AS A MODEL (own work): nothing of the program.
-/
import Derived.Test.YtanbeaebdingeaaDoorFo
import Derived.Test.YtanbeaebdingeaaDoorKp
namespace Go.Proofs.YtanbeaebdingeaaDoor

theorem add_le {a b : Nat} (ha : a ≤ 9218868437227405312) (hb : b ≤ 9218868437227405312) : Ieee.double.add a b = some (Fl.addR a b) ∧ Fl.addR a b ≤ 9218868437227405312 ∧ a ≤ Fl.addR a b ∧ b ≤ Fl.addR a b := by
  have h1 := Fl.dl_of_le ha
  have h2 := Fl.dl_of_le hb
  obtain ⟨r, e, h3, h4, h5⟩ := Fl.add_delay h1.1 h2.1
  rw [h1.2.2] at h4
  rw [h2.2.2] at h5
  have er : Fl.addR a b = r := by unfold Fl.addR; rw [e]; rfl
  rw [er]
  rcases (Fl.dl_plain h3).2 with g | rfl
  · rw [(Fl.dl_of_le g).2.2] at h4 h5
    exact ⟨e, g, h4, h5⟩
  · have p0 : Fl.plain 9223372036854775808 = 0 := by decide +kernel
    rw [p0] at h4 h5
    obtain rfl : a = 0 := by omega
    obtain rfl : b = 0 := by omega
    have : Ieee.double.add 0 0 = some 0 := by kernel_rfl
    rw [this] at e
    injection e with e
    omega
theorem add_plain {a b : Nat} (ha : a ≤ 9218868437227405312) (hb : Fl.dl b = true) : Ieee.double.add a b = some (Fl.addR a (Fl.plain b)) := by
  have hp := Fl.dl_plain hb
  rcases hp.2 with g | rfl
  · rw [(Fl.dl_of_le g).2.2]
    exact (add_le ha g).1
  · have p0 : Fl.plain 9223372036854775808 = 0 := by decide +kernel
    rw [p0, ← (add_le ha (Nat.zero_le _)).1]
    have nz : Ieee.double.read 9223372036854775808 = .number true 0 (-1074) := by kernel_rfl
    rcases Nat.lt_or_eq_of_le ha with g | rfl
    · unfold Ieee.Format.add
      rw [nz, Fl.read_pos_fin g, show Ieee.double.read 0 = .number false 0 (-1074) by kernel_rfl]
      simp [Ieee.Datum.sum, Ieee.signed]
    · exact (show Ieee.double.add 9218868437227405312 9223372036854775808 = Ieee.double.add 9218868437227405312 0 by kernel_rfl)
theorem backR_le (b n m : Nat) (h : Fl.dl m = true) : Fl.backR b n m ≤ 9218868437227405312 := Nat.le_trans (Nat.min_le_right _ _) (Fl.dl_plain h).1

/-- A TIMER: its key, when it is due (a float's bits), how often it was set again, its delays -/
structure Tm where
  k : List UInt8
  a : Nat
  n : Int
  b : Nat
  m : Nat
def tm0 : Tm := ⟨[], 0, 0, 0, 0⟩
structure Tm.ok (t : Tm) : Prop where
  a : t.a ≤ 9218868437227405312
  n0 : 0 ≤ t.n
  n1 : t.n ≤ 1000000
  b : Fl.dl t.b = true
  m : Fl.dl t.m = true
  k : t.k.length ≤ maxLen
structure CkM where
  now : Nat
  ts : List Tm
structure CkOk (c : CkM) : Prop where
  now : c.now ≤ 9218868437227405312
  len : c.ts.length ≤ 64
  nd : c.ts.Pairwise (fun x y => x.k ≠ y.k)
  each : ∀ t ∈ c.ts, t.ok
def CkM.look (c : CkM) (k : List UInt8) : Option Tm := c.ts.find? (fun t => t.k == k)
def CkM.idx (c : CkM) (k : List UInt8) : Nat := c.ts.findIdx (fun t => t.k == k)
def CkM.has (c : CkM) (k : List UInt8) : Bool := (c.look k).isSome
theorem nd_eq {l : List Tm} (h : l.Pairwise (fun x y => x.k ≠ y.k)) {x y : Tm} (hx : x ∈ l) (hy : y ∈ l) (e : x.k = y.k) : x = y := by
  induction l with
  | nil => cases hx
  | cons z l ih =>
    rw [List.pairwise_cons] at h
    rcases List.mem_cons.1 hx with rfl | hx' <;> rcases List.mem_cons.1 hy with rfl | hy'
    · rfl
    · exact absurd e (h.1 y hy')
    · exact absurd e.symm (h.1 x hx')
    · exact ih h.2 hx' hy'
theorem look_some {c : CkM} {k : List UInt8} {t : Tm} (h : c.look k = some t) : t ∈ c.ts ∧ t.k = k :=
  ⟨List.mem_of_find?_eq_some h, by simpa using List.find?_some h⟩
theorem look_none {c : CkM} {k : List UInt8} (h : c.look k = none) : ∀ t ∈ c.ts, t.k ≠ k := fun t ht e => by
  have := List.find?_eq_none.1 h t ht
  simp [e] at this
theorem look_of {c : CkM} (nd : c.ts.Pairwise (fun x y => x.k ≠ y.k)) {t : Tm} (h : t ∈ c.ts) : c.look t.k = some t := by
  cases hl : c.look t.k with
  | none => exact absurd rfl (look_none hl t h)
  | some u =>
    obtain ⟨h1, h2⟩ := look_some hl
    rw [nd_eq nd h1 h h2]
theorem look_is {c : CkM} (nd : c.ts.Pairwise (fun x y => x.k ≠ y.k)) {t : Tm} {k : List UInt8} (h : t ∈ c.ts) (hk : t.k = k) : c.look k = some t := by
  rw [← hk]; exact look_of nd h
theorem has_iff {c : CkM} {k : List UInt8} : c.has k = true ↔ ∃ t ∈ c.ts, t.k = k := by
  unfold CkM.has
  constructor
  · intro h
    obtain ⟨t, ht⟩ := Option.isSome_iff_exists.1 h
    exact ⟨t, (look_some ht).1, (look_some ht).2⟩
  · rintro ⟨t, ht, e⟩
    cases hl : c.look k with
    | none => exact absurd e (look_none hl t ht)
    | some u => rfl
theorem has_none {c : CkM} {k : List UInt8} (h : c.has k = false) : c.look k = none := by
  unfold CkM.has at h
  cases hl : c.look k with
  | none => rfl
  | some u => rw [hl] at h; cases h
theorem idx_lt {c : CkM} {k : List UInt8} : c.idx k < c.ts.length ↔ c.has k = true := by
  unfold CkM.idx
  rw [List.findIdx_lt_length, has_iff]
  constructor
  · rintro ⟨x, h1, h2⟩
    exact ⟨x, h1, by simpa using h2⟩
  · rintro ⟨x, h1, h2⟩
    exact ⟨x, h1, by simpa using h2⟩
theorem idx_le (c : CkM) (k : List UInt8) : c.idx k ≤ c.ts.length := List.findIdx_le_length
theorem idx_key {c : CkM} {k : List UInt8} (h : c.idx k < c.ts.length) : (c.ts[c.idx k]).k = k := by
  have h2 : (c.ts[c.idx k].k == k) = true := List.findIdx_getElem (p := fun t : Tm => t.k == k) (w := h)
  exact eq_of_beq h2
theorem idx_look {c : CkM} {k : List UInt8} (nd : c.ts.Pairwise (fun x y => x.k ≠ y.k)) (h : c.idx k < c.ts.length) : c.look k = some c.ts[c.idx k] := look_is nd (List.getElem_mem h) (idx_key h)
theorem idx_before {c : CkM} {k : List UInt8} {j : Nat} (h : j < c.idx k) (hj : j < c.ts.length) : (c.ts[j]).k ≠ k := by
  have := List.not_of_lt_findIdx h
  simpa using this
theorem idx_of {c : CkM} {k : List UInt8} {j : Nat} (hj : j < c.ts.length) (h1 : ∀ i (hi : i < c.ts.length), i < j → (c.ts[i]).k ≠ k) (h2 : (c.ts[j]).k = k) : c.idx k = j := by
  have hlt : c.idx k < c.ts.length := idx_lt.2 (has_iff.2 ⟨_, List.getElem_mem hj, h2⟩)
  rcases Nat.lt_trichotomy (c.idx k) j with h | h | h
  · exact absurd (idx_key hlt) (h1 _ hlt h)
  · exact h
  · exact absurd h2 (idx_before h hj)
theorem split_at {l : List Tm} {i : Nat} (h : i < l.length) : l = l.take i ++ l[i] :: l.drop (i + 1) := by
  rw [← List.drop_eq_getElem_cons h, List.take_append_drop]
theorem nd_split {l : List Tm} (nd : l.Pairwise (fun x y => x.k ≠ y.k)) {i : Nat} (h : i < l.length) : (∀ x ∈ l.take i, x.k ≠ l[i].k) ∧ (∀ x ∈ l.drop (i + 1), x.k ≠ l[i].k) ∧ (l.take i ++ l.drop (i + 1)).Pairwise (fun x y => x.k ≠ y.k) := by
  rw [split_at h, List.pairwise_append, List.pairwise_cons] at nd
  obtain ⟨n1, ⟨n2, n3⟩, n4⟩ := nd
  refine ⟨fun x hx => n4 x hx _ (List.mem_cons_self ..), fun x hx e => n2 x hx e.symm, ?_⟩
  rw [List.pairwise_append]
  exact ⟨n1, n3, fun x hx y hy => n4 x hx y (List.mem_cons_of_mem _ hy)⟩

def CkM.put (c : CkM) (t : Tm) : CkM := ⟨c.now, if c.idx t.k < c.ts.length then c.ts.set (c.idx t.k) t else c.ts ++ [t]⟩
def CkM.drop (c : CkM) (k : List UInt8) : CkM := ⟨c.now, c.ts.take (c.idx k) ++ c.ts.drop (c.idx k + 1)⟩
theorem mem_put {c : CkM} (nd : c.ts.Pairwise (fun x y => x.k ≠ y.k)) (t x : Tm) : x ∈ (c.put t).ts ↔ x = t ∨ (x ∈ c.ts ∧ x.k ≠ t.k) := by
  unfold CkM.put
  dsimp only
  split
  · rename_i h
    obtain ⟨n1, n2, _⟩ := nd_split nd h
    rw [idx_key h] at n1 n2
    rw [List.set_eq_take_append_cons_drop, if_pos h]
    constructor
    · intro hx
      rcases List.mem_append.1 hx with hx | hx
      · exact .inr ⟨List.mem_of_mem_take hx, n1 x hx⟩
      · rcases List.mem_cons.1 hx with rfl | hx
        · exact .inl rfl
        · exact .inr ⟨List.mem_of_mem_drop hx, n2 x hx⟩
    · rintro (rfl | ⟨hx, hk⟩)
      · simp
      · rw [split_at h] at hx
        rcases List.mem_append.1 hx with hx | hx
        · exact List.mem_append.2 (.inl hx)
        · rcases List.mem_cons.1 hx with rfl | hx
          · exact absurd (idx_key h) hk
          · exact List.mem_append.2 (.inr (List.mem_cons.2 (.inr hx)))
  · rename_i h
    have hn : ∀ y ∈ c.ts, y.k ≠ t.k := fun y hy e => h (idx_lt.2 (has_iff.2 ⟨y, hy, e⟩))
    rw [List.mem_append, List.mem_singleton]
    constructor
    · rintro (hx | rfl)
      · exact .inr ⟨hx, hn x hx⟩
      · exact .inl rfl
    · rintro (rfl | ⟨hx, _⟩)
      · exact .inr rfl
      · exact .inl hx
theorem put_nd {c : CkM} (nd : c.ts.Pairwise (fun x y => x.k ≠ y.k)) (t : Tm) : (c.put t).ts.Pairwise (fun x y => x.k ≠ y.k) := by
  unfold CkM.put
  dsimp only
  split
  · rename_i h
    obtain ⟨n1, n2, n3⟩ := nd_split nd h
    rw [idx_key h] at n1 n2
    rw [List.set_eq_take_append_cons_drop, if_pos h, List.pairwise_append, List.pairwise_cons]
    rw [List.pairwise_append] at n3
    refine ⟨n3.1, ⟨fun x hx e => n2 x hx e.symm, n3.2.1⟩, fun x hx y hy => ?_⟩
    rcases List.mem_cons.1 hy with rfl | hy
    · exact n1 x hx
    · exact n3.2.2 x hx y hy
  · rename_i h
    rw [List.pairwise_append]
    refine ⟨nd, List.pairwise_singleton _ _, fun x hx y hy e => ?_⟩
    rw [List.mem_singleton] at hy
    subst hy
    exact h (idx_lt.2 (has_iff.2 ⟨x, hx, e⟩))
theorem put_len (c : CkM) (t : Tm) : (c.put t).ts.length = if c.has t.k then c.ts.length else c.ts.length + 1 := by
  unfold CkM.put
  dsimp only
  by_cases h : c.idx t.k < c.ts.length
  · rw [if_pos h, if_pos (idx_lt.1 h), List.length_set]
  · rw [if_neg h, if_neg (fun e => h (idx_lt.2 e)), List.length_append, List.length_singleton]
theorem look_put {c : CkM} (nd : c.ts.Pairwise (fun x y => x.k ≠ y.k)) (t : Tm) (k : List UInt8) : (c.put t).look k = if k = t.k then some t else c.look k := by
  by_cases h : k = t.k
  · rw [if_pos h]
    exact look_is (put_nd nd t) ((mem_put nd t t).2 (.inl rfl)) h.symm
  · rw [if_neg h]
    cases hl : c.look k with
    | some u =>
      obtain ⟨h1, h2⟩ := look_some hl
      exact look_is (put_nd nd t) ((mem_put nd t u).2 (.inr ⟨h1, by rw [h2]; exact h⟩)) h2
    | none =>
      cases hl2 : (c.put t).look k with
      | none => rfl
      | some u =>
        obtain ⟨h1, h2⟩ := look_some hl2
        rcases (mem_put nd t u).1 h1 with rfl | ⟨h3, _⟩
        · exact absurd h2.symm h
        · exact absurd h2 (look_none hl u h3)
theorem put_ok {c : CkM} (h : CkOk c) {t : Tm} (ht : t.ok) (hl : c.has t.k = true ∨ c.ts.length ≤ 63) : CkOk (c.put t) where
  now := h.now
  len := by
    rw [put_len]
    have := h.len
    rcases hl with hl | hl
    · rw [if_pos hl]; exact this
    · split <;> omega
  nd := put_nd h.nd t
  each := fun x hx => by
    rcases (mem_put h.nd t x).1 hx with rfl | ⟨hx, _⟩
    · exact ht
    · exact h.each x hx
theorem drop_no {c : CkM} {k : List UInt8} (h : c.has k = false) : c.drop k = c := by
  have hi : ¬ c.idx k < c.ts.length := fun e => by rw [idx_lt, h] at e; cases e
  unfold CkM.drop
  rw [List.take_of_length_le (by omega), List.drop_of_length_le (by omega), List.append_nil]
theorem drop_len {c : CkM} {k : List UInt8} (h : c.has k = true) : (c.drop k).ts.length + 1 = c.ts.length := by
  have hi := idx_lt.2 h
  unfold CkM.drop
  dsimp only
  rw [List.length_append, List.length_take, List.length_drop]
  omega
theorem mem_drop {c : CkM} (nd : c.ts.Pairwise (fun x y => x.k ≠ y.k)) (k : List UInt8) (x : Tm) : x ∈ (c.drop k).ts ↔ x ∈ c.ts ∧ x.k ≠ k := by
  cases hh : c.has k with
  | false =>
    rw [drop_no hh]
    exact ⟨fun hx => ⟨hx, look_none (has_none hh) x hx⟩, fun hx => hx.1⟩
  | true =>
    have h := idx_lt.2 hh
    obtain ⟨n1, n2, _⟩ := nd_split nd h
    rw [idx_key h] at n1 n2
    unfold CkM.drop
    dsimp only
    rw [List.mem_append]
    constructor
    · rintro (hx | hx)
      · exact ⟨List.mem_of_mem_take hx, n1 x hx⟩
      · exact ⟨List.mem_of_mem_drop hx, n2 x hx⟩
    · rintro ⟨hx, hk⟩
      rw [split_at h] at hx
      rcases List.mem_append.1 hx with hx | hx
      · exact .inl hx
      · rcases List.mem_cons.1 hx with rfl | hx
        · exact absurd (idx_key h) hk
        · exact .inr hx
theorem drop_nd {c : CkM} (nd : c.ts.Pairwise (fun x y => x.k ≠ y.k)) (k : List UInt8) : (c.drop k).ts.Pairwise (fun x y => x.k ≠ y.k) := by
  cases hh : c.has k with
  | false => rw [drop_no hh]; exact nd
  | true => exact (nd_split nd (idx_lt.2 hh)).2.2
theorem look_drop {c : CkM} (nd : c.ts.Pairwise (fun x y => x.k ≠ y.k)) (k' k : List UInt8) : (c.drop k').look k = if k = k' then none else c.look k := by
  cases hl2 : (c.drop k').look k with
  | some u =>
    obtain ⟨h1, h2⟩ := look_some hl2
    obtain ⟨h3, h4⟩ := (mem_drop nd k' u).1 h1
    rw [if_neg (fun e => h4 (h2.trans e))]
    exact (look_is nd h3 h2).symm
  | none =>
    by_cases h : k = k'
    · rw [if_pos h]
    · rw [if_neg h]
      cases hl : c.look k with
      | none => rfl
      | some u =>
        obtain ⟨h1, h2⟩ := look_some hl
        exact absurd h2 (look_none hl2 u ((mem_drop nd k' u).2 ⟨h1, by rw [h2]; exact h⟩))
theorem drop_ok {c : CkM} (h : CkOk c) (k : List UInt8) : CkOk (c.drop k) where
  now := h.now
  len := by
    have := h.len
    cases hh : c.has k with
    | false => rw [drop_no hh]; exact this
    | true => have := drop_len hh; omega
  nd := drop_nd h.nd k
  each := fun x hx => h.each x ((mem_drop h.nd k x).1 hx).1

def CkM.tick (c : CkM) (x : Nat) : Int × CkM := if Fl.dl x then (0, ⟨Fl.addR c.now (Fl.plain x), c.ts⟩) else (4, c)
def CkM.setT (c : CkM) (k : List UInt8) (b m : Nat) : Tm := ⟨k, Fl.addR c.now (Fl.backR b 0 m), 0, b, m⟩
def CkM.set (c : CkM) (k : List UInt8) (b m : Nat) : Int × CkM :=
  if Fl.dl b && Fl.dl m then (if !c.has k && decide (63 < c.ts.length) then (6, c) else (0, c.put (c.setT k b m))) else (4, c)
def more (n : Int) : Int := min (n + 1) 1000000
def CkM.againT (c : CkM) (t : Tm) : Tm := ⟨t.k, Fl.addR c.now (Fl.backR t.b (more t.n).toNat t.m), more t.n, t.b, t.m⟩
def CkM.again (c : CkM) (k : List UInt8) : Int × CkM :=
  match c.look k with
  | some t => (0, c.put (c.againT t))
  | none => (8, c)
theorem tick_ok {c : CkM} (h : CkOk c) (x : Nat) : CkOk (c.tick x).2 := by
  unfold CkM.tick
  split
  · rename_i hx
    exact ⟨(add_le h.now (Fl.dl_plain hx).1).2.1, h.len, h.nd, h.each⟩
  · exact h
theorem setT_ok {c : CkM} (h : CkOk c) {k : List UInt8} (hk : k.length ≤ maxLen) {b m : Nat} (hb : Fl.dl b = true) (hm : Fl.dl m = true) : (c.setT k b m).ok where
  a := (add_le h.now (backR_le b 0 m hm)).2.1
  n0 := Int.le_refl _
  n1 := by unfold CkM.setT; dsimp only; omega
  b := hb
  m := hm
  k := hk
theorem set_ok {c : CkM} (h : CkOk c) {k : List UInt8} (hk : k.length ≤ maxLen) (b m : Nat) : CkOk (c.set k b m).2 := by
  unfold CkM.set
  split
  · rename_i hd
    rw [Bool.and_eq_true] at hd
    split
    · exact h
    · rename_i hf
      refine put_ok h (setT_ok h hk hd.1 hd.2) ?_
      show c.has k = true ∨ _
      cases hh : c.has k with
      | true => exact .inl rfl
      | false => rw [hh] at hf; simp at hf; exact .inr hf
  · exact h
theorem more_rng {n : Int} (h0 : 0 ≤ n) : 0 ≤ more n ∧ more n ≤ 1000000 := by unfold more; omega
theorem againT_ok {c : CkM} (h : CkOk c) {t : Tm} (ht : t.ok) : (c.againT t).ok where
  a := (add_le h.now (backR_le t.b _ t.m ht.m)).2.1
  n0 := (more_rng ht.n0).1
  n1 := (more_rng ht.n0).2
  b := ht.b
  m := ht.m
  k := ht.k
theorem again_ok {c : CkM} (h : CkOk c) (k : List UInt8) : CkOk (c.again k).2 := by
  unfold CkM.again
  split
  · rename_i t hl
    obtain ⟨h1, h2⟩ := look_some hl
    exact put_ok h (againT_ok h (h.each t h1)) (.inl (has_iff.2 ⟨t, h1, rfl⟩))
  · exact h
def ckNew : CkM := ⟨0, []⟩
theorem ckNew_ok : CkOk ckNew := ⟨Nat.zero_le _, Nat.zero_le _, List.Pairwise.nil, fun t h => by cases h⟩
/-- a key's timer, or nothing's -/
def CkM.getT (c : CkM) (k : List UInt8) : Tm := (c.look k).getD tm0
def CkM.atK (c : CkM) (k : List UInt8) : Nat := (c.getT k).a
theorem getT_some {c : CkM} {k : List UInt8} {t : Tm} (h : c.look k = some t) : c.getT k = t := by unfold CkM.getT; rw [h]; rfl
theorem getT_none {c : CkM} {k : List UInt8} (h : c.look k = none) : c.getT k = tm0 := by unfold CkM.getT; rw [h]; rfl
theorem atK_le {c : CkM} (h : CkOk c) (k : List UInt8) : c.atK k ≤ 9218868437227405312 := by
  unfold CkM.atK
  cases hl : c.look k with
  | some t => rw [getT_some hl]; exact (h.each t (look_some hl).1).a
  | none => rw [getT_none hl]; exact Nat.zero_le _
theorem atK_of {c : CkM} (nd : c.ts.Pairwise (fun x y => x.k ≠ y.k)) {t : Tm} (h : t ∈ c.ts) : c.atK t.k = t.a := by
  unfold CkM.atK; rw [getT_some (look_of nd h)]

def NextIs (c : CkM) (m : Nat) : Prop := (∃ t ∈ c.ts, t.a = m) ∧ ∀ t ∈ c.ts, m ≤ t.a
theorem next_one {c : CkM} {m m' : Nat} (h : NextIs c m) (h' : NextIs c m') : m = m' := by
  obtain ⟨⟨t, h1, rfl⟩, h2⟩ := h
  obtain ⟨⟨u, h3, rfl⟩, h4⟩ := h'
  exact Nat.le_antisymm (h2 u h3) (h4 t h1)

def leK (c : CkM) (x y : List UInt8) : Prop := c.atK x < c.atK y ∨ (c.atK x = c.atK y ∧ x ≤ y)
def CkM.dueT (c : CkM) : List Tm := c.ts.filter (fun t => decide (t.a ≤ c.now))
def DueIs (c : CkM) (l : List (List UInt8)) : Prop := l.Perm (c.dueT.map Tm.k) ∧ l.Pairwise (leK c)
theorem leK_antisymm {c : CkM} {x y : List UInt8} (h : leK c x y) (g : leK c y x) : x = y := by
  unfold leK at h g
  rcases h with h | ⟨_, h⟩ <;> rcases g with g | ⟨_, g⟩
  · omega
  · omega
  · omega
  · exact List.le_antisymm h g
theorem due_one {c : CkM} {l l' : List (List UInt8)} (h : DueIs c l) (h' : DueIs c l') : l = l' :=
  List.Perm.eq_of_pairwise (fun _ _ _ _ h1 h2 => leK_antisymm h1 h2) h.2 h'.2 (h.1.trans h'.1.symm)
theorem due_mem {c : CkM} {l : List (List UInt8)} (h : DueIs c l) (k : List UInt8) : k ∈ l ↔ ∃ t ∈ c.ts, t.k = k ∧ t.a ≤ c.now := by
  rw [h.1.mem_iff, List.mem_map]
  unfold CkM.dueT
  constructor
  · rintro ⟨t, ht, rfl⟩
    rw [List.mem_filter] at ht
    exact ⟨t, ht.1, rfl, by simpa using ht.2⟩
  · rintro ⟨t, ht, rfl, hn⟩
    exact ⟨t, List.mem_filter.2 ⟨ht, by simpa using hn⟩, rfl⟩
theorem dueT_nd {c : CkM} (nd : c.ts.Pairwise (fun x y => x.k ≠ y.k)) : (c.dueT.map Tm.k).Nodup :=
  List.pairwise_map.2 (List.Pairwise.filter _ nd)
theorem due_nd {c : CkM} (nd : c.ts.Pairwise (fun x y => x.k ≠ y.k)) {l : List (List UInt8)} (h : DueIs c l) : l.Nodup := h.1.nodup_iff.2 (dueT_nd nd)
theorem due_len {c : CkM} (h0 : CkOk c) {l : List (List UInt8)} (h : DueIs c l) : l.length ≤ 64 := by
  rw [h.1.length_eq, List.length_map]
  exact Nat.le_trans (List.length_filter_le _ _) h0.len
theorem due_keys {c : CkM} (h0 : CkOk c) {l : List (List UInt8)} (h : DueIs c l) : ∀ k ∈ l, k.length ≤ maxLen := fun k hk => by
  obtain ⟨t, ht, rfl, _⟩ := (due_mem h k).1 hk
  exact (h0.each t ht).k
/-- timers in their order -/
def leT (x y : Tm) : Prop := x.a < y.a ∨ (x.a = y.a ∧ x.k ≤ y.k)
theorem due_of {c : CkM} (nd : c.ts.Pairwise (fun x y => x.k ≠ y.k)) {l : List Tm} (hp : l.Perm c.dueT) (hs : l.Pairwise leT) : DueIs c (l.map Tm.k) := by
  refine ⟨hp.map _, List.pairwise_map.2 (hs.imp_of_mem fun {x y} hx hy h => ?_)⟩
  have hx' : x ∈ c.ts := (List.mem_filter.1 (hp.mem_iff.1 hx)).1
  have hy' : y ∈ c.ts := (List.mem_filter.1 (hp.mem_iff.1 hy)).1
  unfold leK
  rw [atK_of nd hx', atK_of nd hy']
  exact h
theorem leT_trans {x y z : Tm} (h : leT x y) (g : leT y z) : leT x z := by
  unfold leT at *
  rcases h with h | ⟨h, h'⟩ <;> rcases g with g | ⟨g, g'⟩
  · exact .inl (by omega)
  · exact .inl (by omega)
  · exact .inl (by omega)
  · exact .inr ⟨by omega, List.le_trans h' g'⟩
/-- the doc's test: is t ahead of u? -/
def ltT (t u : Tm) : Bool := decide (t.a < u.a) || (decide (t.a = u.a) && decide (t.k < u.k))
theorem leT_of_lt {t u : Tm} (h : ltT t u = true) : leT t u := by
  unfold ltT at h
  rw [Bool.or_eq_true, Bool.and_eq_true] at h
  rcases h with h | ⟨h, h'⟩
  · exact .inl (of_decide_eq_true h)
  · exact .inr ⟨of_decide_eq_true h, List.le_of_lt (of_decide_eq_true h')⟩
theorem leT_of_not {t u : Tm} (h : ltT t u = false) : leT u t := by
  unfold ltT at h
  rw [Bool.or_eq_false_iff, Bool.and_eq_false_iff] at h
  obtain ⟨h1, h2⟩ := h
  have h1 := of_decide_eq_false h1
  by_cases e : t.a = u.a
  · rcases h2 with h2 | h2
    · exact absurd e (of_decide_eq_false h2)
    · exact .inr ⟨e.symm, List.not_lt.1 (of_decide_eq_false h2)⟩
  · exact .inl (by omega)
/-- one timer set into its place -/
theorem ins_sorted {l : List Tm} {t : Tm} {j : Nat} (hs : l.Pairwise leT) (hj : j ≤ l.length) (h1 : ∀ x ∈ l.drop j, ltT t x = true) (h2 : 0 < j → ∃ x, l[j - 1]? = some x ∧ ltT t x = false) : (l.take j ++ t :: l.drop j).Pairwise leT := by
  have hs' := hs
  rw [← List.take_append_drop j l, List.pairwise_append] at hs'
  obtain ⟨s1, s2, s3⟩ := hs'
  rw [List.pairwise_append, List.pairwise_cons]
  refine ⟨s1, ⟨fun x hx => leT_of_lt (h1 x hx), s2⟩, fun x hx y hy => ?_⟩
  rcases List.mem_cons.1 hy with rfl | hy
  · have hj0 : 0 < j := by
      rcases Nat.eq_zero_or_pos j with rfl | h
      · simp at hx
      · exact h
    obtain ⟨z, hz, hlt⟩ := h2 hj0
    obtain ⟨hz1, hz2⟩ := List.getElem?_eq_some_iff.1 hz
    obtain ⟨i, hi, hix⟩ := List.getElem_of_mem hx
    rw [List.length_take] at hi
    rw [List.getElem_take] at hix
    have hle : leT x z := by
      rw [← hix, ← hz2]
      rcases Nat.lt_or_eq_of_le (show i ≤ j - 1 by omega) with g | g
      · exact List.pairwise_iff_getElem.1 hs i (j - 1) (by omega) hz1 g
      · subst g
        exact .inr ⟨rfl, List.le_refl _⟩
    exact leT_trans hle (leT_of_not hlt)
  · exact s3 x hx y hy
end Go.Proofs.YtanbeaebdingeaaDoor
