/- Parts of this proof (own work). -/
import Derived.Test.YtncoofnhifcnhaaGreatDoorZt02
import Derived.Lib.SliceRun
import Derived.Deep.SlicePairs
import Derived.Lib.SlBytesRow
set_option maxRecDepth 100000
set_option maxHeartbeats 40000000
namespace Go.Proofs.YtncoofnhifcnhaaGreatDoor
open Go.RowKit
theorem okF_of {f : FX} (h : rightF f = true) : okF f = true := by
 unfold rightF at h; simp only [Bool.and_eq_true] at h
 exact h.2.1
theorem inv_open {f : FX} (h : rightF f = true) (hk : f.k = 1) : rightX (ctxF f) = true ∧ 0 ≤ f.a ∧ f.a ≤ 8 := by
 have := okF_of h; unfold okF at this; rw [if_pos hk] at this
 simpa using this
theorem inv_enr {f : FX} (h : rightF f = true) (hk : f.k = 2) : rightA f.n f.s = true ∧ (0 ≤ f.r ∧ f.r ≤ 5) ∧ (0 ≤ f.e ∧ f.e ≤ 3) ∧ (0 ≤ f.p ∧ f.p ≤ 7) ∧ (f.q = 1 ∨ f.q = 2) := by
 have := okF_of h; unfold okF at this; rw [if_neg (by omega), if_pos hk] at this
 simp at this
 refine ⟨this.1, ?_⟩
 have := this.2; omega
theorem inv_dec {f : FX} (h : rightF f = true) (hk : f.k = 4) : f.c = 1 ∨ f.c = 2 := by
 have := okF_of h; unfold okF at this; rw [if_neg (by omega), if_neg (by omega), if_neg (by omega), if_pos hk] at this
 simp at this
 exact this.2
theorem inv_joi {f : FX} (h : rightF f = true) (hk : f.k = 6) : rightA f.n f.s = true ∧ (0 ≤ f.p ∧ f.p ≤ 7) ∧ (f.q = 1 ∨ f.q = 2) := by
 have := okF_of h; unfold okF at this; rw [if_neg (by omega), if_neg (by omega), if_neg (by omega), if_neg (by omega), if_neg (by omega), if_pos hk] at this
 simp at this
 refine ⟨this.1, ?_⟩
 have := this.2; omega
theorem inv_pla {f : FX} (h : rightF f = true) (hk : f.k = 7) : 0 ≤ f.r ∧ f.r ≤ 5 := by
 have := okF_of h; unfold okF at this; rw [if_neg (by omega), if_neg (by omega), if_neg (by omega), if_neg (by omega), if_neg (by omega), if_neg (by omega), if_pos hk] at this
 simp at this
 omega
theorem okz_new {q e : Int} (hq : q = 1 ∨ q = 2) (he : e = 1 ∨ e = 2) : OkZ ⟨q, e, 1, 0⟩ e := by
 refine ⟨?_, rfl⟩
 rcases hq with rfl | rfl <;> rcases he with rfl | rfl <;> decide
theorem turnS_ok {z z2 : SeatM} {e t h : Int} (hz : OkZ z e) (hs : turnS z t h = some z2) : OkZ z2 e := by
 unfold turnS at hs
 split at hs
 ·next q => obtain rfl := Option.some.inj hs; exact ⟨q.2, hz.2⟩
 ·cases hs
theorem seqS_app : ∀ (l : List AcM) (nx : Int) (a : AcM), seqS nx l → nextS nx l ≤ a.c.s → seqS nx (l ++ [a])
 | [], _, _, _, h => ⟨h, trivial⟩
 | _ :: l, _, a, h, h2 => ⟨h.1, seqS_app l _ a h.2 h2⟩
theorem seqS_set : ∀ (l : List AcM) (nx : Int) (i : Nat) (a b : AcM), l[i]? = some a → b.c = a.c → seqS nx l → seqS nx (l.set i b)
 | [], _, _, _, _, h, _, _ => by simp at h
 | x :: l, nx, 0, a, b, h, hc, hs => by
  obtain rfl : x = a := by simpa using h
  show nx ≤ b.c.s ∧ seqS (b.c.s + 1) l
  rw [hc]; exact hs
 | x :: l, nx, i + 1, a, b, h, hc, hs => ⟨hs.1, seqS_set l _ i a b (by simpa using h) hc hs.2⟩
theorem seqS_mono : ∀ (l : List AcM) (nx ny : Int), ny ≤ nx → seqS nx l → seqS ny l
 | [], _, _, _, _ => trivial
 | _ :: _, _, _, h, hs => ⟨Int.le_trans h hs.1, hs.2⟩
theorem seqS_erase : ∀ (l : List AcM) (nx : Int) (i : Nat), seqS nx l → seqS nx (l.eraseIdx i)
 | [], _, _, _ => trivial
 | x :: l, nx, 0, hs => by
  have h1 := hs.1; exact seqS_mono l _ nx (by omega) hs.2
 | x :: l, nx, i + 1, hs => ⟨hs.1, seqS_erase l _ i hs.2⟩
theorem lastS_mem {l : List AcM} (h : l ≠ []) : ∃ x ∈ l, lastS l = x.c.s := by
 refine ⟨l.getLast h, List.getLast_mem h, ?_⟩
 unfold lastS; rw [List.getLast?_eq_some_getLast h]
 rfl
theorem lastS_set {l : List AcM} {i : Nat} {a b : AcM} (h : l[i]? = some a) (hc : b.c = a.c) : lastS (l.set i b) = lastS l := by
 unfold lastS; have h2 : ∀ j : Nat, (l.set i b)[j]?.map (fun x : AcM => x.c.s) = l[j]?.map (fun x : AcM => x.c.s) := fun j => by
  by_cases q : i = j
  ·subst q; have hi := (List.getElem?_eq_some_iff.1 h).1; rw [List.getElem?_set_self hi, h]
   simp [hc]
  ·rw [List.getElem?_set_ne q]
 rw [List.getLast?_eq_getElem?, List.getLast?_eq_getElem?, List.length_set, h2]
theorem OkS.lt {m : StM} (h : OkS m) : ∀ x ∈ m.acts, x.c.s < m.next := fun x hx => by
 have h1 := seqS_lt m.acts 0 h.seq x hx; have h2 := h.nx; rw [nextS_last] at h1
 split at h1
 ·next q => rw [q] at hx; cases hx
 ·omega
theorem mem_set {α : Type} {l : List α} {i : Nat} {a x : α} (h : x ∈ l.set i a) : x ∈ l ∨ x = a := by
 rcases List.mem_or_eq_of_mem_set h with q | q
 ·exact .inl q
 ·exact .inr q
theorem OkS.setA {m : StM} (h : OkS m) {i : Nat} {a b : AcM} (ha : m.acts[i]? = some a) (hc : b.c = a.c) (hp : b.par = a.par) (hb : OkA m.node b) : OkS { m with acts := m.acts.set i b } where
 n := h.n
 a := fun x hx => by
  rcases mem_set hx with q | rfl
  ·exact h.a x q
  ·exact hb
 par := fun x hx => by
  rcases mem_set hx with q | rfl
  ·exact h.par x q
  ·rw [hp]; exact h.par a (List.mem_of_getElem? ha)
 seq := seqS_set _ _ _ _ _ ha hc h.seq
 dis := by
  have h1 : (m.acts.set i b).map (·.par) = m.acts.map (·.par) := by
   refine List.ext_getElem? fun j => ?_
   rw [List.getElem?_map, List.getElem?_map]
   by_cases q : i = j
   ·subst q; rw [List.getElem?_set_self (List.getElem?_eq_some_iff.1 ha).1, ha]
    simp [hp]
   ·rw [List.getElem?_set_ne q]
  have h2 : (m.acts.map (·.par)).Pairwise (fun x y => y ≠ 0 → x ≠ y) := List.pairwise_map.2 h.dis; rw [← h1] at h2; exact List.pairwise_map.1 h2
 l8 := by rw [List.length_set]; exact h.l8
 p := h.p
 p8 := h.p8
 nx := by rw [lastS_set ha hc]; exact h.nx
 last := by rw [lastS_set ha hc, List.length_set]; exact h.last
theorem OkS.setP {m : StM} (h : OkS m) {P : List PaM} (hl : m.parts.length ≤ P.length) (h8 : P.length ≤ 8) (hp : ∀ x ∈ P, OkP x) : OkS { m with parts := P } where
 n := h.n
 a := h.a
 par := fun x hx => by have := h.par x hx; show x.par ≤ (P.length : Int); omega
 seq := h.seq
 dis := h.dis
 l8 := h.l8
 p := hp
 p8 := h8
 nx := h.nx
 last := h.last
theorem child_ne {A : List AcM} {p : Int} (hp : 0 < p) (h : (childS A (p - 1)).isSome = false) : ∀ x ∈ A, x.par ≠ p := fun x hx q => by
 unfold childS at h; rw [if_neg (by omega)] at h; have h2 : List.findIdx? (fun a : AcM => decide (a.par = p - 1 + 1)) A = none := by
  cases hc : List.findIdx? (fun a : AcM => decide (a.par = p - 1 + 1)) A with
  | none => rfl
  | some _ => rw [hc] at h; cases h
 have := List.findIdx?_eq_none_iff.1 h2 x hx; simp only [decide_eq_false_iff_not] at this
 omega
theorem lastS_app (l : List AcM) (a : AcM) : lastS (l ++ [a]) = a.c.s := by simp [lastS]
theorem keep_open {m m2 : StM} {f : FX} (h : OkS m) (hr : rightF f = true) (hk : f.k = 1) (hd : doS m f = some m2) : OkS m2 := by
 unfold doS at hd; rw [if_pos hk] at hd
 split at hd
 ·cases hd
 ·next q =>
  obtain rfl := Option.some.inj hd; simp only [not_or, not_and, Classical.not_not] at q
  obtain ⟨q1, q2, q3, q4⟩ := q; obtain ⟨r1, r2, r3⟩ := inv_open hr hk; have hlt := h.lt; exact {
   n := h.n
   a := fun x hx => by
    rcases List.mem_append.1 hx with hx | hx
    ·exact h.a x hx
    ·obtain rfl := List.mem_singleton.1 hx; exact ⟨q1, r1, r2, r3, by simp, fun g hg => (by cases hg), List.Pairwise.nil, .inl rfl⟩
   par := fun x hx => by
    rcases List.mem_append.1 hx with hx | hx
    ·exact h.par x hx
    ·obtain rfl := List.mem_singleton.1 hx
     show f.a ≤ (m.parts.length : Int)
     rcases Int.lt_or_le 0 f.a with p | p
     ·have := (q4 p).1; omega
     ·omega
   seq := seqS_app _ _ _ h.seq (by
    have h1 := h.nx; rw [nextS_last]
    show _ ≤ f.s
    split
    ·next q => rw [q] at h1; simp [lastS] at h1; omega
    ·omega)
   dis := List.pairwise_append.2 ⟨h.dis, List.pairwise_singleton _ _, fun x hx y hy hy0 => by
    obtain rfl := List.mem_singleton.1 hy; have hy1 : f.a ≠ 0 := hy0; have hp : 0 < f.a := by omega
    exact child_ne hp (by simpa using (q4 hp).2) x hx⟩
   l8 := by simp; omega
   p := h.p
   p8 := h.p8
   nx := by rw [lastS_app]; exact Int.le_refl _
   last := .inl (by rw [lastS_app]; show f.s = f.s + 1 - 1; omega) }
theorem keep_join {m m2 : StM} {f : FX} (h : OkS m) (hr : rightF f = true) (hk : f.k = 6) (hd : doS m f = some m2) : OkS m2 := by
 unfold doS at hd; rw [if_neg (by omega), if_pos hk] at hd
 split at hd
 ·cases hd
 ·next q =>
  obtain rfl := Option.some.inj hd; obtain ⟨r1, r2, r3⟩ := inv_joi hr hk; have q2 : f.p = m.parts.length := by omega
  refine h.setP (by simp) (by simp; omega) fun x hx => ?_
  rcases List.mem_append.1 hx with hx | hx
  ·exact h.p x hx
  ·obtain rfl := List.mem_singleton.1 hx; exact ⟨r1, show (-1 : Int) ≤ -1 by decide, show (-1 : Int) ≤ 5 by decide, okz_new r3 (.inr rfl)⟩
theorem keep_place {m m2 : StM} {f : FX} (h : OkS m) (hr : rightF f = true) (hk : f.k = 7) (hd : doS m f = some m2) : OkS m2 := by
 unfold doS at hd; rw [if_neg (by omega), if_neg (by omega), if_pos hk] at hd
 split at hd
 ·cases hd
 ·next x hx =>
  split at hd
  ·cases hd
  ·obtain rfl := Option.some.inj hd; obtain ⟨r1, r2⟩ := inv_pla hr hk; have ho := h.p x (List.mem_of_getElem? hx); refine h.setP (by simp) (by have := h.p8; simp; omega) fun y hy => ?_
   rcases mem_set hy with q | rfl
   ·exact h.p y q
   ·exact ⟨ho.1, by show -1 ≤ f.r; omega, r2, ho.2.2.2⟩
theorem keep_turn {m m2 : StM} {f : FX} (h : OkS m) (hk : f.k = 8) (hd : doS m f = some m2) : OkS m2 := by
 unfold doS at hd; rw [if_neg (by omega), if_neg (by omega), if_neg (by omega), if_pos hk] at hd
 split at hd
 ·cases hd
 ·next x hx =>
  obtain ⟨z, hz, rfl⟩ := Option.map_eq_some_iff.1 hd; have ho := h.p x (List.mem_of_getElem? hx); refine h.setP (by simp) (by have := h.p8; simp; omega) fun y hy => ?_
  rcases mem_set hy with q | rfl
  ·exact h.p y q
  ·exact ⟨ho.1, ho.2.1, ho.2.2.1, turnS_ok ho.2.2.2 hz⟩
theorem keep_act {m m2 : StM} {f : FX} {i : Nat} {a : AcM} (h : OkS m) (hr : rightF f = true) (ha : m.acts[i]? = some a) (hd : actS m i a f = some m2) : OkS m2 := by
 have oa := h.a a (List.mem_of_getElem? ha); unfold actS at hd
 split at hd
 ·next k2 =>
  split at hd
  ·cases hd
  ·next q =>
   obtain rfl := Option.some.inj hd; simp only [not_or, Classical.not_not] at q
   obtain ⟨q1, q2, q3⟩ := q; obtain ⟨r1, r2, r3, r4, r5⟩ := inv_enr hr k2; refine h.setA (b := { a with regs := a.regs ++ [⟨f.e, f.p, ⟨f.q, 1, 1, 0⟩⟩] }) ha rfl rfl ⟨oa.n, oa.c, oa.p0, oa.p8, ?_, ?_, ?_, ?_⟩
   ·show (a.regs ++ [_]).length ≤ 6
    rw [List.length_append, List.length_singleton]; omega
   ·intro g hg
    rcases List.mem_append.1 hg with hg | hg
    ·exact oa.g g hg
    ·obtain rfl := List.mem_singleton.1 hg; exact ⟨r3.1, r3.2, r4.1, r4.2, okz_new r5 (.inl rfl)⟩
   ·refine List.pairwise_append.2 ⟨oa.d, List.pairwise_singleton _ _, fun x hx y hy => ?_⟩
    obtain rfl := List.mem_singleton.1 hy; have q4 := List.any_eq_false.1 (Bool.eq_false_iff.2 q3) x hx
    simpa using q4
   ·exact .inl q2
 split at hd
 ·split at hd
  ·cases hd
  ·next g hg =>
   obtain ⟨z, hz, rfl⟩ := Option.map_eq_some_iff.1 hd; have og := oa.g g (List.mem_of_getElem? hg); refine h.setA (b := { a with regs := a.regs.set f.r.toNat { g with z := z } }) ha rfl rfl ⟨oa.n, oa.c, oa.p0, oa.p8, ?_, ?_, ?_, oa.e⟩
   ·show (a.regs.set _ _).length ≤ 6
    rw [List.length_set]; exact oa.l
   ·intro y hy
    rcases mem_set hy with q | rfl
    ·exact oa.g y q
    ·exact ⟨og.1, og.2.1, og.2.2.1, og.2.2.2.1, turnS_ok og.2.2.2.2 hz⟩
   ·have h1 : (a.regs.set f.r.toNat { g with z := z }).map (fun g => (g.node, g.part)) = a.regs.map (fun g => (g.node, g.part)) := by
     refine List.ext_getElem? fun j => ?_
     rw [List.getElem?_map, List.getElem?_map]
     by_cases q : f.r.toNat = j
     ·subst q; rw [List.getElem?_set_self (List.getElem?_eq_some_iff.1 hg).1, hg]
      rfl
     ·rw [List.getElem?_set_ne q]
    have h2 : (a.regs.map (fun g : RgM => (g.node, g.part))).Pairwise (fun x y => ¬ (x.1 = y.1 ∧ x.2 = y.2)) := List.pairwise_map.2 oa.d; rw [← h1] at h2; exact List.pairwise_map.1 h2
 split at hd
 ·next k4 =>
  split at hd
  ·cases hd
  ·next q =>
   obtain rfl := Option.some.inj hd; simp only [not_or, Classical.not_not] at q
   exact h.setA (b := { a with dec := f.c }) ha rfl rfl ⟨oa.n, oa.c, oa.p0, oa.p8, oa.l, oa.g, oa.d, .inr ⟨inv_dec hr k4, q.1⟩⟩
 split at hd
 ·split at hd
  ·cases hd
  ·obtain rfl := Option.some.inj hd; have hi := (List.getElem?_eq_some_iff.1 ha).1; have hne : m.acts ≠ [] := fun q => by rw [q] at hi; simp at hi
   have hlt := h.lt; have h7 : (m.acts.eraseIdx i).length ≤ 7 := by rw [List.length_eraseIdx_of_lt hi]; have := h.l8; omega
   exact {
    n := h.n
    a := fun x hx => h.a x (List.mem_of_mem_eraseIdx hx)
    par := fun x hx => h.par x (List.mem_of_mem_eraseIdx hx)
    seq := seqS_erase _ _ _ h.seq
    dis := h.dis.sublist (List.eraseIdx_sublist _ _)
    l8 := by show (m.acts.eraseIdx i).length ≤ 8; omega
    p := h.p
    p8 := h.p8
    nx := by
     show lastS (m.acts.eraseIdx i) + 1 ≤ m.next
     by_cases q : m.acts.eraseIdx i = []
     ·rw [q]; have h1 := seqS_lt.seqS_le m.acts 0 h.seq; have h2 := h.nx; rw [nextS_last, if_neg hne] at h1
      show (-1 : Int) + 1 ≤ m.next
      omega
     ·obtain ⟨x, hx, hl⟩ := lastS_mem q; have := hlt x (List.mem_of_mem_eraseIdx hx); omega
    last := .inr ⟨h7, by
     rcases h.last with q | ⟨_, q⟩
     ·obtain ⟨x, hx, hl⟩ := lastS_mem hne; have ox := h.a x hx; have := rightX_act ox.c; rw [ox.n] at this; rw [← q, hl]; exact this
     ·exact q⟩ }
 ·obtain rfl := Option.some.inj hd; exact h
theorem keepS {m m2 : StM} {f : FX} (h : OkS m) (hr : rightF f = true) (hd : doS m f = some m2) : OkS m2 := by
 by_cases k1 : f.k = 1
 ·exact keep_open h hr k1 hd
 by_cases k6 : f.k = 6
 ·exact keep_join h hr k6 hd
 by_cases k7 : f.k = 7
 ·exact keep_place h hr k7 hd
 by_cases k8 : f.k = 8
 ·exact keep_turn h k8 hd
 unfold doS at hd; rw [if_neg k1, if_neg k6, if_neg k7, if_neg k8] at hd
 split at hd
 ·cases hd
 ·next i _ =>
  split at hd
  ·cases hd
  ·next a ha => exact keep_act h hr ha hd
theorem newSt_ok {n : Int} (h : 0 ≤ n ∧ n ≤ 3) : OkS (newSt n) where
 n := h
 a := fun _ hx => by cases hx
 par := fun _ hx => by cases hx
 seq := trivial
 dis := List.Pairwise.nil
 l8 := by show 0 ≤ 8; decide
 p := fun _ hx => by cases hx
 p8 := by show 0 ≤ 8; decide
 nx := by show (-1 : Int) + 1 ≤ 0; decide
 last := .inl rfl
theorem fS {l : List AcM} {n s : Int} {i : Nat} (h : findS l n s = some i) : ∃ a, l[i]? = some a ∧ a.c.n = n ∧ a.c.s = s := by
 unfold findS at h; obtain ⟨hi, h2, _⟩ := List.findIdx?_eq_some_iff_getElem.1 h; exact ⟨l[i], List.getElem?_eq_getElem hi, by simpa using h2⟩
theorem seqS_ge : ∀ (l : List AcM) (nx : Int), seqS nx l → ∀ x ∈ l, nx ≤ x.c.s
 | a :: l, nx, h, x, hx => by
  rcases List.mem_cons.1 hx with rfl | hx
  ·exact h.1
  ·have := seqS_ge l _ h.2 x hx; have := h.1; omega
theorem seqS_gone : ∀ (l : List AcM) (nx : Int) (i : Nat) (a : AcM), seqS nx l → l[i]? = some a → ∀ x ∈ l.eraseIdx i, x.c.s ≠ a.c.s
 | [], _, _, _, _, h, _, _ => by simp at h
 | y :: l, nx, 0, a, hs, h, x, hx => by
  obtain rfl : y = a := by simpa using h
  have := seqS_ge l _ hs.2 x hx; omega
 | y :: l, nx, i + 1, a, hs, h, x, hx => by
  have ha : l[i]? = some a := by simpa using h
  rcases List.mem_cons.1 hx with rfl | hx
  ·have := seqS_ge l _ hs.2 a (List.mem_of_getElem? ha); omega
  ·exact seqS_gone l _ i a hs.2 ha x hx
theorem kind_of {f : FX} (h : rightF f = true) : 1 ≤ f.k ∧ f.k ≤ 8 := by
 have := okF_of h; unfold okF at this
 repeat' split at this
 all_goals first | omega | cases this
structure MM where
 k : Int
 f : Int
 t : Int
 n : Int
 s : Int
 r : Int
 p : Int
 o : Int
 c : Int
deriving DecidableEq
def MM.cells (m : MM) : Array Value := #[.int .i64 m.k, .int .i64 m.f, .int .i64 m.t, .int .i64 m.n, .int .i64 m.s, .int .i64 m.r, .int .i64 m.p, .int .i64 m.o, .int .i64 m.c]
def downM (k : Int) : Bool := decide (k = 2 ∨ 9 ≤ k ∧ k ≤ 14)
def answerM (m : MM) (k c : Int) : MM := ⟨k, m.t, m.f, m.n, m.s, m.r, m.p, 0, c⟩
structure RsM where
 (facts : List FX) (send : List MM) (work : Int)
def rs0 : RsM := ⟨[], [], 0⟩
def msgP (nd : Int) (x : PaM) (part reg k : Int) : MM := ⟨k, nd, x.n, x.n, x.s, reg, part, 0, 0⟩
def regiP (nd : Int) (x : PaM) (part : Int) : MM := ⟨17, nd, x.n, x.n, x.s, 0, part, x.z.p, 0⟩
def fxPlaced (part reg : Int) : FX := ⟨7, 0, 0, reg, 0, part, 0, 0, 0, 0, 0, 0, 0, 0⟩
def fxTurned (part t h : Int) : FX := ⟨8, 0, 0, 0, 0, part, 0, 0, 0, 0, t, h, 0, 0⟩
def prtP (m : StM) (i : Int) : Option PaM := if 0 ≤ i then m.parts[i.toNat]? else none
def joinP (m : StM) (c : CX) (p : Int) (now : Nat) : Int × RsM :=
 if rightX c = false ∨ ¬ (p = 1 ∨ p = 2) then (4, rs0) else if openX c now = false then (12, rs0) else if 7 < m.parts.length then (6, rs0)
 else (0, ⟨[⟨6, c.n, c.s, 0, 0, m.parts.length, p, 0, 0, 0, 0, 0, 0, 0⟩], [⟨17, m.node, c.n, c.n, c.s, 0, m.parts.length, p, 0⟩], 0⟩)
def doP (m : StM) (part k : Int) : Int × RsM :=
 match prtP m part with
 | none => (8, rs0)
 | some x => if x.reg < 0 then (9, rs0) else if (x.z.act k).1 ≠ 0 then ((x.z.act k).1, rs0)
  else (0, ⟨[fxTurned part (x.z.act k).2.z.s (x.z.act k).2.z.h], [msgP m.node x part x.reg k], (x.z.act k).2.work⟩)
def againP (m : StM) (part : Int) : Option MM :=
 match prtP m part with
 | none => none
 | some x => if x.reg < 0 then (if x.z.s ≠ 1 then none else some (regiP m.node x part)) else if waitT 2 x.z.s = 0 then none else some (msgP m.node x part x.reg (waitT 2 x.z.s))
def askedP (g : MM) : Bool := downM g.k || (decide (g.k = 18) || (decide (g.k = 16) || (decide (g.k = 19) || (decide (g.k = 15) && decide (g.t ≠ g.n)))))
def fitsP (m : StM) (g : MM) : Option PaM :=
 match prtP m g.p with
 | none => none
 | some x => if x.n = g.n ∧ x.s = g.s ∧ g.f = g.n ∧ g.t = m.node ∧ (x.reg < 0 ∨ x.reg = g.r) then some x else none
def placeP (x : PaM) (g : MM) : List FX := if x.reg < 0 then [fxPlaced g.p g.r] else []
def seatP (nd : Int) (x : PaM) (g : MM) (y : EffM) : RsM :=
 ⟨placeP x g ++ (if y.changed = true then [fxTurned g.p y.z.s y.z.h] else []), (if y.send ≠ 0 then [msgP nd x g.p g.r y.send] else []) ++ (if y.fault ≠ 0 then [answerM g 19 y.fault] else []), y.work⟩
def tellP (m : StM) (g : MM) : RsM :=
 if g.k = 18 then (match fitsP m g with
  | some x => ⟨placeP x g, [], 0⟩
  | none => rs0)
 else if g.k = 19 then (match fitsP m g with
  | some x => if x.reg < 0 ∧ x.z.s = 1 ∧ (g.c = 2 ∨ g.c = 4 ∨ g.c = 5) then ⟨[fxTurned g.p 14 1], [], 0⟩ else rs0
  | none => rs0)
 else if g.k = 15 then (match fitsP m g with
  | some x => ⟨[], [answerM g 16 x.z.s], 0⟩
  | none => ⟨[], [answerM g 19 3], 0⟩)
 else if downM g.k = false then rs0
 else match fitsP m g with
  | none => ⟨[], [answerM g 19 3], 0⟩
  | some x => if (x.z.tell g.k).1 ≠ 0 then ⟨placeP x g, [], 0⟩ else seatP m.node x g (x.z.tell g.k).2
def seatsL : List SeatM := [1, 2].flatMap fun p => [1, 2, 3, 4, 5, 6, 7, 8, 9, 10, 11, 12, 13, 14].flatMap fun s => [0, 1, 2, 3, 4, 5, 6, 7, 8].map fun h => (⟨p, 2, s, h⟩ : SeatM)
def kindsL : List Int := [1, 2, 3, 4, 5, 6, 7, 8, 9, 10, 11, 12, 13, 14]
theorem seats_in {z : SeatM} (h : z.right = true) (he : z.e = 2) : z ∈ seatsL := by
 obtain ⟨p, e, s, hh⟩ := z; dsimp only at he; subst he; unfold SeatM.right at h; simp only [Bool.and_eq_true] at h
 obtain ⟨⟨h1, h2⟩, h3⟩ := h; have hp : p = 1 ∨ p = 2 := by
  unfold rightT at h1; have := of_decide_eq_true h1; exact this.1
 have hs : 1 ≤ s ∧ s ≤ 14 := by
  unfold hasT at h2
  split at h2
  ·omega
  ·split at h2
   ·omega
   ·exact of_decide_eq_true h2
 have hk : 0 ≤ hh ∧ hh ≤ 8 := by
  try dsimp only at h3
  split at h3
  ·have := of_decide_eq_true h3; omega
  ·have := of_decide_eq_true h3; omega
 unfold seatsL; rw [List.mem_flatMap]; refine ⟨p, by rcases hp with rfl | rfl <;> simp, ?_⟩
 rw [List.mem_flatMap]; refine ⟨s, ?_, ?_⟩
 ·simp only [List.mem_cons, List.not_mem_nil, or_false]
  omega
 ·rw [List.mem_map]; refine ⟨hh, ?_, rfl⟩
  simp only [List.mem_cons, List.not_mem_nil, or_false]
  omega
def toldOk (z : SeatM) (k : Int) : Bool :=
 z.right == false || ((z.tell k).1 == 0 &&
  ((!(z.tell k).2.changed) || (turnS z (z.tell k).2.z.s (z.tell k).2.z.h == some (z.tell k).2.z)) &&
  ((z.tell k).2.changed || ((z.tell k).2.z == z && (z.tell k).2.work == 0)) &&
  (((z.tell k).2.z.tell k).2.changed == false && ((z.tell k).2.z.tell k).2.work == 0) &&
  ((z.tell k).2.send == 0 || (z.tell k).2.fault == 0))
theorem told_all : seatsL.all (fun z => kindsL.all (toldOk z)) = true := by decide +kernel
open Go.RowKit Go.ChangeShapes Go.WideShapes
structure EncG (α : Type) where
 enc : α → List Value
 k : Nat
 len : ∀ x, (enc x).length = k
 one : ∀ x, ∀ u ∈ enc x, u.oneCell' = true
section
variable {α : Type} (E : EncG α)
def EncG.row (f : List α) : List Value := f.flatMap E.enc
theorem row_len (f : List α) : (E.row f).length = f.length * E.k := by
 unfold EncG.row
 induction f with
 | nil => simp
 | cons g gs ih => rw [List.flatMap_cons, List.length_append, ih, E.len, List.length_cons, Nat.add_mul, Nat.one_mul, Nat.add_comm]
theorem row_app (f g : List α) : E.row (f ++ g) = E.row f ++ E.row g := by unfold EncG.row; rw [List.flatMap_append]
theorem row_at : ∀ (f : List α) (j : Nat) (hj : j < f.length) (i : Nat), i < E.k → (E.row f)[j * E.k + i]? = (E.enc f[j])[i]?
 | g :: gs, 0, _, i, hi => by
  show (E.row (g :: gs))[0 * E.k + i]? = (E.enc g)[i]?
  unfold EncG.row; rw [List.flatMap_cons, Nat.zero_mul, Nat.zero_add, List.getElem?_append_left (by rw [E.len]; exact hi)]
 | g :: gs, j + 1, hj, i, hi => by
  have hj' : j < gs.length := by simpa using hj
  have h := row_at gs j hj' i hi
  show (E.row (g :: gs))[(j + 1) * E.k + i]? = (E.enc gs[j])[i]?
  rw [← h]; unfold EncG.row; have e : (j + 1) * E.k + i = E.k + (j * E.k + i) := by rw [Nat.add_mul, Nat.one_mul]; omega
  rw [List.flatMap_cons, e, List.getElem?_append_right (by rw [E.len]; omega), E.len, Nat.add_sub_cancel_left]
theorem row_one (f : List α) : ∀ u ∈ E.row f, u.oneCell' = true := by
 intro u hu; obtain ⟨q, _, h⟩ := List.mem_flatMap.1 hu; exact E.one q u h
theorem row_drop (f : List α) (i : Nat) : E.row (f.drop i) = (E.row f).drop (i * E.k) := by
 by_cases h : i ≤ f.length
 ·have e : E.row f = E.row (f.take i) ++ E.row (f.drop i) := by rw [← row_app, List.take_append_drop]
  have hl : (E.row (f.take i)).length = i * E.k := by rw [row_len, List.length_take, Nat.min_eq_left h]
  have e2 := congrArg (List.drop (i * E.k)) e; rw [List.drop_append_of_le_length (by omega), List.drop_of_length_le (l := E.row (f.take i)) (by omega), List.nil_append] at e2; exact e2.symm
 ·rw [List.drop_of_length_le (by omega), List.drop_of_length_le (by rw [row_len]; exact Nat.mul_le_mul_right _ (by omega))]
  rfl
theorem row_take (f : List α) (i : Nat) : E.row (f.take i) = (E.row f).take (i * E.k) := by
 by_cases h : i ≤ f.length
 ·have e : E.row f = E.row (f.take i) ++ E.row (f.drop i) := by rw [← row_app, List.take_append_drop]
  have hl : (E.row (f.take i)).length = i * E.k := by rw [row_len, List.length_take, Nat.min_eq_left h]
  have e2 := congrArg (List.take (i * E.k)) e; rw [List.take_append_of_le_length (by omega), List.take_of_length_le (l := E.row (f.take i)) (by omega)] at e2; exact e2.symm
 ·rw [List.take_of_length_le (by omega), List.take_of_length_le (by rw [row_len]; exact Nat.mul_le_mul_right _ (by omega))]
def PartG (v : Value) (f : List α) (w : World) : Prop :=
 ∃ a cap, v = .slice a f.length cap ∧ (a = none → f.length = 0 ∧ cap = 0) ∧ ∀ ad, a = some ad → ∀ j u, (E.row f)[j]? = some u → w.cell? (ad.add j) = some u
variable {E}
theorem PartG.kp {v : Value} {f : List α} {w w' : World} (h : PartG E v f w) (hk : Kp w w') : PartG E v f w' := by
 obtain ⟨a, cap, h1, h2, h3⟩ := h; exact ⟨a, cap, h1, h2, fun ad e j u hj => kZ hk (h3 ad e j u hj)⟩
theorem own_lenG {w : World} {base n : Nat} {e : TypeId} {v : Value} {f : List α} (h0 : 0 < E.k) (h : w.ownsRow base e E.k v n (E.row f)) : f.length = n := by
 have := h.1; rw [row_len] at this; exact Nat.eq_of_mul_eq_mul_right h0 this
theorem qG {w : World} {base n : Nat} {e : TypeId} {v : Value} {f : List α} (h0 : 0 < E.k) (h : w.ownsRow base e E.k v n (E.row f)) : PartG E v f w := by
 have hn := own_lenG h0 h
 rcases h.2 with ⟨rfl, hz⟩ | ⟨g, cap, cur, rfl, hg, hh, hc, hm, hs, ht⟩
 ·exact ⟨none, 0, by rw [hn, hz], fun _ => ⟨by omega, rfl⟩, fun ad q => by cases q⟩
 ·refine ⟨some ⟨g, 0, none⟩, cap, by rw [hn], fun q => (by cases q), fun ad q j u hj => ?_⟩
  injection q with q
  subst q; exact h.cells rfl j u hj
theorem own_takeG {w : World} {base n g cap i : Nat} {e : TypeId} {f : List α} (h0 : 0 < E.k) (h : w.ownsRow base e E.k (.slice (some ⟨g, 0, none⟩) n cap) n (E.row f)) (hi : i ≤ n) : PartG E (.slice (some ⟨g, 0, none⟩) i cap) (f.take i) w := by
 have hn := own_lenG h0 h; refine ⟨some ⟨g, 0, none⟩, cap, by rw [List.length_take, Nat.min_eq_left (by omega)], fun q => (by cases q), fun ad q j u hj => ?_⟩
 injection q with q
 subst q; refine h.cells rfl j u ?_
 rw [row_take, List.getElem?_take] at hj
 split at hj
 ·exact hj
 ·cases hj
theorem own_dropG {w : World} {base n g cap i : Nat} {e : TypeId} {f : List α} (h0 : 0 < E.k) (h : w.ownsRow base e E.k (.slice (some ⟨g, 0, none⟩) n cap) n (E.row f)) (hi : i ≤ n) (ad : Addr) (had : i < n → ad = ⟨g, i * E.k, none⟩) (c : Nat) : PartG E (.slice (some ad) (n - i) c) (f.drop i) w := by
 have hn := own_lenG h0 h; refine ⟨some ad, c, by rw [List.length_drop, hn], fun q => (by cases q), fun a2 q j u hj => ?_⟩
 injection q with q
 subst q; have hlt : i < n := by
  rcases Nat.lt_or_ge i n with q | q
  ·exact q
  ·rw [List.drop_of_length_le (by omega)] at hj; simp [EncG.row] at hj
 rw [had hlt]; rw [row_drop, List.getElem?_drop] at hj; have := h.cells rfl (i * E.k + j) u hj; rw [Addr.add_lit] at this ⊢
 simpa using this
theorem bG {w : World} {base base' n k : Nat} {e : TypeId} {v : Value} {us : List Value} (h : w.ownsRow base e k v n us) (hb : base' ≤ base) : w.ownsRow base' e k v n us := by
 refine ⟨h.1, ?_⟩
 rcases h.2 with q | ⟨g', cap, cur, ee, hg, r⟩
 ·exact Or.inl q
 ·exact Or.inr ⟨g', cap, cur, ee, Nat.le_trans hb hg, r⟩
theorem sG {w w' : World} {base n k : Nat} {e : TypeId} {v : Value} {us : List Value} (h : w.ownsRow base e k v n us) (hb : ∀ b, v.ownBlock = some b → w'.heap[b]? = w.heap[b]?) : w'.ownsRow base e k v n us := by
 refine ⟨h.1, ?_⟩
 rcases h.2 with q | ⟨g', cap, cur, ee, hg, hh, r⟩
 ·exact Or.inl q
 ·exact Or.inr ⟨g', cap, cur, ee, hg, by rw [hb g' (by rw [ee]; rfl)]; exact hh, r⟩
theorem fG {w : World} {v : Value} {base n k : Nat} {e : TypeId} {us : List Value} (h : w.ownsRow base e k v n us) : ∃ a cp, v = .slice a n cp := by
 rcases h.2 with ⟨rfl, h0⟩ | ⟨g', cap, cur, rfl, _⟩
 ·exact ⟨none, 0, by rw [h0]⟩
 ·exact ⟨_, _, rfl⟩
theorem grown_anyG {w w' : World} {r : Option Nat} (h : w.grownBy w' none) : w.grownBy w' r := ⟨h.os, h.tape, h.output, h.size, fun k hk _ => h.block k hk (by simp)⟩
structure TyG (P : Program) (T e : TypeId) (k : Nat) (z : Value) (by' : Nat) : Prop where
 und : P.underlying T = some (.slice e)
 info : ∃ i0, P.info? e = some i0 ∧ i0.zero = some z ∧ i0.size = k ∧ i0.bytes = by'
 zc : z.cells.size = k
 le : by' ≤ 4096
theorem wpOp_of_listG {P : Program} {ops : Array Oper} {Q : Exit → Act → World → Prop} {K : Act → World → Prop} {i : Nat} {o : Oper} {a : Act} {w : World} (h0 : ops[i]? = some o) (h : wpList P ops (Exit.then K Q) [o] a w) : wpOp P ops Q i K a w := by
 unfold wpOp; simp only [h0]
 exact h
theorem AllReadyH.consLG {P : Program} {md : Region.Mode} {ops : Array Oper} {Q : Exit → Act → World → Prop} {S : World → Prop} {fuel : Nat} {listed : Array Bool} {a : Act} {w : World} {i : Nat} {o : Oper} {rs : List Nat} (ho : ops[i]? = some o)
  (h : ∀ K' : Act → World → Prop, Shut (∀ a w, S w → (S w → wpAnyH P md ops Q S fuel (listed.setIfInBounds i true) a w) → K' a w) → wpList P ops (Exit.then K' Q) [o] a w)
  (hs : AllReadyH P md ops Q S fuel listed a w rs) : AllReadyH P md ops Q S fuel listed a w (i :: rs) := fun j hj => by
 rcases List.mem_cons.1 hj with rfl | hj
 ·exact wpOp_of_listG ho (h _ (fun a w h1 h2 => ⟨h1, h2 h1⟩))
 ·exact hs j hj
theorem bytes_le {n by' : Nat} (h1 : n ≤ 1000000) (h2 : by' ≤ 4096) : n * by' ≤ 140737488355328 :=
 Nat.le_trans (Nat.mul_le_mul h1 h2) (by decide)
theorem aG {P : Program} {T e : TypeId} {z : Value} {by' : Nat} (ty : TyG P T e E.k z by') (h0 : 0 < E.k) (w : World) {ops : Array Oper} {rest : List Oper} {o : Oper} {a : Act} {Q : Exit → Act → World → Prop} (hgd : o.guard = none) (s x : Operand)
  (ho : o.op = .call { callee := .builtin .append, args := #[s, x], argTypes := #[T, T] })
  (base : Nat) (v : Value) (n : Nat) (xs : List α) (hs : a.eval s = v) (hown : w.ownsRow base e E.k v n (E.row xs))
  (u : Value) (f : List α) (hx : a.eval x = u) (hb : PartG E u f w) (h63 : n + f.length ≤ 1000000) (hbase : base ≤ w.heap.size)
  (h : ∀ v' w', w'.ownsRow base e E.k v' (n + f.length) (E.row (xs ++ f)) → w.grownBy w' v.ownBlock → (∀ b, v'.ownBlock = some b → v.ownBlock = some b ∨ w.heap.size ≤ b) → wpList P ops Q rest (a.put o.dst v') w') : wpList P ops Q (o :: rest) a w := by
 obtain ⟨i0, hi, hz0, hz1, hz2⟩ := ty.info; rw [row_app] at h; obtain ⟨ao, cap, rfl, hno, hc⟩ := hb; have hmax : n + f.length ≤ maxLen := by unfold maxLen; omega
 have hby := bytes_le h63 ty.le
 cases ao with
 | none =>
  obtain ⟨h1, rfl⟩ := hno rfl; have hf : f = [] := List.length_eq_zero_iff.1 h1; subst hf; exact wpList_append_own_none hgd s x T ho base e i0 E.k ty.und hi v n (E.row xs) hs hown hx (h v w (by simpa [EncG.row] using hown) ⟨rfl, rfl, rfl, Nat.le_refl _, fun _ _ _ => rfl⟩ (fun b q => .inl q))
 | some ad =>
  rcases hown.2 with ⟨rfl, rfl⟩ | ⟨g, cap2, cur, rfl, hg, hh, hnc, hcm, hcs, htk⟩
  ·have hxs : E.row xs = [] := List.length_eq_zero_iff.1 (by simpa using hown.1); rw [hxs] at h hown; refine wpList_append_own w hgd s x T ho w.heap.size e i0 z E.k by' ty.und hi hz0 hz1 hz2 ty.zc h0 (.slice none 0 0) 0 [] hs (World.ownsRow_nil w _ _ _) ad f.length cap (E.row f) hx (row_len E f) (hc ad rfl) (row_one E f) hmax hby (Nat.le_refl _) ?_
   intro v' w' h1 h2 _; exact h v' w' (bG h1 hbase) h2 (fun b q => .inr (h1.lt b q).1)
  ·by_cases hfit : n + f.length ≤ cap2
   ·refine wpList_append_fits w hgd s x T ho base e i0 E.k ty.und hi hz1 g n cap2 (E.row xs) hs hown ad f.length cap (E.row f) hx (row_len E f) (hc ad rfl) (row_one E f) hfit ?_
    intro w' h1 h2; exact h _ w' h1 h2 (fun b q => .inl q)
   ·have holds : ∀ b, (some ⟨g, 0, none⟩ : Option Addr) = some b → ∀ j u, (E.row xs)[j]? = some u → w.cell? (b.add j) = some u := by
     intro b e j u hj; injection e with e
     subst e; exact hown.cells rfl j u hj
    refine wpList_append_grows w hgd s x T ho e i0 z E.k by' ty.und hi hz0 hz1 hz2 ty.zc h0 (some ⟨g, 0, none⟩) n cap2 (E.row xs) hs (fun e => by cases e) hown.1 holds ad f.length cap (E.row f) hx (row_len E f) (hc ad rfl) (row_one E f) (by omega) hmax hby ?_
    intro v' w' h1 h2; exact h v' w' (bG h1 hbase) (grown_anyG h2) (fun b q => .inr (h1.lt b q).1)
theorem sl_headG {P : Program} {T e : TypeId} {k b n cp i : Nat} {ii : Int} (hu : P.underlying T = some (.slice e)) (hz : ∃ i0, P.info? e = some i0 ∧ i0.size = k) (hii : (i : Int) = ii) (hi : i ≤ n) (hnc : n ≤ cp) (w : World) :
  (Instr.slice T (.slice (some ⟨b, 0, none⟩) n cp) none (some (.int .i64 ii)) none).run P w = .ok (.slice (some ⟨b, 0, none⟩) i cp) w := by
 have he : P.elem T = e := by simp [Program.elem, hu]
 have hs : (Go.sizeOf e).run P w = .ok k w := by
  obtain ⟨i0, h1, h2⟩ := hz
  simp [sizeOf, typeInfo, h1, h2]
 rw [run_slice_h w T _ _ _ (by rw [hu, he]) .i64 _ (by omega) (by omega), he, hs]; have e : ii.toNat = i := by omega
 simp [Result.andThen, sliced, Addr.add, e]
theorem sl_tailG {P : Program} {T e : TypeId} {k b n cp i : Nat} {ii : Int} (hu : P.underlying T = some (.slice e)) (hz : ∃ i0, P.info? e = some i0 ∧ i0.size = k) (hii : (i : Int) = ii) (hi : i ≤ n) (w : World) :
  (Instr.slice T (.slice (some ⟨b, 0, none⟩) n cp) (some (.int .i64 ii)) none none).run P w = .ok (.slice (some ⟨b, if cp = i then 0 else i * k, none⟩) (n - i) (cp - i)) w := by
 have he : P.elem T = e := by simp [Program.elem, hu]
 have hs : (Go.sizeOf e).run P w = .ok k w := by
  obtain ⟨i0, h1, h2⟩ := hz
  simp [sizeOf, typeInfo, h1, h2]
 rw [run_slice_l w T _ _ _ (by rw [hu, he]) .i64 _ (by omega) (by omega), he, hs]; have e : ii.toNat = i := by omega
 simp [Result.andThen, sliced, Addr.add, e]
 split <;> simp <;> omega
end
open Go.RowKit Go.ChangeShapes Go.WideShapes
def fcE : EncG FX where
 enc f := f.cells.toList
 k := 14
 len := fun _ => rfl
 one := by
  intro x u hu; simp only [FX.cells, List.mem_cons, List.not_mem_nil, or_false] at hu
  rcases hu with rfl | rfl | rfl | rfl | rfl | rfl | rfl | rfl | rfl | rfl | rfl | rfl | rfl | rfl <;> rfl
theorem info_fcL0 : (Tryz.prog.info? 73).map (fun i => (i.zero, i.size, i.bytes)) = some (some (.agg #[(0:Int), (0:Int), (0:Int), (0:Int), (0:Int), (0:Int), (0:Int), (0:Int), (0:Int), (0:Int), (0:Int), (0:Int), (0:Int), .float .f64 0]), 14, 112) := by kernel_rfl
theorem info_fcL : ∃ i0, Tryz.prog.info? 73 = some i0 ∧ i0.zero = some (.agg #[(0:Int), (0:Int), (0:Int), (0:Int), (0:Int), (0:Int), (0:Int), (0:Int), (0:Int), (0:Int), (0:Int), (0:Int), (0:Int), .float .f64 0]) ∧ i0.size = 14 ∧ i0.bytes = 112 := by
 have h := info_fcL0
 cases g : Tryz.prog.info? 73 with
 | none => rw [g] at h; cases h
 | some i0 =>
  rw [g] at h; simp only [Option.map_some, Option.some.injEq, Prod.mk.injEq] at h
  exact ⟨i0, rfl, h.1, h.2.1, h.2.2⟩
theorem ty_fcL : TyG Tryz.prog 22 73 14 (.agg #[(0:Int), (0:Int), (0:Int), (0:Int), (0:Int), (0:Int), (0:Int), (0:Int), (0:Int), (0:Int), (0:Int), (0:Int), (0:Int), .float .f64 0]) 112 := ⟨Tryz.underlying22, info_fcL, rfl, by decide⟩
theorem info_fcD0 : (Tryz.prog.info? 82).map (fun i => (i.zero, i.size, i.bytes)) = some (some (.agg #[(0:Int), (0:Int), (0:Int), (0:Int), (0:Int), (0:Int), (0:Int), (0:Int), (0:Int), (0:Int), (0:Int), (0:Int), (0:Int), .float .f64 0]), 14, 112) := by kernel_rfl
theorem info_fcD : ∃ i0, Tryz.prog.info? 82 = some i0 ∧ i0.zero = some (.agg #[(0:Int), (0:Int), (0:Int), (0:Int), (0:Int), (0:Int), (0:Int), (0:Int), (0:Int), (0:Int), (0:Int), (0:Int), (0:Int), .float .f64 0]) ∧ i0.size = 14 ∧ i0.bytes = 112 := by
 have h := info_fcD0
 cases g : Tryz.prog.info? 82 with
 | none => rw [g] at h; cases h
 | some i0 =>
  rw [g] at h; simp only [Option.map_some, Option.some.injEq, Prod.mk.injEq] at h
  exact ⟨i0, rfl, h.1, h.2.1, h.2.2⟩
theorem ty_fcD : TyG Tryz.prog 37 82 14 (.agg #[(0:Int), (0:Int), (0:Int), (0:Int), (0:Int), (0:Int), (0:Int), (0:Int), (0:Int), (0:Int), (0:Int), (0:Int), (0:Int), .float .f64 0]) 112 := ⟨Tryz.underlying37, info_fcD, rfl, by decide⟩
theorem own_oneF {w : World} {t : TypeId} {B : Nat} (f : FX) (hb : B ≤ w.heap.size) : (w.alloc (.cells f.cells t)).ownsRow B t 14 (.slice (some ⟨w.heap.size, 0, none⟩) 1 1) 1 (fcE.row [f]) := by
 have := World.ownsRow_lit (base := B) (e := t) (size := 14) w f.cells 1 hb (by decide) rfl; rw [show fcE.row [f] = f.cells.toList by unfold EncG.row; simp [fcE]]; exact this
theorem cells9 {b : Nat} {t : TypeId} {w : World} {x0 x1 x2 x3 x4 x5 x6 x7 x8 : Value} (h : w.heap[b]? = some (.cells #[x0, x1, x2, x3, x4, x5, x6, x7, x8] t (0, 0))) : w.cell? ⟨b, 0, none⟩ = some x0 ∧ w.cell? ⟨b, 1, none⟩ = some x1 ∧ w.cell? ⟨b, 2, none⟩ = some x2 ∧ w.cell? ⟨b, 3, none⟩ = some x3 ∧ w.cell? ⟨b, 4, none⟩ = some x4 ∧ w.cell? ⟨b, 5, none⟩ = some x5 ∧ w.cell? ⟨b, 6, none⟩ = some x6 ∧ w.cell? ⟨b, 7, none⟩ = some x7 ∧ w.cell? ⟨b, 8, none⟩ = some x8 := by
 refine ⟨?_, ?_, ?_, ?_, ?_, ?_, ?_, ?_, ?_⟩ <;> (unfold World.cell?; dsimp only; rw [h]; rfl)
theorem set9 {b : Nat} {t : TypeId} {w : World} {x0 x1 x2 x3 x4 x5 x6 x7 x8 : Value} (y0 y1 y2 y3 y4 y5 y6 y7 y8 : Value) (h : w.heap[b]? = some (.cells #[x0, x1, x2, x3, x4, x5, x6, x7, x8] t (0, 0))) : (((((((((w.setCell ⟨b, 0, none⟩ y0).setCell ⟨b, 1, none⟩ y1).setCell ⟨b, 2, none⟩ y2).setCell ⟨b, 3, none⟩ y3).setCell ⟨b, 4, none⟩ y4).setCell ⟨b, 5, none⟩ y5).setCell ⟨b, 6, none⟩ y6).setCell ⟨b, 7, none⟩ y7).setCell ⟨b, 8, none⟩ y8).heap[b]? = some (.cells #[y0, y1, y2, y3, y4, y5, y6, y7, y8] t (0, 0)) := by
 have h1 : (w.setCell ⟨b, 0, none⟩ y0).heap[b]? = some (.cells #[y0, x1, x2, x3, x4, x5, x6, x7, x8] t (0, 0)) := (Joins.block_setCell h _).trans rfl; have h2 : ((w.setCell ⟨b, 0, none⟩ y0).setCell ⟨b, 1, none⟩ y1).heap[b]? = some (.cells #[y0, y1, x2, x3, x4, x5, x6, x7, x8] t (0, 0)) := (Joins.block_setCell h1 _).trans rfl; have h3 : (((w.setCell ⟨b, 0, none⟩ y0).setCell ⟨b, 1, none⟩ y1).setCell ⟨b, 2, none⟩ y2).heap[b]? = some (.cells #[y0, y1, y2, x3, x4, x5, x6, x7, x8] t (0, 0)) := (Joins.block_setCell h2 _).trans rfl; have h4 : ((((w.setCell ⟨b, 0, none⟩ y0).setCell ⟨b, 1, none⟩ y1).setCell ⟨b, 2, none⟩ y2).setCell ⟨b, 3, none⟩ y3).heap[b]? = some (.cells #[y0, y1, y2, y3, x4, x5, x6, x7, x8] t (0, 0)) := (Joins.block_setCell h3 _).trans rfl; have h5 : (((((w.setCell ⟨b, 0, none⟩ y0).setCell ⟨b, 1, none⟩ y1).setCell ⟨b, 2, none⟩ y2).setCell ⟨b, 3, none⟩ y3).setCell ⟨b, 4, none⟩ y4).heap[b]? = some (.cells #[y0, y1, y2, y3, y4, x5, x6, x7, x8] t (0, 0)) := (Joins.block_setCell h4 _).trans rfl
 have h6 : ((((((w.setCell ⟨b, 0, none⟩ y0).setCell ⟨b, 1, none⟩ y1).setCell ⟨b, 2, none⟩ y2).setCell ⟨b, 3, none⟩ y3).setCell ⟨b, 4, none⟩ y4).setCell ⟨b, 5, none⟩ y5).heap[b]? = some (.cells #[y0, y1, y2, y3, y4, y5, x6, x7, x8] t (0, 0)) := (Joins.block_setCell h5 _).trans rfl; have h7 : (((((((w.setCell ⟨b, 0, none⟩ y0).setCell ⟨b, 1, none⟩ y1).setCell ⟨b, 2, none⟩ y2).setCell ⟨b, 3, none⟩ y3).setCell ⟨b, 4, none⟩ y4).setCell ⟨b, 5, none⟩ y5).setCell ⟨b, 6, none⟩ y6).heap[b]? = some (.cells #[y0, y1, y2, y3, y4, y5, y6, x7, x8] t (0, 0)) := (Joins.block_setCell h6 _).trans rfl; have h8 : ((((((((w.setCell ⟨b, 0, none⟩ y0).setCell ⟨b, 1, none⟩ y1).setCell ⟨b, 2, none⟩ y2).setCell ⟨b, 3, none⟩ y3).setCell ⟨b, 4, none⟩ y4).setCell ⟨b, 5, none⟩ y5).setCell ⟨b, 6, none⟩ y6).setCell ⟨b, 7, none⟩ y7).heap[b]? = some (.cells #[y0, y1, y2, y3, y4, y5, y6, y7, x8] t (0, 0)) := (Joins.block_setCell h7 _).trans rfl
 have h9 : (((((((((w.setCell ⟨b, 0, none⟩ y0).setCell ⟨b, 1, none⟩ y1).setCell ⟨b, 2, none⟩ y2).setCell ⟨b, 3, none⟩ y3).setCell ⟨b, 4, none⟩ y4).setCell ⟨b, 5, none⟩ y5).setCell ⟨b, 6, none⟩ y6).setCell ⟨b, 7, none⟩ y7).setCell ⟨b, 8, none⟩ y8).heap[b]? = some (.cells #[y0, y1, y2, y3, y4, y5, y6, y7, y8] t (0, 0)) := (Joins.block_setCell h8 _).trans rfl; exact h9
theorem set9_kp {b : Nat} {w0 w : World} (hk : Kp w0 w) (hb : w0.heap.size ≤ b) (y0 y1 y2 y3 y4 y5 y6 y7 y8 : Value) : Kp w0 (((((((((w.setCell ⟨b, 0, none⟩ y0).setCell ⟨b, 1, none⟩ y1).setCell ⟨b, 2, none⟩ y2).setCell ⟨b, 3, none⟩ y3).setCell ⟨b, 4, none⟩ y4).setCell ⟨b, 5, none⟩ y5).setCell ⟨b, 6, none⟩ y6).setCell ⟨b, 7, none⟩ y7).setCell ⟨b, 8, none⟩ y8) := by
 refine Below.setCell ?_ hb _
 refine Below.setCell ?_ hb _
 refine Below.setCell ?_ hb _
 refine Below.setCell ?_ hb _
 refine Below.setCell ?_ hb _
 refine Below.setCell ?_ hb _
 refine Below.setCell ?_ hb _
 refine Below.setCell ?_ hb _
 refine Below.setCell ?_ hb _
 exact hk
end Go.Proofs.YtncoofnhifcnhaaGreatDoor
