/- Parts of this proof (own work). -/
import Derived.Test.YtlmlmhmhgdjhnaaGreatDoorZa02
import Derived.Deep.SlicePairs
import Derived.Lib.SlBytesRow
import Derived.WalkLawsBesides
import Derived.Laws.BitsAllLaws
import Derived.Deep.QuietTactic
set_option maxRecDepth 100000
set_option maxHeartbeats 40000000
namespace Go.Proofs.YtlmlmhmhgdjhnaaGreatDoor
open Go.RowKit
theorem okF_of {f : FX} (h : rightF f = true) : okF f = true := by
 unfold rightF at h; simp only [Bool.and_eq_true] at h
 exact h.2.1
theorem inv_open {f : FX} (h : rightF f = true) (hk : f.k = 1) : rightX (ctxF f) = true ∧ 0 ≤ f.a ∧ f.a ≤ 8 := by
 have := okF_of h; unfold okF at this; rw [if_pos hk] at this
 simpa using this
theorem inv_enr {f : FX} (h : rightF f = true) (hk : f.k = 2) : rightA f.n f.s = true ∧ (0 ≤ f.r ∧ f.r ≤ 5) ∧ (0 ≤ f.e ∧ f.e ≤ 3) ∧ (0 ≤ f.p ∧ f.p ≤ 7) ∧ (f.q = 1 ∨ f.q = 2) := by
 have := okF_of h; unfold okF at this; rw [if_neg (by omega), if_pos hk] at this
 simp at this
 refine ⟨this.1, ?_⟩
 have := this.2; omega
theorem inv_dec {f : FX} (h : rightF f = true) (hk : f.k = 4) : f.c = 1 ∨ f.c = 2 := by
 have := okF_of h; unfold okF at this; rw [if_neg (by omega), if_neg (by omega), if_neg (by omega), if_pos hk] at this
 simp at this
 exact this.2
theorem inv_joi {f : FX} (h : rightF f = true) (hk : f.k = 6) : rightA f.n f.s = true ∧ (0 ≤ f.p ∧ f.p ≤ 7) ∧ (f.q = 1 ∨ f.q = 2) := by
 have := okF_of h; unfold okF at this; rw [if_neg (by omega), if_neg (by omega), if_neg (by omega), if_neg (by omega), if_neg (by omega), if_pos hk] at this
 simp at this
 refine ⟨this.1, ?_⟩
 have := this.2; omega
theorem inv_pla {f : FX} (h : rightF f = true) (hk : f.k = 7) : 0 ≤ f.r ∧ f.r ≤ 5 := by
 have := okF_of h; unfold okF at this; rw [if_neg (by omega), if_neg (by omega), if_neg (by omega), if_neg (by omega), if_neg (by omega), if_neg (by omega), if_pos hk] at this
 simp at this
 omega
theorem okz_new {q e : Int} (hq : q = 1 ∨ q = 2) (he : e = 1 ∨ e = 2) : OkZ ⟨q, e, 1, 0⟩ e := by
 refine ⟨?_, rfl⟩
 rcases hq with rfl | rfl <;> rcases he with rfl | rfl <;> decide
theorem turnS_ok {z z2 : SeatM} {e t h : Int} (hz : OkZ z e) (hs : turnS z t h = some z2) : OkZ z2 e := by
 unfold turnS at hs
 split at hs
 ·next q => obtain rfl := Option.some.inj hs; exact ⟨q.2, hz.2⟩
 ·cases hs
theorem seqS_app : ∀ (l : List AcM) (nx : Int) (a : AcM), seqS nx l → nextS nx l ≤ a.c.s → seqS nx (l ++ [a])
 | [], _, _, _, h => ⟨h, trivial⟩
 | _ :: l, _, a, h, h2 => ⟨h.1, seqS_app l _ a h.2 h2⟩
theorem seqS_set : ∀ (l : List AcM) (nx : Int) (i : Nat) (a b : AcM), l[i]? = some a → b.c = a.c → seqS nx l → seqS nx (l.set i b)
 | [], _, _, _, _, h, _, _ => by simp at h
 | x :: l, nx, 0, a, b, h, hc, hs => by
  obtain rfl : x = a := by simpa using h
  show nx ≤ b.c.s ∧ seqS (b.c.s + 1) l
  rw [hc]; exact hs
 | x :: l, nx, i + 1, a, b, h, hc, hs => ⟨hs.1, seqS_set l _ i a b (by simpa using h) hc hs.2⟩
theorem seqS_mono : ∀ (l : List AcM) (nx ny : Int), ny ≤ nx → seqS nx l → seqS ny l
 | [], _, _, _, _ => trivial
 | _ :: _, _, _, h, hs => ⟨Int.le_trans h hs.1, hs.2⟩
theorem seqS_erase : ∀ (l : List AcM) (nx : Int) (i : Nat), seqS nx l → seqS nx (l.eraseIdx i)
 | [], _, _, _ => trivial
 | x :: l, nx, 0, hs => by
  have h1 := hs.1; exact seqS_mono l _ nx (by omega) hs.2
 | x :: l, nx, i + 1, hs => ⟨hs.1, seqS_erase l _ i hs.2⟩
theorem lastS_mem {l : List AcM} (h : l ≠ []) : ∃ x ∈ l, lastS l = x.c.s := by
 refine ⟨l.getLast h, List.getLast_mem h, ?_⟩
 unfold lastS; rw [List.getLast?_eq_some_getLast h]
 rfl
theorem lastS_set {l : List AcM} {i : Nat} {a b : AcM} (h : l[i]? = some a) (hc : b.c = a.c) : lastS (l.set i b) = lastS l := by
 unfold lastS; have h2 : ∀ j : Nat, (l.set i b)[j]?.map (fun x : AcM => x.c.s) = l[j]?.map (fun x : AcM => x.c.s) := fun j => by
  by_cases q : i = j
  ·subst q; have hi := (List.getElem?_eq_some_iff.1 h).1; rw [List.getElem?_set_self hi, h]
   simp [hc]
  ·rw [List.getElem?_set_ne q]
 rw [List.getLast?_eq_getElem?, List.getLast?_eq_getElem?, List.length_set, h2]
theorem OkS.lt {m : StM} (h : OkS m) : ∀ x ∈ m.acts, x.c.s < m.next := fun x hx => by
 have h1 := seqS_lt m.acts 0 h.seq x hx; have h2 := h.nx; rw [nextS_last] at h1
 split at h1
 ·next q => rw [q] at hx; cases hx
 ·omega
theorem mem_set {α : Type} {l : List α} {i : Nat} {a x : α} (h : x ∈ l.set i a) : x ∈ l ∨ x = a := by
 rcases List.mem_or_eq_of_mem_set h with q | q
 ·exact .inl q
 ·exact .inr q
theorem OkS.setA {m : StM} (h : OkS m) {i : Nat} {a b : AcM} (ha : m.acts[i]? = some a) (hc : b.c = a.c) (hp : b.par = a.par) (hb : OkA m.node b) : OkS { m with acts := m.acts.set i b } where
 n := h.n
 a := fun x hx => by
  rcases mem_set hx with q | rfl
  ·exact h.a x q
  ·exact hb
 par := fun x hx => by
  rcases mem_set hx with q | rfl
  ·exact h.par x q
  ·rw [hp]; exact h.par a (List.mem_of_getElem? ha)
 seq := seqS_set _ _ _ _ _ ha hc h.seq
 dis := by
  have h1 : (m.acts.set i b).map (·.par) = m.acts.map (·.par) := by
   refine List.ext_getElem? fun j => ?_
   rw [List.getElem?_map, List.getElem?_map]
   by_cases q : i = j
   ·subst q; rw [List.getElem?_set_self (List.getElem?_eq_some_iff.1 ha).1, ha]
    simp [hp]
   ·rw [List.getElem?_set_ne q]
  have h2 : (m.acts.map (·.par)).Pairwise (fun x y => y ≠ 0 → x ≠ y) := List.pairwise_map.2 h.dis; rw [← h1] at h2; exact List.pairwise_map.1 h2
 l8 := by rw [List.length_set]; exact h.l8
 p := h.p
 p8 := h.p8
 nx := by rw [lastS_set ha hc]; exact h.nx
 last := by rw [lastS_set ha hc, List.length_set]; exact h.last
theorem OkS.setP {m : StM} (h : OkS m) {P : List PaM} (hl : m.parts.length ≤ P.length) (h8 : P.length ≤ 8) (hp : ∀ x ∈ P, OkP x) : OkS { m with parts := P } where
 n := h.n
 a := h.a
 par := fun x hx => by have := h.par x hx; show x.par ≤ (P.length : Int); omega
 seq := h.seq
 dis := h.dis
 l8 := h.l8
 p := hp
 p8 := h8
 nx := h.nx
 last := h.last
theorem child_ne {A : List AcM} {p : Int} (hp : 0 < p) (h : (childS A (p - 1)).isSome = false) : ∀ x ∈ A, x.par ≠ p := fun x hx q => by
 unfold childS at h; rw [if_neg (by omega)] at h; have h2 : List.findIdx? (fun a : AcM => decide (a.par = p - 1 + 1)) A = none := by
  cases hc : List.findIdx? (fun a : AcM => decide (a.par = p - 1 + 1)) A with
  | none => rfl
  | some _ => rw [hc] at h; cases h
 have := List.findIdx?_eq_none_iff.1 h2 x hx; simp only [decide_eq_false_iff_not] at this
 omega
theorem lastS_app (l : List AcM) (a : AcM) : lastS (l ++ [a]) = a.c.s := by simp [lastS]
theorem keep_open {m m2 : StM} {f : FX} (h : OkS m) (hr : rightF f = true) (hk : f.k = 1) (hd : doS m f = some m2) : OkS m2 := by
 unfold doS at hd; rw [if_pos hk] at hd
 split at hd
 ·cases hd
 ·next q =>
  obtain rfl := Option.some.inj hd; simp only [not_or, not_and, Classical.not_not] at q
  obtain ⟨q1, q2, q3, q4⟩ := q; obtain ⟨r1, r2, r3⟩ := inv_open hr hk; have hlt := h.lt; exact {
   n := h.n
   a := fun x hx => by
    rcases List.mem_append.1 hx with hx | hx
    ·exact h.a x hx
    ·obtain rfl := List.mem_singleton.1 hx; exact ⟨q1, r1, r2, r3, by simp, fun g hg => (by cases hg), List.Pairwise.nil, .inl rfl⟩
   par := fun x hx => by
    rcases List.mem_append.1 hx with hx | hx
    ·exact h.par x hx
    ·obtain rfl := List.mem_singleton.1 hx
     show f.a ≤ (m.parts.length : Int)
     rcases Int.lt_or_le 0 f.a with p | p
     ·have := (q4 p).1; omega
     ·omega
   seq := seqS_app _ _ _ h.seq (by
    have h1 := h.nx; rw [nextS_last]
    show _ ≤ f.s
    split
    ·next q => rw [q] at h1; simp [lastS] at h1; omega
    ·omega)
   dis := List.pairwise_append.2 ⟨h.dis, List.pairwise_singleton _ _, fun x hx y hy hy0 => by
    obtain rfl := List.mem_singleton.1 hy; have hy1 : f.a ≠ 0 := hy0; have hp : 0 < f.a := by omega
    exact child_ne hp (by simpa using (q4 hp).2) x hx⟩
   l8 := by simp; omega
   p := h.p
   p8 := h.p8
   nx := by rw [lastS_app]; exact Int.le_refl _
   last := .inl (by rw [lastS_app]; show f.s = f.s + 1 - 1; omega) }
theorem keep_join {m m2 : StM} {f : FX} (h : OkS m) (hr : rightF f = true) (hk : f.k = 6) (hd : doS m f = some m2) : OkS m2 := by
 unfold doS at hd; rw [if_neg (by omega), if_pos hk] at hd
 split at hd
 ·cases hd
 ·next q =>
  obtain rfl := Option.some.inj hd; obtain ⟨r1, r2, r3⟩ := inv_joi hr hk; have q2 : f.p = m.parts.length := by omega
  refine h.setP (by simp) (by simp; omega) fun x hx => ?_
  rcases List.mem_append.1 hx with hx | hx
  ·exact h.p x hx
  ·obtain rfl := List.mem_singleton.1 hx; exact ⟨r1, show (-1 : Int) ≤ -1 by decide, show (-1 : Int) ≤ 5 by decide, okz_new r3 (.inr rfl)⟩
theorem keep_place {m m2 : StM} {f : FX} (h : OkS m) (hr : rightF f = true) (hk : f.k = 7) (hd : doS m f = some m2) : OkS m2 := by
 unfold doS at hd; rw [if_neg (by omega), if_neg (by omega), if_pos hk] at hd
 split at hd
 ·cases hd
 ·next x hx =>
  split at hd
  ·cases hd
  ·obtain rfl := Option.some.inj hd; obtain ⟨r1, r2⟩ := inv_pla hr hk; have ho := h.p x (List.mem_of_getElem? hx); refine h.setP (by simp) (by have := h.p8; simp; omega) fun y hy => ?_
   rcases mem_set hy with q | rfl
   ·exact h.p y q
   ·exact ⟨ho.1, by show -1 ≤ f.r; omega, r2, ho.2.2.2⟩
theorem keep_turn {m m2 : StM} {f : FX} (h : OkS m) (hk : f.k = 8) (hd : doS m f = some m2) : OkS m2 := by
 unfold doS at hd; rw [if_neg (by omega), if_neg (by omega), if_neg (by omega), if_pos hk] at hd
 split at hd
 ·cases hd
 ·next x hx =>
  obtain ⟨z, hz, rfl⟩ := Option.map_eq_some_iff.1 hd; have ho := h.p x (List.mem_of_getElem? hx); refine h.setP (by simp) (by have := h.p8; simp; omega) fun y hy => ?_
  rcases mem_set hy with q | rfl
  ·exact h.p y q
  ·exact ⟨ho.1, ho.2.1, ho.2.2.1, turnS_ok ho.2.2.2 hz⟩
theorem keep_act {m m2 : StM} {f : FX} {i : Nat} {a : AcM} (h : OkS m) (hr : rightF f = true) (ha : m.acts[i]? = some a) (hd : actS m i a f = some m2) : OkS m2 := by
 have oa := h.a a (List.mem_of_getElem? ha); unfold actS at hd
 split at hd
 ·next k2 =>
  split at hd
  ·cases hd
  ·next q =>
   obtain rfl := Option.some.inj hd; simp only [not_or, Classical.not_not] at q
   obtain ⟨q1, q2, q3⟩ := q; obtain ⟨r1, r2, r3, r4, r5⟩ := inv_enr hr k2; refine h.setA (b := { a with regs := a.regs ++ [⟨f.e, f.p, ⟨f.q, 1, 1, 0⟩⟩] }) ha rfl rfl ⟨oa.n, oa.c, oa.p0, oa.p8, ?_, ?_, ?_, ?_⟩
   ·show (a.regs ++ [_]).length ≤ 6
    rw [List.length_append, List.length_singleton]; omega
   ·intro g hg
    rcases List.mem_append.1 hg with hg | hg
    ·exact oa.g g hg
    ·obtain rfl := List.mem_singleton.1 hg; exact ⟨r3.1, r3.2, r4.1, r4.2, okz_new r5 (.inl rfl)⟩
   ·refine List.pairwise_append.2 ⟨oa.d, List.pairwise_singleton _ _, fun x hx y hy => ?_⟩
    obtain rfl := List.mem_singleton.1 hy; have q4 := List.any_eq_false.1 (Bool.eq_false_iff.2 q3) x hx
    simpa using q4
   ·exact .inl q2
 split at hd
 ·split at hd
  ·cases hd
  ·next g hg =>
   obtain ⟨z, hz, rfl⟩ := Option.map_eq_some_iff.1 hd; have og := oa.g g (List.mem_of_getElem? hg); refine h.setA (b := { a with regs := a.regs.set f.r.toNat { g with z := z } }) ha rfl rfl ⟨oa.n, oa.c, oa.p0, oa.p8, ?_, ?_, ?_, oa.e⟩
   ·show (a.regs.set _ _).length ≤ 6
    rw [List.length_set]; exact oa.l
   ·intro y hy
    rcases mem_set hy with q | rfl
    ·exact oa.g y q
    ·exact ⟨og.1, og.2.1, og.2.2.1, og.2.2.2.1, turnS_ok og.2.2.2.2 hz⟩
   ·have h1 : (a.regs.set f.r.toNat { g with z := z }).map (fun g => (g.node, g.part)) = a.regs.map (fun g => (g.node, g.part)) := by
     refine List.ext_getElem? fun j => ?_
     rw [List.getElem?_map, List.getElem?_map]
     by_cases q : f.r.toNat = j
     ·subst q; rw [List.getElem?_set_self (List.getElem?_eq_some_iff.1 hg).1, hg]
      rfl
     ·rw [List.getElem?_set_ne q]
    have h2 : (a.regs.map (fun g : RgM => (g.node, g.part))).Pairwise (fun x y => ¬ (x.1 = y.1 ∧ x.2 = y.2)) := List.pairwise_map.2 oa.d; rw [← h1] at h2; exact List.pairwise_map.1 h2
 split at hd
 ·next k4 =>
  split at hd
  ·cases hd
  ·next q =>
   obtain rfl := Option.some.inj hd; simp only [not_or, Classical.not_not] at q
   exact h.setA (b := { a with dec := f.c }) ha rfl rfl ⟨oa.n, oa.c, oa.p0, oa.p8, oa.l, oa.g, oa.d, .inr ⟨inv_dec hr k4, q.1⟩⟩
 split at hd
 ·split at hd
  ·cases hd
  ·obtain rfl := Option.some.inj hd; have hi := (List.getElem?_eq_some_iff.1 ha).1; have hne : m.acts ≠ [] := fun q => by rw [q] at hi; simp at hi
   have hlt := h.lt; have h7 : (m.acts.eraseIdx i).length ≤ 7 := by rw [List.length_eraseIdx_of_lt hi]; have := h.l8; omega
   exact {
    n := h.n
    a := fun x hx => h.a x (List.mem_of_mem_eraseIdx hx)
    par := fun x hx => h.par x (List.mem_of_mem_eraseIdx hx)
    seq := seqS_erase _ _ _ h.seq
    dis := h.dis.sublist (List.eraseIdx_sublist _ _)
    l8 := by show (m.acts.eraseIdx i).length ≤ 8; omega
    p := h.p
    p8 := h.p8
    nx := by
     show lastS (m.acts.eraseIdx i) + 1 ≤ m.next
     by_cases q : m.acts.eraseIdx i = []
     ·rw [q]; have h1 := seqS_lt.seqS_le m.acts 0 h.seq; have h2 := h.nx; rw [nextS_last, if_neg hne] at h1
      show (-1 : Int) + 1 ≤ m.next
      omega
     ·obtain ⟨x, hx, hl⟩ := lastS_mem q; have := hlt x (List.mem_of_mem_eraseIdx hx); omega
    last := .inr ⟨h7, by
     rcases h.last with q | ⟨_, q⟩
     ·obtain ⟨x, hx, hl⟩ := lastS_mem hne; have ox := h.a x hx; have := rightX_act ox.c; rw [ox.n] at this; rw [← q, hl]; exact this
     ·exact q⟩ }
 ·obtain rfl := Option.some.inj hd; exact h
theorem keepS {m m2 : StM} {f : FX} (h : OkS m) (hr : rightF f = true) (hd : doS m f = some m2) : OkS m2 := by
 by_cases k1 : f.k = 1
 ·exact keep_open h hr k1 hd
 by_cases k6 : f.k = 6
 ·exact keep_join h hr k6 hd
 by_cases k7 : f.k = 7
 ·exact keep_place h hr k7 hd
 by_cases k8 : f.k = 8
 ·exact keep_turn h k8 hd
 unfold doS at hd; rw [if_neg k1, if_neg k6, if_neg k7, if_neg k8] at hd
 split at hd
 ·cases hd
 ·next i _ =>
  split at hd
  ·cases hd
  ·next a ha => exact keep_act h hr ha hd
theorem newSt_ok {n : Int} (h : 0 ≤ n ∧ n ≤ 3) : OkS (newSt n) where
 n := h
 a := fun _ hx => by cases hx
 par := fun _ hx => by cases hx
 seq := trivial
 dis := List.Pairwise.nil
 l8 := by show 0 ≤ 8; decide
 p := fun _ hx => by cases hx
 p8 := by show 0 ≤ 8; decide
 nx := by show (-1 : Int) + 1 ≤ 0; decide
 last := .inl rfl
theorem fS {l : List AcM} {n s : Int} {i : Nat} (h : findS l n s = some i) : ∃ a, l[i]? = some a ∧ a.c.n = n ∧ a.c.s = s := by
 unfold findS at h; obtain ⟨hi, h2, _⟩ := List.findIdx?_eq_some_iff_getElem.1 h; exact ⟨l[i], List.getElem?_eq_getElem hi, by simpa using h2⟩
theorem find_set {l : List AcM} {n s : Int} {i : Nat} {a b : AcM} (h : findS l n s = some i) (ha : l[i]? = some a) (hc : b.c = a.c) : findS (l.set i b) n s = some i := by
 unfold findS at h ⊢; rw [List.findIdx?_eq_some_iff_getElem] at h ⊢; obtain ⟨hi, h1, h2⟩ := h; have e : l[i] = a := by rw [List.getElem?_eq_getElem hi] at ha; exact Option.some.inj ha
 refine ⟨by rw [List.length_set]; exact hi, ?_, fun j hj => ?_⟩
 ·rw [List.getElem_set_self, hc, ← e]; exact h1
 ·rw [List.getElem_set_ne (by omega)]; exact h2 j hj
theorem seqS_ge : ∀ (l : List AcM) (nx : Int), seqS nx l → ∀ x ∈ l, nx ≤ x.c.s
 | a :: l, nx, h, x, hx => by
  rcases List.mem_cons.1 hx with rfl | hx
  ·exact h.1
  ·have := seqS_ge l _ h.2 x hx; have := h.1; omega
theorem seqS_gone : ∀ (l : List AcM) (nx : Int) (i : Nat) (a : AcM), seqS nx l → l[i]? = some a → ∀ x ∈ l.eraseIdx i, x.c.s ≠ a.c.s
 | [], _, _, _, _, h, _, _ => by simp at h
 | y :: l, nx, 0, a, hs, h, x, hx => by
  obtain rfl : y = a := by simpa using h
  have := seqS_ge l _ hs.2 x hx; omega
 | y :: l, nx, i + 1, a, hs, h, x, hx => by
  have ha : l[i]? = some a := by simpa using h
  rcases List.mem_cons.1 hx with rfl | hx
  ·have := seqS_ge l _ hs.2 a (List.mem_of_getElem? ha); omega
  ·exact seqS_gone l _ i a hs.2 ha x hx
theorem kind_of {f : FX} (h : rightF f = true) : 1 ≤ f.k ∧ f.k ≤ 8 := by
 have := okF_of h; unfold okF at this
 repeat' split at this
 all_goals first | omega | cases this
structure MM where
 k : Int
 f : Int
 t : Int
 n : Int
 s : Int
 r : Int
 p : Int
 o : Int
 c : Int
deriving DecidableEq
def MM.cells (m : MM) : Array Value := #[.int .i64 m.k, .int .i64 m.f, .int .i64 m.t, .int .i64 m.n, .int .i64 m.s, .int .i64 m.r, .int .i64 m.p, .int .i64 m.o, .int .i64 m.c]
def rightM (m : MM) : Bool :=
 decide (1 ≤ m.k ∧ m.k ≤ 19 ∧ 0 ≤ m.f ∧ m.f ≤ 3 ∧ 0 ≤ m.t ∧ m.t ≤ 3) && rightA m.n m.s && decide (0 ≤ m.r ∧ m.r ≤ 5 ∧ 0 ≤ m.p ∧ m.p ≤ 7) &&
 (if m.k = 17 then decide (m.r = 0 ∧ m.c = 0 ∧ (m.o = 1 ∨ m.o = 2)) else if m.k = 18 then decide (m.c = 0 ∧ (m.o = 1 ∨ m.o = 2)) else if m.k = 19 then decide (m.o = 0 ∧ 1 ≤ m.c ∧ m.c ≤ 5) else if m.k = 16 then decide (m.o = 0 ∧ 1 ≤ m.c ∧ m.c ≤ 14) else decide (m.o = 0 ∧ m.c = 0))
def downM (k : Int) : Bool := decide (k = 2 ∨ 9 ≤ k ∧ k ≤ 14)
def upM (k : Int) : Bool := decide (k = 1 ∨ 3 ≤ k ∧ k ≤ 8)
def answerM (m : MM) (k c : Int) : MM := ⟨k, m.t, m.f, m.n, m.s, m.r, m.p, 0, c⟩
structure RsM where
 (facts : List FX) (send : List MM) (work : Int)
def rs0 : RsM := ⟨[], [], 0⟩
def msgP (nd : Int) (x : PaM) (part reg k : Int) : MM := ⟨k, nd, x.n, x.n, x.s, reg, part, 0, 0⟩
def fxPlaced (part reg : Int) : FX := ⟨7, 0, 0, reg, 0, part, 0, 0, 0, 0, 0, 0, 0, 0⟩
def fxTurned (part t h : Int) : FX := ⟨8, 0, 0, 0, 0, part, 0, 0, 0, 0, t, h, 0, 0⟩
def prtP (m : StM) (i : Int) : Option PaM := if 0 ≤ i then m.parts[i.toNat]? else none
def placeP (x : PaM) (g : MM) : List FX := if x.reg < 0 then [fxPlaced g.p g.r] else []
def seatP (nd : Int) (x : PaM) (g : MM) (y : EffM) : RsM :=
 ⟨placeP x g ++ (if y.changed = true then [fxTurned g.p y.z.s y.z.h] else []), (if y.send ≠ 0 then [msgP nd x g.p g.r y.send] else []) ++ (if y.fault ≠ 0 then [answerM g 19 y.fault] else []), y.work⟩
open Go.RowKit Go.ChangeShapes Go.WideShapes
theorem cells9 {b : Nat} {t : TypeId} {w : World} {x0 x1 x2 x3 x4 x5 x6 x7 x8 : Value} (h : w.heap[b]? = some (.cells #[x0, x1, x2, x3, x4, x5, x6, x7, x8] t (0, 0))) : w.cell? ⟨b, 0, none⟩ = some x0 ∧ w.cell? ⟨b, 1, none⟩ = some x1 ∧ w.cell? ⟨b, 2, none⟩ = some x2 ∧ w.cell? ⟨b, 3, none⟩ = some x3 ∧ w.cell? ⟨b, 4, none⟩ = some x4 ∧ w.cell? ⟨b, 5, none⟩ = some x5 ∧ w.cell? ⟨b, 6, none⟩ = some x6 ∧ w.cell? ⟨b, 7, none⟩ = some x7 ∧ w.cell? ⟨b, 8, none⟩ = some x8 := by
 refine ⟨?_, ?_, ?_, ?_, ?_, ?_, ?_, ?_, ?_⟩ <;> (unfold World.cell?; dsimp only; rw [h]; rfl)
theorem set9 {b : Nat} {t : TypeId} {w : World} {x0 x1 x2 x3 x4 x5 x6 x7 x8 : Value} (y0 y1 y2 y3 y4 y5 y6 y7 y8 : Value) (h : w.heap[b]? = some (.cells #[x0, x1, x2, x3, x4, x5, x6, x7, x8] t (0, 0))) : (((((((((w.setCell ⟨b, 0, none⟩ y0).setCell ⟨b, 1, none⟩ y1).setCell ⟨b, 2, none⟩ y2).setCell ⟨b, 3, none⟩ y3).setCell ⟨b, 4, none⟩ y4).setCell ⟨b, 5, none⟩ y5).setCell ⟨b, 6, none⟩ y6).setCell ⟨b, 7, none⟩ y7).setCell ⟨b, 8, none⟩ y8).heap[b]? = some (.cells #[y0, y1, y2, y3, y4, y5, y6, y7, y8] t (0, 0)) := by
 have h1 : (w.setCell ⟨b, 0, none⟩ y0).heap[b]? = some (.cells #[y0, x1, x2, x3, x4, x5, x6, x7, x8] t (0, 0)) := (Joins.block_setCell h _).trans rfl; have h2 : ((w.setCell ⟨b, 0, none⟩ y0).setCell ⟨b, 1, none⟩ y1).heap[b]? = some (.cells #[y0, y1, x2, x3, x4, x5, x6, x7, x8] t (0, 0)) := (Joins.block_setCell h1 _).trans rfl; have h3 : (((w.setCell ⟨b, 0, none⟩ y0).setCell ⟨b, 1, none⟩ y1).setCell ⟨b, 2, none⟩ y2).heap[b]? = some (.cells #[y0, y1, y2, x3, x4, x5, x6, x7, x8] t (0, 0)) := (Joins.block_setCell h2 _).trans rfl; have h4 : ((((w.setCell ⟨b, 0, none⟩ y0).setCell ⟨b, 1, none⟩ y1).setCell ⟨b, 2, none⟩ y2).setCell ⟨b, 3, none⟩ y3).heap[b]? = some (.cells #[y0, y1, y2, y3, x4, x5, x6, x7, x8] t (0, 0)) := (Joins.block_setCell h3 _).trans rfl; have h5 : (((((w.setCell ⟨b, 0, none⟩ y0).setCell ⟨b, 1, none⟩ y1).setCell ⟨b, 2, none⟩ y2).setCell ⟨b, 3, none⟩ y3).setCell ⟨b, 4, none⟩ y4).heap[b]? = some (.cells #[y0, y1, y2, y3, y4, x5, x6, x7, x8] t (0, 0)) := (Joins.block_setCell h4 _).trans rfl
 have h6 : ((((((w.setCell ⟨b, 0, none⟩ y0).setCell ⟨b, 1, none⟩ y1).setCell ⟨b, 2, none⟩ y2).setCell ⟨b, 3, none⟩ y3).setCell ⟨b, 4, none⟩ y4).setCell ⟨b, 5, none⟩ y5).heap[b]? = some (.cells #[y0, y1, y2, y3, y4, y5, x6, x7, x8] t (0, 0)) := (Joins.block_setCell h5 _).trans rfl; have h7 : (((((((w.setCell ⟨b, 0, none⟩ y0).setCell ⟨b, 1, none⟩ y1).setCell ⟨b, 2, none⟩ y2).setCell ⟨b, 3, none⟩ y3).setCell ⟨b, 4, none⟩ y4).setCell ⟨b, 5, none⟩ y5).setCell ⟨b, 6, none⟩ y6).heap[b]? = some (.cells #[y0, y1, y2, y3, y4, y5, y6, x7, x8] t (0, 0)) := (Joins.block_setCell h6 _).trans rfl; have h8 : ((((((((w.setCell ⟨b, 0, none⟩ y0).setCell ⟨b, 1, none⟩ y1).setCell ⟨b, 2, none⟩ y2).setCell ⟨b, 3, none⟩ y3).setCell ⟨b, 4, none⟩ y4).setCell ⟨b, 5, none⟩ y5).setCell ⟨b, 6, none⟩ y6).setCell ⟨b, 7, none⟩ y7).heap[b]? = some (.cells #[y0, y1, y2, y3, y4, y5, y6, y7, x8] t (0, 0)) := (Joins.block_setCell h7 _).trans rfl
 have h9 : (((((((((w.setCell ⟨b, 0, none⟩ y0).setCell ⟨b, 1, none⟩ y1).setCell ⟨b, 2, none⟩ y2).setCell ⟨b, 3, none⟩ y3).setCell ⟨b, 4, none⟩ y4).setCell ⟨b, 5, none⟩ y5).setCell ⟨b, 6, none⟩ y6).setCell ⟨b, 7, none⟩ y7).setCell ⟨b, 8, none⟩ y8).heap[b]? = some (.cells #[y0, y1, y2, y3, y4, y5, y6, y7, y8] t (0, 0)) := (Joins.block_setCell h8 _).trans rfl; exact h9
theorem set9_kp {b : Nat} {w0 w : World} (hk : Kp w0 w) (hb : w0.heap.size ≤ b) (y0 y1 y2 y3 y4 y5 y6 y7 y8 : Value) : Kp w0 (((((((((w.setCell ⟨b, 0, none⟩ y0).setCell ⟨b, 1, none⟩ y1).setCell ⟨b, 2, none⟩ y2).setCell ⟨b, 3, none⟩ y3).setCell ⟨b, 4, none⟩ y4).setCell ⟨b, 5, none⟩ y5).setCell ⟨b, 6, none⟩ y6).setCell ⟨b, 7, none⟩ y7).setCell ⟨b, 8, none⟩ y8) := by
 refine Below.setCell ?_ hb _
 refine Below.setCell ?_ hb _
 refine Below.setCell ?_ hb _
 refine Below.setCell ?_ hb _
 refine Below.setCell ?_ hb _
 refine Below.setCell ?_ hb _
 refine Below.setCell ?_ hb _
 refine Below.setCell ?_ hb _
 refine Below.setCell ?_ hb _
 exact hk
theorem ext_bits (b : Nat) (w : World) : (callFunc 143 #[.float .f64 b]).run Tryz.prog w = .ok (.value (.int .u64 b)) w := by
 rw [run_callFunc_extern (e := Extern.MathFloatBits.float64bits) Tryz.func143 (by kernel_rfl) (by kernel_rfl) (by kernel_rfl) (by kernel_rfl)]
 rfl
theorem and62 {b : Nat} (hb : b < 18446744073709551616) : bits .and .u64 (b : Int) 9223372036854775807 = ((b % 9223372036854775808 : Nat) : Int) := by
 rw [show (9223372036854775807 : Int) = ((9223372036854775807 : Nat) : Int) from rfl, u64_and_nat b _ hb (by omega), show (9223372036854775807 : Nat) = 2 ^ 63 - 1 from rfl, Nat.and_two_pow_sub_one_eq_mod]
theorem isNaN_any (b : Nat) (w : World) (hb : b < 18446744073709551616) :
  Calls Tryz.prog 156 #[.float .f64 b] w fun e w' => e = .returned (.bool (Fl.isNan b)) ∧ w = w' := by
 go_enter Tryz.func156, Tryz.ntmps156; go_wp2; go_ret; exact ⟨by rw [← Fl.test_self hb]; rfl, rfl⟩
theorem isNaN_t (b : Nat) (w : World) (hb : b < 18446744073709551616) (h : Fl.isNan b = true) :
  Calls Tryz.prog 156 #[.float .f64 b] w fun e w' => e = .returned (.bool true) ∧ w = w' := by
 rw [← h]; exact isNaN_any b w hb
theorem isNaN_f (b : Nat) (w : World) (hb : b < 18446744073709551616) (h : Fl.isNan b = false) :
  Calls Tryz.prog 156 #[.float .f64 b] w fun e w' => e = .returned (.bool false) ∧ w = w' := by
 rw [← h]; exact isNaN_any b w hb
theorem u64_ret {a b : Int} (h : a = b) : Ending.returned (.int .u64 a) = .returned (.int .u64 b) := by rw [h]
theorem bool_ret {a b : Bool} (h : a = b) : Ending.returned (.bool a) = .returned (.bool b) := by rw [h]
theorem raw_any (b : Nat) (w : World) :
  Calls Tryz.prog 104 #[.float .f64 b] w fun e w' => e = .returned (.int .u64 b) ∧ w = w' := by
 have e1 := ext_bits; go_enter Tryz.func104, Tryz.ntmps104; go_wp2; go_ret; exact ⟨rfl, rfl⟩
theorem refNaN_any (b : Nat) (w : World) (hb : b < 18446744073709551616) :
  Calls Tryz.prog 103 #[.float .f64 b] w fun e w' => e = .returned (.bool (Fl.isNan b)) ∧ w = w' := by
 have e1 := hD (and62 hb); go_enter Tryz.func103, Tryz.ntmps103; go_wp2_with (go_at_call 104; refine (raw_any _ _).mono ?_; rintro e w' ⟨rfl, rfl⟩)
 go_ret; exact ⟨bool_ret (by rw [e1.out]; unfold Fl.isNan; rw [Bool.eq_iff_iff]; simp; omega), rfl⟩
theorem refNaN_t (b : Nat) (w : World) (hb : b < 18446744073709551616) (h : Fl.isNan b = true) :
  Calls Tryz.prog 103 #[.float .f64 b] w fun e w' => e = .returned (.bool true) ∧ w = w' := by
 rw [← h]; exact refNaN_any b w hb
theorem refNaN_f (b : Nat) (w : World) (hb : b < 18446744073709551616) (h : Fl.isNan b = false) :
  Calls Tryz.prog 103 #[.float .f64 b] w fun e w' => e = .returned (.bool false) ∧ w = w' := by
 rw [← h]; exact refNaN_any b w hb
theorem ext_fromI (n : Int) (w : World) : (callFunc 157 #[.int .u64 n]).run Tryz.prog w = .ok (.value (.float .f64 n.toNat)) w := by
 rw [run_callFunc_extern (e := Extern.MathFloatBits.float64frombits) Tryz.func157 (by kernel_rfl) (by kernel_rfl) (by kernel_rfl) (by kernel_rfl)]
 rfl
theorem f64_ret {a b : Nat} (h : a = b) : Ending.returned (.float .f64 a) = .returned (.float .f64 b) := by rw [h]
theorem eq0 {b : Nat} (hb : b < 18446744073709551616) : (FloatKind.f64.format.order b 0 == some .eq) = (decide (b = 0) || decide (b = 9223372036854775808)) := by
 rw [← Fl.isEq0 hb]; exact Fl.test_eq hb (by omega)
theorem ge0 {b : Nat} (hb : b < 18446744073709551616) : (FloatKind.f64.format.order b 0 == some .gt || FloatKind.f64.format.order b 0 == some .eq) = Fl.dl b := by
 rw [← Fl.isGe0 hb]; have e1 := Fl.test_gt hb (show 0 < 18446744073709551616 by omega); have e2 := Fl.test_eq hb (show 0 < 18446744073709551616 by omega); rw [← e1, ← e2]; rfl
theorem plain_any (b : Nat) (w : World) (hb : b < 18446744073709551616) :
  Calls Tryz.prog 96 #[.float .f64 b] w fun e w' => e = .returned (.float .f64 (Fl.plain b)) ∧ w = w' := by
 have e1 := ext_fromI
 cases hn : Fl.isNan b
 ·cases ht : (decide (b = 0) || decide (b = 9223372036854775808))
  ·have t1 : (FloatKind.f64.format.order b 0 == some .eq) = false := by rw [eq0 hb]; exact ht
   obtain ⟨HT, HB⟩ := hD2 ht hb; clear ht hb; go_enter Tryz.func96, Tryz.ntmps96; go_wp2_with (go_at_call 156; refine (isNaN_f _ _ HB.out hn).mono ?_; rintro e w' ⟨rfl, rfl⟩)
   go_ret; exact ⟨f64_ret (by have := HT.out; simp at this; unfold Fl.plain; rw [hn, if_neg (by simp), if_neg (by omega)]), rfl⟩
  ·have t1 : (FloatKind.f64.format.order b 0 == some .eq) = true := by rw [eq0 hb]; exact ht
   obtain ⟨HT, HB⟩ := hD2 ht hb; clear ht hb; go_enter Tryz.func96, Tryz.ntmps96; go_wp2_with (go_at_call 156; refine (isNaN_f _ _ HB.out hn).mono ?_; rintro e w' ⟨rfl, rfl⟩)
   go_ret; exact ⟨f64_ret (by have := HT.out; simp at this; unfold Fl.plain; rw [hn, if_neg (by simp)]; split <;> omega), rfl⟩
 ·go_enter Tryz.func96, Tryz.ntmps96; go_wp2_with (go_at_call 156; refine (isNaN_t _ _ hb hn).mono ?_; rintro e w' ⟨rfl, rfl⟩)
  go_ret; exact ⟨f64_ret (by unfold Fl.plain; rw [if_pos hn]), rfl⟩
theorem isDelay_any (b : Nat) (w : World) (hb : b < 18446744073709551616) :
  Calls Tryz.prog 155 #[.float .f64 b] w fun e w' => e = .returned (.bool (Fl.dl b)) ∧ w = w' := by
 go_enter Tryz.func155, Tryz.ntmps155; go_wp2; go_ret; exact ⟨bool_ret (ge0 hb), rfl⟩
theorem isDelay_t (b : Nat) (w : World) (hb : b < 18446744073709551616) (h : Fl.dl b = true) :
  Calls Tryz.prog 155 #[.float .f64 b] w fun e w' => e = .returned (.bool true) ∧ w = w' := by
 rw [← h]; exact isDelay_any b w hb
theorem isDelay_f (b : Nat) (w : World) (hb : b < 18446744073709551616) (h : Fl.dl b = false) :
  Calls Tryz.prog 155 #[.float .f64 b] w fun e w' => e = .returned (.bool false) ∧ w = w' := by
 rw [← h]; exact isDelay_any b w hb
theorem refBits_any (b : Nat) (w : World) (hb : b < 18446744073709551616) :
  Calls Tryz.prog 45 #[.float .f64 b] w fun e w' => e = .returned (.int .u64 (Fl.plain b)) ∧ w = w' := by
 cases hn : Fl.isNan b
 ·obtain ⟨n, hbn⟩ : ∃ n : Int, (b : Int) = n := ⟨_, rfl⟩
  obtain ⟨HB, HN⟩ := hD2 hb hbn; have R : ∀ w, Calls Tryz.prog 104 #[.float .f64 b] w fun e w' => e = .returned (.int .u64 n) ∧ w = w' := by
   intro w; rw [← hbn]; exact raw_any b w
  cases ht : (n == 9223372036854775808)
  ·clear hb hbn; go_enter Tryz.func45, Tryz.ntmps45; go_wp2_with (first | (go_at_call 103; (with_reducible refine (refNaN_f _ _ HB.out hn).mono ?_); rintro e w' ⟨rfl, rfl⟩) | (go_at_call 104; (with_reducible refine (R _).mono ?_); rintro e w' ⟨rfl, rfl⟩))
   go_ret; exact ⟨u64_ret (by (have := HN.out; have hz : n ≠ 9223372036854775808 := by simpa using ht); unfold Fl.plain; rw [hn, if_neg (by simp), if_neg (by omega)]; omega), rfl⟩
  ·clear hb hbn; go_enter Tryz.func45, Tryz.ntmps45; go_wp2_with (first | (go_at_call 103; (with_reducible refine (refNaN_f _ _ HB.out hn).mono ?_); rintro e w' ⟨rfl, rfl⟩) | (go_at_call 104; (with_reducible refine (R _).mono ?_); rintro e w' ⟨rfl, rfl⟩))
   go_ret; exact ⟨u64_ret (by (have := HN.out; have hz : n = 9223372036854775808 := by simpa using ht); unfold Fl.plain; rw [hn, if_neg (by simp), if_pos (by omega)]; rfl), rfl⟩
 ·go_enter Tryz.func45, Tryz.ntmps45; go_wp2_with (go_at_call 103; (with_reducible refine (refNaN_t _ _ hb hn).mono ?_); rintro e w' ⟨rfl, rfl⟩)
  go_ret; exact ⟨u64_ret (by unfold Fl.plain; rw [if_pos hn]; rfl), rfl⟩
theorem refDelay_any (b : Nat) (w : World) (hb : b < 18446744073709551616) :
  Calls Tryz.prog 99 #[.float .f64 b] w fun e w' => e = .returned (.bool (Fl.dl b)) ∧ w = w' := by
 cases hn : Fl.isNan b
 ·obtain ⟨n, hbn⟩ : ∃ n : Int, (b : Int) = n := ⟨_, rfl⟩
  obtain ⟨HB, HN⟩ := hD2 hb hbn; have R : ∀ w, Calls Tryz.prog 104 #[.float .f64 b] w fun e w' => e = .returned (.int .u64 n) ∧ w = w' := by
   intro w; rw [← hbn]; exact raw_any b w
  have D : Fl.dl b = decide (n ≤ 9223372036854775808) := by
   unfold Fl.dl; rw [hn, Bool.eq_iff_iff]; simp; omega
  rw [D]
  by_cases hs : n < 9223372036854775808
  ·clear hb hbn; go_enter Tryz.func99, Tryz.ntmps99; go_wp2_with (first | (go_at_call 103; (with_reducible refine (refNaN_f _ _ HB.out hn).mono ?_); rintro e w' ⟨rfl, rfl⟩) | (go_at_call 104; (with_reducible refine (R _).mono ?_); rintro e w' ⟨rfl, rfl⟩))
   go_ret; exact ⟨bool_ret (by simp; omega), rfl⟩
  ·cases ht : (n == 9223372036854775808)
   ·clear hb hbn; go_enter Tryz.func99, Tryz.ntmps99; go_wp2_with (first | (go_at_call 103; (with_reducible refine (refNaN_f _ _ HB.out hn).mono ?_); rintro e w' ⟨rfl, rfl⟩) | (go_at_call 104; (with_reducible refine (R _).mono ?_); rintro e w' ⟨rfl, rfl⟩))
    go_ret; exact ⟨bool_ret (by (have hz : n ≠ 9223372036854775808 := by simpa using ht); rw [Bool.eq_iff_iff]; simp; omega), rfl⟩
   ·clear hb hbn; go_enter Tryz.func99, Tryz.ntmps99; go_wp2_with (first | (go_at_call 103; (with_reducible refine (refNaN_f _ _ HB.out hn).mono ?_); rintro e w' ⟨rfl, rfl⟩) | (go_at_call 104; (with_reducible refine (R _).mono ?_); rintro e w' ⟨rfl, rfl⟩))
    go_ret; exact ⟨bool_ret (by (have hz : n = 9223372036854775808 := by simpa using ht); rw [Bool.eq_iff_iff]; simp; omega), rfl⟩
 ·have D : Fl.dl b = false := by unfold Fl.dl; rw [hn]; rfl
  rw [D]; go_enter Tryz.func99, Tryz.ntmps99; go_wp2_with (go_at_call 103; (with_reducible refine (refNaN_t _ _ hb hn).mono ?_); rintro e w' ⟨rfl, rfl⟩)
  go_ret; exact ⟨rfl, rfl⟩
theorem delay_ok (b : Nat) (w : World) (h : Fl.dl b = true) :
  Calls Tryz.prog 158 #[.float .f64 b] w fun e w' => e = .returned (.tuple #[.float .f64 (Fl.plain b), .nilIface]) ∧ w = w' := by
 have H := hD h; clear h; go_enter Tryz.func158, Tryz.ntmps158; go_wp2_with (first | (go_at_call 155; (with_reducible refine (isDelay_t b _ (Fl.dl_lt H.out) H.out).mono ?_); rintro e w' ⟨rfl, rfl⟩) | (go_at_call 96; (with_reducible refine (plain_any b _ (Fl.dl_lt H.out)).mono ?_); rintro e w' ⟨rfl, rfl⟩))
 go_ret2
 exact ⟨rfl, rfl⟩
theorem delay_err (b : Nat) (v : Value) (w : World) (hb : b < 18446744073709551616) (h : Fl.dl b = false) (hc : w.cell? ⟨3, 0, none⟩ = some v) :
  Calls Tryz.prog 158 #[.float .f64 b] w fun e w' => e = .returned (.tuple #[.float .f64 0, v]) ∧ Kp w w' := by
 have H := hD h; clear h; go_enter Tryz.func158, Tryz.ntmps158; go_wp2_with (first | (go_at_call 155; (with_reducible refine (isDelay_f b _ hb H.out).mono ?_); rintro e w' ⟨rfl, rfl⟩))
 go_region
 all_goals go_wp2
 all_goals go_ret2
 all_goals exact ⟨rfl, (Kp.refl _).drew⟩
end Go.Proofs.YtlmlmhmhgdjhnaaGreatDoor
