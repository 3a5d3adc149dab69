/- Parts of this proof (own work). -/
import Derived.Test.YtpemeenfhkgmpaaGreatDoorZf15
set_option maxRecDepth 100000
set_option maxHeartbeats 40000000
namespace Go.Proofs.YtpemeenfhkgmpaaGreatDoor
open Go.RowKit
def stepS (m : StM) (f : FX) : Option StM := if rightF f = true then doS m f else none
def runS (m : StM) : List FX → Option StM
 | [] => some m
 | f :: l => (stepS m f).bind fun m2 => runS m2 l
theorem runS_app : ∀ (a b : List FX) (m : StM), runS m (a ++ b) = (runS m a).bind fun m2 => runS m2 b
 | [], _, _ => rfl
 | f :: a, b, m => by
  show (stepS m f).bind _ = ((stepS m f).bind _).bind _
  cases stepS m f with
  | none => rfl
  | some m2 => exact runS_app a b m2
theorem right_open {n s o d a : Int} {x : Nat} (h : rightX ⟨n, s, o, d, x⟩ = true) (ha : 0 ≤ a ∧ a ≤ 8) : rightF ⟨1, n, s, 0, 0, 0, 0, o, d, a, 0, 0, 0, x⟩ = true := by
 simp [rightF, restF, namedF, FX.nums, okF, ctxF, h, ha]
theorem right_enr {n s r e p q : Int} (h : rightA n s = true) (hr : 0 ≤ r ∧ r ≤ 5) (he : 0 ≤ e ∧ e ≤ 3) (hp : 0 ≤ p ∧ p ≤ 7) (hq : q = 1 ∨ q = 2) : rightF ⟨2, n, s, r, e, p, q, 0, 0, 0, 0, 0, 0, 0⟩ = true := by
 simp [rightF, restF, namedF, FX.nums, okF, h, hr, he, hp, hq]
theorem right_sea {n s r t hh : Int} (h : rightA n s = true) (hr : 0 ≤ r ∧ r ≤ 5) (ht : seatX t hh = true) : rightF ⟨3, n, s, r, 0, 0, 0, 0, 0, 0, t, hh, 0, 0⟩ = true := by
 simp [rightF, restF, namedF, FX.nums, okF, h, hr, ht]
theorem right_dec {n s c : Int} (h : rightA n s = true) (hc : c = 1 ∨ c = 2) : rightF ⟨4, n, s, 0, 0, 0, 0, 0, 0, 0, 0, 0, c, 0⟩ = true := by
 simp [rightF, restF, namedF, FX.nums, okF, h, hc]
theorem right_for {n s : Int} (h : rightA n s = true) : rightF ⟨5, n, s, 0, 0, 0, 0, 0, 0, 0, 0, 0, 0, 0⟩ = true := by
 simp [rightF, restF, namedF, FX.nums, okF, h]
theorem right_joi {n s p q : Int} (h : rightA n s = true) (hp : 0 ≤ p ∧ p ≤ 7) (hq : q = 1 ∨ q = 2) : rightF ⟨6, n, s, 0, 0, p, q, 0, 0, 0, 0, 0, 0, 0⟩ = true := by
 simp [rightF, restF, namedF, FX.nums, okF, h, hp, hq]
theorem right_pla {p r : Int} (hp : 0 ≤ p ∧ p ≤ 7) (hr : 0 ≤ r ∧ r ≤ 5) : rightF ⟨7, 0, 0, r, 0, p, 0, 0, 0, 0, 0, 0, 0, 0⟩ = true := by
 simp [rightF, restF, namedF, FX.nums, okF, hp, hr]
theorem right_tur {p t hh : Int} (hp : 0 ≤ p ∧ p ≤ 7) (ht : seatX t hh = true) : rightF ⟨8, 0, 0, 0, 0, p, 0, 0, 0, 0, t, hh, 0, 0⟩ = true := by
 simp [rightF, restF, namedF, FX.nums, okF, hp, ht]
def OkZ (z : SeatM) (e : Int) : Prop := z.right = true ∧ z.e = e
theorem OkZ.p {z : SeatM} {e : Int} (h : OkZ z e) : z.p = 1 ∨ z.p = 2 := by
 have := h.1
 simp [SeatM.right, rightT] at this
 exact this.1.1.1
theorem OkZ.seat {z : SeatM} {e : Int} (h : OkZ z e) : seatX z.s z.h = true := by
 have h1 := h.1; simp only [SeatM.right, hasT, Bool.and_eq_true] at h1
 obtain ⟨⟨_, h2⟩, h3⟩ := h1; unfold seatX
 by_cases q : z.s = 14
 ·rw [if_pos q] at h3 ⊢; exact h3
 ·rw [if_neg q] at h3 ⊢; have h4 : 1 ≤ z.s ∧ z.s ≤ 14 := by
   split at h2
   ·omega
   ·split at h2
    ·omega
    ·simpa using h2
  simp at h3
  simp [h3]
  omega
theorem OkZ.active {z : SeatM} {e : Int} (h : OkZ z e) (hs : z.s = 1) : z = ⟨z.p, e, 1, 0⟩ := by
 have h1 := h.1; simp only [SeatM.right, Bool.and_eq_true] at h1
 have h3 := h1.2; rw [if_neg (by omega)] at h3; obtain ⟨p, e', s, hh⟩ := z; obtain rfl := h.2
 simp at h3 hs
 simp [h3, hs]
theorem OkZ.turn {z : SeatM} {e : Int} (h : OkZ z e) : turnS ⟨z.p, e, 1, 0⟩ z.s z.h = some z := by
 unfold turnS; obtain ⟨p, e', s, hh⟩ := z; obtain rfl := h.2; exact if_pos ⟨show (1 : Int) ≠ 14 by decide, h.1⟩
def OkP (x : PaM) : Prop := rightA x.n x.s = true ∧ -1 ≤ x.reg ∧ x.reg ≤ 5 ∧ OkZ x.z 2
theorem get_end {α : Type} (P : List α) (x : α) (L : List α) : (P ++ x :: L)[P.length]? = some x := by simp
theorem run_parts : ∀ (L P : List PaM) (node nx : Int) (A : List AcM), (∀ x ∈ L, OkP x) → P.length + L.length ≤ 8 → runS ⟨node, nx, A, P⟩ (factsP P.length L) = some ⟨node, nx, A, P ++ L⟩
 | [], P, node, nx, A, _, _ => by simp [factsP, runS]
 | x :: L, P, node, nx, A, hx, hl => by
  obtain ⟨h1, h2, h3, h4⟩ := hx x List.mem_cons_self; have hl2 : P.length + (L.length + 1) ≤ 8 := by simpa using hl
  have hi : (0 : Int) ≤ (P.length : Int) ∧ (P.length : Int) ≤ 7 := by omega
  have ih := run_parts L (P ++ [x]) node nx A (fun y hy => hx y (List.mem_cons_of_mem _ hy)) (by simp; omega); rw [List.length_append, List.length_singleton, List.append_assoc, List.singleton_append] at ih; obtain ⟨n, s, reg, z⟩ := x; dsimp only at h1 h2 h3 h4; have e1 : stepS ⟨node, nx, A, P⟩ (fxJoined P.length ⟨n, s, reg, z⟩) = some ⟨node, nx, A, P ++ [⟨n, s, -1, ⟨z.p, 2, 1, 0⟩⟩]⟩ := by
   unfold stepS fxJoined; dsimp only; rw [if_pos (right_joi h1 hi h4.p)]; unfold doS
   simp
  have e2 : runS ⟨node, nx, A, P ++ [⟨n, s, -1, ⟨z.p, 2, 1, 0⟩⟩]⟩ (if 0 ≤ reg then [⟨7, 0, 0, reg, 0, P.length, 0, 0, 0, 0, 0, 0, 0, 0⟩] else []) = some ⟨node, nx, A, P ++ [⟨n, s, reg, ⟨z.p, 2, 1, 0⟩⟩]⟩ := by
   by_cases q : 0 ≤ reg
   ·rw [if_pos q]
    show (stepS _ _).bind _ = _
    unfold stepS; rw [if_pos (right_pla hi ⟨q, h3⟩)]; unfold doS
    simp [runS]
   ·rw [if_neg q]; obtain rfl : reg = -1 := by omega
    rfl
  have e3 : runS ⟨node, nx, A, P ++ [⟨n, s, reg, ⟨z.p, 2, 1, 0⟩⟩]⟩ (if z.s ≠ 1 then [⟨8, 0, 0, 0, 0, P.length, 0, 0, 0, 0, z.s, z.h, 0, 0⟩] else []) = some ⟨node, nx, A, P ++ [⟨n, s, reg, z⟩]⟩ := by
   by_cases q : z.s = 1
   ·rw [if_neg (by simpa using q), ← h4.active q]
    rfl
   ·rw [if_pos q]
    show (stepS _ _).bind _ = _
    unfold stepS; rw [if_pos (right_tur hi h4.seat)]; unfold doS
    simp [runS, h4.turn]
  show (stepS _ _).bind _ = _
  rw [e1]
  show runS _ _ = _
  dsimp only; rw [List.append_assoc, runS_app, e2]
  show runS _ _ = _
  rw [runS_app, e3]; exact ih
def OkG (g : RgM) : Prop := 0 ≤ g.node ∧ g.node ≤ 3 ∧ 0 ≤ g.part ∧ g.part ≤ 7 ∧ OkZ g.z 1
theorem find_end {A : List AcM} {a : AcM} {n s : Int} (hA : ∀ x ∈ A, x.c.s ≠ s) (h : a.c.n = n ∧ a.c.s = s) : findS (A ++ [a]) n s = some A.length := by
 unfold findS; rw [List.findIdx?_append]; have h1 : List.findIdx? (fun a : AcM => decide (a.c.n = n ∧ a.c.s = s)) A = none := by
  rw [List.findIdx?_eq_none_iff]; intro x hx
  simpa using fun _ => hA x hx
 rw [h1]
 simp [h]
def actR (g : RgM) : RgM := ⟨g.node, g.part, ⟨g.z.p, 1, 1, 0⟩⟩
theorem run_regs (c : CX) (par nx node : Int) (A : List AcM) (hA : ∀ x ∈ A, x.c.s ≠ c.s) (hc : rightA c.n c.s = true) (P : List PaM) : ∀ (L R : List RgM), (∀ g ∈ L, OkG g) → R.length + L.length ≤ 6 →
  (R ++ L).Pairwise (fun g h => ¬ (g.node = h.node ∧ g.part = h.part)) →
  runS ⟨node, nx, A ++ [⟨c, par, 0, R.map actR⟩], P⟩ (factsR c.n c.s R.length L) = some ⟨node, nx, A ++ [⟨c, par, 0, (R ++ L).map actR⟩], P⟩
 | [], R, _, _, _ => by simp [factsR, runS]
 | g :: L, R, hg, hl, hd => by
  obtain ⟨h1, h2, h3, h4, h5⟩ := hg g List.mem_cons_self; have hl2 : R.length + (L.length + 1) ≤ 6 := by simpa using hl
  have hi : (0 : Int) ≤ (R.length : Int) ∧ (R.length : Int) ≤ 5 := by omega
  have ih := run_regs c par nx node A hA hc P L (R ++ [g]) (fun y hy => hg y (List.mem_cons_of_mem _ hy)) (by simp; omega) (by rw [List.append_assoc]; exact hd); rw [List.length_append, List.length_singleton, List.append_assoc, List.singleton_append] at ih; have hno : (R.map actR).any (fun h => decide (h.node = g.node ∧ h.part = g.part)) = false := by
   rw [List.any_eq_false]; intro y hy; obtain ⟨r, hr, rfl⟩ := List.mem_map.1 hy; have := (List.pairwise_append.1 hd).2.2 r hr g List.mem_cons_self; exact fun q => this (of_decide_eq_true q)
  have e1 : stepS ⟨node, nx, A ++ [⟨c, par, 0, R.map actR⟩], P⟩ ⟨2, c.n, c.s, R.length, g.node, g.part, g.z.p, 0, 0, 0, 0, 0, 0, 0⟩ = some ⟨node, nx, A ++ [⟨c, par, 0, (R ++ [g]).map actR⟩], P⟩ := by
   unfold stepS; rw [if_pos (right_enr hc hi ⟨h1, h2⟩ ⟨h3, h4⟩ h5.p)]; unfold doS; simp only [find_end hA (a := ⟨c, par, 0, R.map actR⟩) ⟨rfl, rfl⟩]
   rw [if_neg (by decide), if_neg (by decide), if_neg (by decide), if_neg (by decide)]; simp only [get_end]
   unfold actS; rw [if_pos rfl, if_neg (by simp only [List.length_map, hno]; simp)]
   simp [actR]
  show (stepS _ _).bind _ = _
  rw [e1]; exact ih
theorem run_seats (c : CX) (par nx node : Int) (A : List AcM) (hA : ∀ x ∈ A, x.c.s ≠ c.s) (hc : rightA c.n c.s = true) (P : List PaM) : ∀ (L R : List RgM), (∀ g ∈ L, OkG g) → R.length + L.length ≤ 6 →
  runS ⟨node, nx, A ++ [⟨c, par, 0, R ++ L.map actR⟩], P⟩ (factsZ c.n c.s R.length L) = some ⟨node, nx, A ++ [⟨c, par, 0, R ++ L⟩], P⟩
 | [], R, _, _ => by simp [factsZ, runS]
 | g :: L, R, hg, hl => by
  obtain ⟨h1, h2, h3, h4, h5⟩ := hg g List.mem_cons_self; have hl2 : R.length + (L.length + 1) ≤ 6 := by simpa using hl
  have hi : (0 : Int) ≤ (R.length : Int) ∧ (R.length : Int) ≤ 5 := by omega
  have ih := run_seats c par nx node A hA hc P L (R ++ [g]) (fun y hy => hg y (List.mem_cons_of_mem _ hy)) (by simp; omega); rw [List.length_append, List.length_singleton, List.append_assoc, List.append_assoc, List.singleton_append, List.singleton_append] at ih; have e1 : runS ⟨node, nx, A ++ [⟨c, par, 0, R ++ (g :: L).map actR⟩], P⟩ (if g.z.s ≠ 1 then [⟨3, c.n, c.s, R.length, 0, 0, 0, 0, 0, 0, g.z.s, g.z.h, 0, 0⟩] else []) = some ⟨node, nx, A ++ [⟨c, par, 0, R ++ g :: L.map actR⟩], P⟩ := by
   by_cases q : g.z.s = 1
   ·rw [if_neg (by simpa using q)]; have e : actR g = g := by
     have := h5.active q; obtain ⟨nd, pt, z⟩ := g; simp only [actR]
     congr 1
     exact this.symm
    rw [List.map_cons, e]
    rfl
   ·rw [if_pos q]
    show (stepS _ _).bind _ = _
    unfold stepS; rw [if_pos (right_sea hc hi h5.seat)]; unfold doS; simp only [find_end hA (a := ⟨c, par, 0, R ++ (g :: L).map actR⟩) ⟨rfl, rfl⟩]
    rw [if_neg (by decide), if_neg (by decide), if_neg (by decide), if_neg (by decide)]; simp only [get_end]
    unfold actS; rw [if_neg (show ¬ (3 : Int) = 2 by decide), if_pos rfl]; simp only [List.map_cons, Int.toNat_natCast, get_end]
    simp [runS, actR, h5.turn]
  show runS _ (_ ++ _) = _
  rw [runS_app, e1]; exact ih
theorem rightX_act {c : CX} (h : rightX c = true) : rightA c.n c.s = true := by
 unfold rightX at h; rw [Bool.and_eq_true] at h; exact h.1
structure OkA (node : Int) (a : AcM) : Prop where
 n : a.c.n = node
 c : rightX a.c = true
 p0 : 0 ≤ a.par
 p8 : a.par ≤ 8
 l : a.regs.length ≤ 6
 g : ∀ g ∈ a.regs, OkG g
 d : a.regs.Pairwise (fun g h => ¬ (g.node = h.node ∧ g.part = h.part))
 e : a.dec = 0 ∨ ((a.dec = 1 ∨ a.dec = 2) ∧ a.c.o = 1)
theorem child_none {A : List AcM} {p : Int} (h : ∀ x ∈ A, x.par ≠ p) : childS A (p - 1) = none := by
 unfold childS
 split
 ·rfl
 ·rw [List.findIdx?_eq_none_iff]; intro x hx; have := h x hx; simp only [decide_eq_false_iff_not]
  omega
theorem run_act {node : Int} {a : AcM} (h : OkA node a) (nx : Int) (A : List AcM) (P : List PaM) (hA : ∀ x ∈ A, x.c.s < nx) (hn : nx ≤ a.c.s) (hl : A.length < 8) (hp : a.par ≤ P.length) (hq : a.par ≠ 0 → ∀ x ∈ A, x.par ≠ a.par) :
  runS ⟨node, nx, A, P⟩ (factsA a) = some ⟨node, a.c.s + 1, A ++ [a], P⟩ := by
 obtain ⟨c, par, dec, regs⟩ := a; obtain ⟨h1, h2, h3, h4, h5, h6, h7, h8⟩ := h; dsimp only at h1 h2 h3 h4 h5 h6 h7 h8 hn hp hq ⊢; have hc := rightX_act h2; have hA2 : ∀ x ∈ A, x.c.s ≠ c.s := fun x hx => by have := hA x hx; omega
 have e1 : stepS ⟨node, nx, A, P⟩ ⟨1, c.n, c.s, 0, 0, 0, 0, c.o, c.d, par, 0, 0, 0, c.x⟩ = some ⟨node, c.s + 1, A ++ [⟨c, par, 0, [].map actR⟩], P⟩ := by
  unfold stepS; rw [if_pos (right_open (x := c.x) h2 ⟨h3, h4⟩)]; unfold doS; rw [if_pos rfl, if_neg ?_]
  ·rfl
  ·rintro (q | q | q | ⟨q, q2 | q2⟩)
   ·exact q h1
   ·exact absurd q (by dsimp only; omega)
   ·exact absurd q (by dsimp only; omega)
   ·exact absurd q2 (by dsimp only; omega)
   ·have := child_none (hq (by dsimp only at q; omega)); dsimp only at q2; rw [this] at q2
    cases q2
 have e2 := run_regs c par (c.s + 1) node A hA2 hc P regs [] h6 (by simpa using h5) (by simpa using h7); have e3 := run_seats c par (c.s + 1) node A hA2 hc P regs [] h6 (by simpa using h5); have e4 : runS ⟨node, c.s + 1, A ++ [⟨c, par, 0, regs⟩], P⟩ (if dec ≠ 0 then [⟨4, c.n, c.s, 0, 0, 0, 0, 0, 0, 0, 0, 0, dec, 0⟩] else []) = some ⟨node, c.s + 1, A ++ [⟨c, par, dec, regs⟩], P⟩ := by
  by_cases q : dec = 0
  ·rw [if_neg (by simpa using q), q]
   rfl
  ·rw [if_pos q]; obtain ⟨q1, q2⟩ := h8.resolve_left q
   show (stepS _ _).bind _ = _
   unfold stepS; rw [if_pos (right_dec hc q1)]; unfold doS; simp only [find_end hA2 (a := ⟨c, par, 0, regs⟩) ⟨rfl, rfl⟩]
   rw [if_neg (show ¬ (4 : Int) = 1 by decide), if_neg (show ¬ (4 : Int) = 6 by decide), if_neg (show ¬ (4 : Int) = 7 by decide), if_neg (show ¬ (4 : Int) = 8 by decide)]; simp only [get_end]
   unfold actS; rw [if_neg (show ¬ (4 : Int) = 2 by decide), if_neg (show ¬ (4 : Int) = 3 by decide), if_pos rfl, if_neg (by simp [q2])]
   simp [runS]
 show (stepS _ _).bind _ = _
 rw [e1]
 show runS _ _ = _
 dsimp only; rw [List.append_assoc, runS_app]; rw [show factsR c.n c.s 0 regs = factsR c.n c.s ([] : List RgM).length regs from rfl, e2]
 show runS _ _ = _
 rw [runS_app]; rw [show factsZ c.n c.s 0 regs = factsZ c.n c.s ([] : List RgM).length regs from rfl, List.nil_append]; rw [List.nil_append, List.nil_append] at e3; rw [e3]; exact e4
def seqS : Int → List AcM → Prop
 | _, [] => True
 | nx, a :: l => nx ≤ a.c.s ∧ seqS (a.c.s + 1) l
def nextS : Int → List AcM → Int
 | nx, [] => nx
 | _, a :: l => nextS (a.c.s + 1) l
theorem nextS_last : ∀ (l : List AcM) (nx : Int), nextS nx l = if l = [] then nx else lastS l + 1
 | [], _ => rfl
 | [a], _ => rfl
 | a :: b :: l, nx => by
  have := nextS_last (b :: l) (a.c.s + 1)
  show nextS (a.c.s + 1) (b :: l) = _
  rw [this]
  simp [lastS]
theorem run_acts {node : Int} (P : List PaM) : ∀ (L A : List AcM) (nx : Int), (∀ a ∈ L, OkA node a) → (∀ a ∈ L, a.par ≤ P.length) → (∀ x ∈ A, x.c.s < nx) → seqS nx L → A.length + L.length ≤ 8 → (A ++ L).Pairwise (fun x y => y.par ≠ 0 → x.par ≠ y.par) →
  runS ⟨node, nx, A, P⟩ (L.flatMap factsA) = some ⟨node, nextS nx L, A ++ L, P⟩
 | [], A, nx, _, _, _, _, _, _ => by simp [runS, nextS]
 | a :: L, A, nx, ho, hp, hA, hs, hl, hd => by
  have hl2 : A.length + (L.length + 1) ≤ 8 := by simpa using hl
  have e := run_act (ho a List.mem_cons_self) nx A P hA hs.1 (by omega) (hp a List.mem_cons_self) (fun q x hx => (List.pairwise_append.1 hd).2.2 x hx a List.mem_cons_self q); have ih := run_acts P L (A ++ [a]) (a.c.s + 1) (fun x hx => ho x (List.mem_cons_of_mem _ hx)) (fun x hx => hp x (List.mem_cons_of_mem _ hx)) (fun x hx => by
   rcases List.mem_append.1 hx with hx | hx
   ·have h1 := hA x hx; have h2 := hs.1; omega
   ·obtain rfl := List.mem_singleton.1 hx; omega) hs.2 (by simp; omega) (by rw [List.append_assoc]; exact hd)
  rw [List.flatMap_cons, runS_app, e]
  show runS _ _ = _
  rw [ih, List.append_assoc]
  rfl
structure OkS (m : StM) : Prop where
 n : 0 ≤ m.node ∧ m.node ≤ 3
 a : ∀ a ∈ m.acts, OkA m.node a
 par : ∀ a ∈ m.acts, a.par ≤ m.parts.length
 seq : seqS 0 m.acts
 dis : m.acts.Pairwise (fun x y => y.par ≠ 0 → x.par ≠ y.par)
 l8 : m.acts.length ≤ 8
 p : ∀ x ∈ m.parts, OkP x
 p8 : m.parts.length ≤ 8
 nx : lastS m.acts + 1 ≤ m.next
 last : lastS m.acts = m.next - 1 ∨ (m.acts.length ≤ 7 ∧ rightA m.node (m.next - 1) = true)
theorem seqS_lt : ∀ (l : List AcM) (nx : Int), seqS nx l → ∀ x ∈ l, x.c.s < nextS nx l
 | a :: l, nx, h, x, hx => by
  have hm : a.c.s + 1 ≤ nextS (a.c.s + 1) l := seqS_le l _ h.2
  rcases List.mem_cons.1 hx with rfl | hx
  ·show _ < nextS (_ + 1) l
   omega
  ·exact seqS_lt l _ h.2 x hx
 where seqS_le : ∀ (l : List AcM) (nx : Int), seqS nx l → nx ≤ nextS nx l
 | [], _, _ => Int.le_refl _
 | a :: l, nx, h => by
  have h1 := seqS_le l _ h.2; have h2 := h.1
  show nx ≤ nextS (a.c.s + 1) l
  omega
theorem replay {m : StM} (h : OkS m) : runS (newSt m.node) (factsS m) = some m := by
 have h1 := run_parts m.parts [] m.node 0 [] h.p (by have := h.p8; simpa using this); have h2 := run_acts m.parts m.acts [] 0 h.a h.par (fun x hx => by cases hx) h.seq (by have := h.l8; simpa using this) (by simpa using h.dis); have hlt := seqS_lt m.acts 0 h.seq; have hnl := nextS_last m.acts 0; have hnx := h.nx; have hla := h.last; unfold factsS newSt; rw [List.append_assoc, runS_app, show factsP 0 m.parts = factsP ([] : List PaM).length m.parts from rfl, h1]
 show runS _ _ = _
 rw [runS_app, List.nil_append, h2]
 show runS _ _ = _
 have hn0 : nextS 0 m.acts = lastS m.acts + 1 := by
  rw [hnl]
  split
  ·next q => rw [q]; rfl
  ·rfl
 rw [hn0] at hlt ⊢
 by_cases q : lastS m.acts = m.next - 1
 ·rw [if_neg (by simpa using q)]
  show some _ = _
  rw [List.nil_append, show lastS m.acts + 1 = m.next by omega]
 ·rw [if_pos q, List.nil_append]; obtain ⟨l7, hr⟩ := hla.resolve_left q; have hrx : rightX ⟨m.node, m.next - 1, 1, 0, 0⟩ = true := by
   show (rightA m.node (m.next - 1) && (outX 1 && (decide ((0 : Int) ≤ 0 ∧ (0 : Int) ≤ 3) && tmX 0))) = true
   rw [hr]
   decide
  have hA2 : ∀ x ∈ m.acts, x.c.s ≠ m.next - 1 := fun x hx => by have := hlt x hx; omega
  have e1 : stepS ⟨m.node, lastS m.acts + 1, m.acts, m.parts⟩ ⟨1, m.node, m.next - 1, 0, 0, 0, 0, 1, 0, 0, 0, 0, 0, 0⟩ = some ⟨m.node, m.next, m.acts ++ [⟨⟨m.node, m.next - 1, 1, 0, 0⟩, 0, 0, []⟩], m.parts⟩ := by
   unfold stepS; rw [if_pos (right_open hrx (by omega))]; unfold doS; rw [if_pos rfl, if_neg ?_]
   ·simp [ctxF]
   ·rintro (p | p | p | ⟨p, _⟩)
    ·exact p rfl
    ·exact absurd p (by dsimp only; omega)
    ·exact absurd p (by dsimp only; omega)
    ·exact absurd p (by dsimp only; omega)
  have e2 : stepS ⟨m.node, m.next, m.acts ++ [⟨⟨m.node, m.next - 1, 1, 0, 0⟩, 0, 0, []⟩], m.parts⟩ ⟨5, m.node, m.next - 1, 0, 0, 0, 0, 0, 0, 0, 0, 0, 0, 0⟩ = some m := by
   unfold stepS; rw [if_pos (right_for hr)]; unfold doS; simp only [find_end hA2 (a := ⟨⟨m.node, m.next - 1, 1, 0, 0⟩, 0, 0, []⟩) ⟨rfl, rfl⟩]
   rw [if_neg (show ¬ (5 : Int) = 1 by decide), if_neg (show ¬ (5 : Int) = 6 by decide), if_neg (show ¬ (5 : Int) = 7 by decide), if_neg (show ¬ (5 : Int) = 8 by decide)]; simp only [get_end]
   unfold actS; rw [if_neg (show ¬ (5 : Int) = 2 by decide), if_neg (show ¬ (5 : Int) = 3 by decide), if_neg (show ¬ (5 : Int) = 4 by decide), if_pos rfl, if_neg (by simp)]
   simp [List.eraseIdx_append_of_length_le]
  show (stepS _ _).bind _ = _
  rw [e1]
  show (stepS _ _).bind _ = _
  rw [e2]
  rfl
theorem okF_of {f : FX} (h : rightF f = true) : okF f = true := by
 unfold rightF at h; simp only [Bool.and_eq_true] at h
 exact h.2.1
theorem inv_open {f : FX} (h : rightF f = true) (hk : f.k = 1) : rightX (ctxF f) = true ∧ 0 ≤ f.a ∧ f.a ≤ 8 := by
 have := okF_of h; unfold okF at this; rw [if_pos hk] at this
 simpa using this
theorem inv_enr {f : FX} (h : rightF f = true) (hk : f.k = 2) : rightA f.n f.s = true ∧ (0 ≤ f.r ∧ f.r ≤ 5) ∧ (0 ≤ f.e ∧ f.e ≤ 3) ∧ (0 ≤ f.p ∧ f.p ≤ 7) ∧ (f.q = 1 ∨ f.q = 2) := by
 have := okF_of h; unfold okF at this; rw [if_neg (by omega), if_pos hk] at this
 simp at this
 refine ⟨this.1, ?_⟩
 have := this.2; omega
theorem inv_dec {f : FX} (h : rightF f = true) (hk : f.k = 4) : f.c = 1 ∨ f.c = 2 := by
 have := okF_of h; unfold okF at this; rw [if_neg (by omega), if_neg (by omega), if_neg (by omega), if_pos hk] at this
 simp at this
 exact this.2
theorem inv_joi {f : FX} (h : rightF f = true) (hk : f.k = 6) : rightA f.n f.s = true ∧ (0 ≤ f.p ∧ f.p ≤ 7) ∧ (f.q = 1 ∨ f.q = 2) := by
 have := okF_of h; unfold okF at this; rw [if_neg (by omega), if_neg (by omega), if_neg (by omega), if_neg (by omega), if_neg (by omega), if_pos hk] at this
 simp at this
 refine ⟨this.1, ?_⟩
 have := this.2; omega
theorem inv_pla {f : FX} (h : rightF f = true) (hk : f.k = 7) : 0 ≤ f.r ∧ f.r ≤ 5 := by
 have := okF_of h; unfold okF at this; rw [if_neg (by omega), if_neg (by omega), if_neg (by omega), if_neg (by omega), if_neg (by omega), if_neg (by omega), if_pos hk] at this
 simp at this
 omega
theorem okz_new {q e : Int} (hq : q = 1 ∨ q = 2) (he : e = 1 ∨ e = 2) : OkZ ⟨q, e, 1, 0⟩ e := by
 refine ⟨?_, rfl⟩
 rcases hq with rfl | rfl <;> rcases he with rfl | rfl <;> decide
theorem turnS_ok {z z2 : SeatM} {e t h : Int} (hz : OkZ z e) (hs : turnS z t h = some z2) : OkZ z2 e := by
 unfold turnS at hs
 split at hs
 ·next q => obtain rfl := Option.some.inj hs; exact ⟨q.2, hz.2⟩
 ·cases hs
theorem seqS_app : ∀ (l : List AcM) (nx : Int) (a : AcM), seqS nx l → nextS nx l ≤ a.c.s → seqS nx (l ++ [a])
 | [], _, _, _, h => ⟨h, trivial⟩
 | _ :: l, _, a, h, h2 => ⟨h.1, seqS_app l _ a h.2 h2⟩
theorem seqS_set : ∀ (l : List AcM) (nx : Int) (i : Nat) (a b : AcM), l[i]? = some a → b.c = a.c → seqS nx l → seqS nx (l.set i b)
 | [], _, _, _, _, h, _, _ => by simp at h
 | x :: l, nx, 0, a, b, h, hc, hs => by
  obtain rfl : x = a := by simpa using h
  show nx ≤ b.c.s ∧ seqS (b.c.s + 1) l
  rw [hc]; exact hs
 | x :: l, nx, i + 1, a, b, h, hc, hs => ⟨hs.1, seqS_set l _ i a b (by simpa using h) hc hs.2⟩
theorem seqS_mono : ∀ (l : List AcM) (nx ny : Int), ny ≤ nx → seqS nx l → seqS ny l
 | [], _, _, _, _ => trivial
 | _ :: _, _, _, h, hs => ⟨Int.le_trans h hs.1, hs.2⟩
theorem seqS_erase : ∀ (l : List AcM) (nx : Int) (i : Nat), seqS nx l → seqS nx (l.eraseIdx i)
 | [], _, _, _ => trivial
 | x :: l, nx, 0, hs => by
  have h1 := hs.1; exact seqS_mono l _ nx (by omega) hs.2
 | x :: l, nx, i + 1, hs => ⟨hs.1, seqS_erase l _ i hs.2⟩
theorem lastS_mem {l : List AcM} (h : l ≠ []) : ∃ x ∈ l, lastS l = x.c.s := by
 refine ⟨l.getLast h, List.getLast_mem h, ?_⟩
 unfold lastS; rw [List.getLast?_eq_some_getLast h]
 rfl
theorem lastS_set {l : List AcM} {i : Nat} {a b : AcM} (h : l[i]? = some a) (hc : b.c = a.c) : lastS (l.set i b) = lastS l := by
 unfold lastS; have h2 : ∀ j : Nat, (l.set i b)[j]?.map (fun x : AcM => x.c.s) = l[j]?.map (fun x : AcM => x.c.s) := fun j => by
  by_cases q : i = j
  ·subst q; have hi := (List.getElem?_eq_some_iff.1 h).1; rw [List.getElem?_set_self hi, h]
   simp [hc]
  ·rw [List.getElem?_set_ne q]
 rw [List.getLast?_eq_getElem?, List.getLast?_eq_getElem?, List.length_set, h2]
theorem OkS.lt {m : StM} (h : OkS m) : ∀ x ∈ m.acts, x.c.s < m.next := fun x hx => by
 have h1 := seqS_lt m.acts 0 h.seq x hx; have h2 := h.nx; rw [nextS_last] at h1
 split at h1
 ·next q => rw [q] at hx; cases hx
 ·omega
theorem mem_set {α : Type} {l : List α} {i : Nat} {a x : α} (h : x ∈ l.set i a) : x ∈ l ∨ x = a := by
 rcases List.mem_or_eq_of_mem_set h with q | q
 ·exact .inl q
 ·exact .inr q
theorem OkS.setA {m : StM} (h : OkS m) {i : Nat} {a b : AcM} (ha : m.acts[i]? = some a) (hc : b.c = a.c) (hp : b.par = a.par) (hb : OkA m.node b) : OkS { m with acts := m.acts.set i b } where
 n := h.n
 a := fun x hx => by
  rcases mem_set hx with q | rfl
  ·exact h.a x q
  ·exact hb
 par := fun x hx => by
  rcases mem_set hx with q | rfl
  ·exact h.par x q
  ·rw [hp]; exact h.par a (List.mem_of_getElem? ha)
 seq := seqS_set _ _ _ _ _ ha hc h.seq
 dis := by
  have h1 : (m.acts.set i b).map (·.par) = m.acts.map (·.par) := by
   refine List.ext_getElem? fun j => ?_
   rw [List.getElem?_map, List.getElem?_map]
   by_cases q : i = j
   ·subst q; rw [List.getElem?_set_self (List.getElem?_eq_some_iff.1 ha).1, ha]
    simp [hp]
   ·rw [List.getElem?_set_ne q]
  have h2 : (m.acts.map (·.par)).Pairwise (fun x y => y ≠ 0 → x ≠ y) := List.pairwise_map.2 h.dis; rw [← h1] at h2; exact List.pairwise_map.1 h2
 l8 := by rw [List.length_set]; exact h.l8
 p := h.p
 p8 := h.p8
 nx := by rw [lastS_set ha hc]; exact h.nx
 last := by rw [lastS_set ha hc, List.length_set]; exact h.last
theorem OkS.setP {m : StM} (h : OkS m) {P : List PaM} (hl : m.parts.length ≤ P.length) (h8 : P.length ≤ 8) (hp : ∀ x ∈ P, OkP x) : OkS { m with parts := P } where
 n := h.n
 a := h.a
 par := fun x hx => by have := h.par x hx; show x.par ≤ (P.length : Int); omega
 seq := h.seq
 dis := h.dis
 l8 := h.l8
 p := hp
 p8 := h8
 nx := h.nx
 last := h.last
theorem child_ne {A : List AcM} {p : Int} (hp : 0 < p) (h : (childS A (p - 1)).isSome = false) : ∀ x ∈ A, x.par ≠ p := fun x hx q => by
 unfold childS at h; rw [if_neg (by omega)] at h; have h2 : List.findIdx? (fun a : AcM => decide (a.par = p - 1 + 1)) A = none := by
  cases hc : List.findIdx? (fun a : AcM => decide (a.par = p - 1 + 1)) A with
  | none => rfl
  | some _ => rw [hc] at h; cases h
 have := List.findIdx?_eq_none_iff.1 h2 x hx; simp only [decide_eq_false_iff_not] at this
 omega
theorem lastS_app (l : List AcM) (a : AcM) : lastS (l ++ [a]) = a.c.s := by simp [lastS]
theorem keep_open {m m2 : StM} {f : FX} (h : OkS m) (hr : rightF f = true) (hk : f.k = 1) (hd : doS m f = some m2) : OkS m2 := by
 unfold doS at hd; rw [if_pos hk] at hd
 split at hd
 ·cases hd
 ·next q =>
  obtain rfl := Option.some.inj hd; simp only [not_or, not_and, Classical.not_not] at q
  obtain ⟨q1, q2, q3, q4⟩ := q; obtain ⟨r1, r2, r3⟩ := inv_open hr hk; have hlt := h.lt; exact {
   n := h.n
   a := fun x hx => by
    rcases List.mem_append.1 hx with hx | hx
    ·exact h.a x hx
    ·obtain rfl := List.mem_singleton.1 hx; exact ⟨q1, r1, r2, r3, by simp, fun g hg => (by cases hg), List.Pairwise.nil, .inl rfl⟩
   par := fun x hx => by
    rcases List.mem_append.1 hx with hx | hx
    ·exact h.par x hx
    ·obtain rfl := List.mem_singleton.1 hx
     show f.a ≤ (m.parts.length : Int)
     rcases Int.lt_or_le 0 f.a with p | p
     ·have := (q4 p).1; omega
     ·omega
   seq := seqS_app _ _ _ h.seq (by
    have h1 := h.nx; rw [nextS_last]
    show _ ≤ f.s
    split
    ·next q => rw [q] at h1; simp [lastS] at h1; omega
    ·omega)
   dis := List.pairwise_append.2 ⟨h.dis, List.pairwise_singleton _ _, fun x hx y hy hy0 => by
    obtain rfl := List.mem_singleton.1 hy; have hy1 : f.a ≠ 0 := hy0; have hp : 0 < f.a := by omega
    exact child_ne hp (by simpa using (q4 hp).2) x hx⟩
   l8 := by simp; omega
   p := h.p
   p8 := h.p8
   nx := by rw [lastS_app]; exact Int.le_refl _
   last := .inl (by rw [lastS_app]; show f.s = f.s + 1 - 1; omega) }
theorem keep_join {m m2 : StM} {f : FX} (h : OkS m) (hr : rightF f = true) (hk : f.k = 6) (hd : doS m f = some m2) : OkS m2 := by
 unfold doS at hd; rw [if_neg (by omega), if_pos hk] at hd
 split at hd
 ·cases hd
 ·next q =>
  obtain rfl := Option.some.inj hd; obtain ⟨r1, r2, r3⟩ := inv_joi hr hk; have q2 : f.p = m.parts.length := by omega
  refine h.setP (by simp) (by simp; omega) fun x hx => ?_
  rcases List.mem_append.1 hx with hx | hx
  ·exact h.p x hx
  ·obtain rfl := List.mem_singleton.1 hx; exact ⟨r1, show (-1 : Int) ≤ -1 by decide, show (-1 : Int) ≤ 5 by decide, okz_new r3 (.inr rfl)⟩
theorem keep_place {m m2 : StM} {f : FX} (h : OkS m) (hr : rightF f = true) (hk : f.k = 7) (hd : doS m f = some m2) : OkS m2 := by
 unfold doS at hd; rw [if_neg (by omega), if_neg (by omega), if_pos hk] at hd
 split at hd
 ·cases hd
 ·next x hx =>
  split at hd
  ·cases hd
  ·obtain rfl := Option.some.inj hd; obtain ⟨r1, r2⟩ := inv_pla hr hk; have ho := h.p x (List.mem_of_getElem? hx); refine h.setP (by simp) (by have := h.p8; simp; omega) fun y hy => ?_
   rcases mem_set hy with q | rfl
   ·exact h.p y q
   ·exact ⟨ho.1, by show -1 ≤ f.r; omega, r2, ho.2.2.2⟩
theorem keep_turn {m m2 : StM} {f : FX} (h : OkS m) (hk : f.k = 8) (hd : doS m f = some m2) : OkS m2 := by
 unfold doS at hd; rw [if_neg (by omega), if_neg (by omega), if_neg (by omega), if_pos hk] at hd
 split at hd
 ·cases hd
 ·next x hx =>
  obtain ⟨z, hz, rfl⟩ := Option.map_eq_some_iff.1 hd; have ho := h.p x (List.mem_of_getElem? hx); refine h.setP (by simp) (by have := h.p8; simp; omega) fun y hy => ?_
  rcases mem_set hy with q | rfl
  ·exact h.p y q
  ·exact ⟨ho.1, ho.2.1, ho.2.2.1, turnS_ok ho.2.2.2 hz⟩
theorem keep_act {m m2 : StM} {f : FX} {i : Nat} {a : AcM} (h : OkS m) (hr : rightF f = true) (ha : m.acts[i]? = some a) (hd : actS m i a f = some m2) : OkS m2 := by
 have oa := h.a a (List.mem_of_getElem? ha); unfold actS at hd
 split at hd
 ·next k2 =>
  split at hd
  ·cases hd
  ·next q =>
   obtain rfl := Option.some.inj hd; simp only [not_or, Classical.not_not] at q
   obtain ⟨q1, q2, q3⟩ := q; obtain ⟨r1, r2, r3, r4, r5⟩ := inv_enr hr k2; refine h.setA (b := { a with regs := a.regs ++ [⟨f.e, f.p, ⟨f.q, 1, 1, 0⟩⟩] }) ha rfl rfl ⟨oa.n, oa.c, oa.p0, oa.p8, ?_, ?_, ?_, ?_⟩
   ·show (a.regs ++ [_]).length ≤ 6
    rw [List.length_append, List.length_singleton]; omega
   ·intro g hg
    rcases List.mem_append.1 hg with hg | hg
    ·exact oa.g g hg
    ·obtain rfl := List.mem_singleton.1 hg; exact ⟨r3.1, r3.2, r4.1, r4.2, okz_new r5 (.inl rfl)⟩
   ·refine List.pairwise_append.2 ⟨oa.d, List.pairwise_singleton _ _, fun x hx y hy => ?_⟩
    obtain rfl := List.mem_singleton.1 hy; have q4 := List.any_eq_false.1 (Bool.eq_false_iff.2 q3) x hx
    simpa using q4
   ·exact .inl q2
 split at hd
 ·split at hd
  ·cases hd
  ·next g hg =>
   obtain ⟨z, hz, rfl⟩ := Option.map_eq_some_iff.1 hd; have og := oa.g g (List.mem_of_getElem? hg); refine h.setA (b := { a with regs := a.regs.set f.r.toNat { g with z := z } }) ha rfl rfl ⟨oa.n, oa.c, oa.p0, oa.p8, ?_, ?_, ?_, oa.e⟩
   ·show (a.regs.set _ _).length ≤ 6
    rw [List.length_set]; exact oa.l
   ·intro y hy
    rcases mem_set hy with q | rfl
    ·exact oa.g y q
    ·exact ⟨og.1, og.2.1, og.2.2.1, og.2.2.2.1, turnS_ok og.2.2.2.2 hz⟩
   ·have h1 : (a.regs.set f.r.toNat { g with z := z }).map (fun g => (g.node, g.part)) = a.regs.map (fun g => (g.node, g.part)) := by
     refine List.ext_getElem? fun j => ?_
     rw [List.getElem?_map, List.getElem?_map]
     by_cases q : f.r.toNat = j
     ·subst q; rw [List.getElem?_set_self (List.getElem?_eq_some_iff.1 hg).1, hg]
      rfl
     ·rw [List.getElem?_set_ne q]
    have h2 : (a.regs.map (fun g : RgM => (g.node, g.part))).Pairwise (fun x y => ¬ (x.1 = y.1 ∧ x.2 = y.2)) := List.pairwise_map.2 oa.d; rw [← h1] at h2; exact List.pairwise_map.1 h2
 split at hd
 ·next k4 =>
  split at hd
  ·cases hd
  ·next q =>
   obtain rfl := Option.some.inj hd; simp only [not_or, Classical.not_not] at q
   exact h.setA (b := { a with dec := f.c }) ha rfl rfl ⟨oa.n, oa.c, oa.p0, oa.p8, oa.l, oa.g, oa.d, .inr ⟨inv_dec hr k4, q.1⟩⟩
 split at hd
 ·split at hd
  ·cases hd
  ·obtain rfl := Option.some.inj hd; have hi := (List.getElem?_eq_some_iff.1 ha).1; have hne : m.acts ≠ [] := fun q => by rw [q] at hi; simp at hi
   have hlt := h.lt; have h7 : (m.acts.eraseIdx i).length ≤ 7 := by rw [List.length_eraseIdx_of_lt hi]; have := h.l8; omega
   exact {
    n := h.n
    a := fun x hx => h.a x (List.mem_of_mem_eraseIdx hx)
    par := fun x hx => h.par x (List.mem_of_mem_eraseIdx hx)
    seq := seqS_erase _ _ _ h.seq
    dis := h.dis.sublist (List.eraseIdx_sublist _ _)
    l8 := by show (m.acts.eraseIdx i).length ≤ 8; omega
    p := h.p
    p8 := h.p8
    nx := by
     show lastS (m.acts.eraseIdx i) + 1 ≤ m.next
     by_cases q : m.acts.eraseIdx i = []
     ·rw [q]; have h1 := seqS_lt.seqS_le m.acts 0 h.seq; have h2 := h.nx; rw [nextS_last, if_neg hne] at h1
      show (-1 : Int) + 1 ≤ m.next
      omega
     ·obtain ⟨x, hx, hl⟩ := lastS_mem q; have := hlt x (List.mem_of_mem_eraseIdx hx); omega
    last := .inr ⟨h7, by
     rcases h.last with q | ⟨_, q⟩
     ·obtain ⟨x, hx, hl⟩ := lastS_mem hne; have ox := h.a x hx; have := rightX_act ox.c; rw [ox.n] at this; rw [← q, hl]; exact this
     ·exact q⟩ }
 ·obtain rfl := Option.some.inj hd; exact h
theorem keepS {m m2 : StM} {f : FX} (h : OkS m) (hr : rightF f = true) (hd : doS m f = some m2) : OkS m2 := by
 by_cases k1 : f.k = 1
 ·exact keep_open h hr k1 hd
 by_cases k6 : f.k = 6
 ·exact keep_join h hr k6 hd
 by_cases k7 : f.k = 7
 ·exact keep_place h hr k7 hd
 by_cases k8 : f.k = 8
 ·exact keep_turn h k8 hd
 unfold doS at hd; rw [if_neg k1, if_neg k6, if_neg k7, if_neg k8] at hd
 split at hd
 ·cases hd
 ·next i _ =>
  split at hd
  ·cases hd
  ·next a ha => exact keep_act h hr ha hd
theorem newSt_ok {n : Int} (h : 0 ≤ n ∧ n ≤ 3) : OkS (newSt n) where
 n := h
 a := fun _ hx => by cases hx
 par := fun _ hx => by cases hx
 seq := trivial
 dis := List.Pairwise.nil
 l8 := by show 0 ≤ 8; decide
 p := fun _ hx => by cases hx
 p8 := by show 0 ≤ 8; decide
 nx := by show (-1 : Int) + 1 ≤ 0; decide
 last := .inl rfl
theorem fS {l : List AcM} {n s : Int} {i : Nat} (h : findS l n s = some i) : ∃ a, l[i]? = some a ∧ a.c.n = n ∧ a.c.s = s := by
 unfold findS at h; obtain ⟨hi, h2, _⟩ := List.findIdx?_eq_some_iff_getElem.1 h; exact ⟨l[i], List.getElem?_eq_getElem hi, by simpa using h2⟩
theorem seqS_ge : ∀ (l : List AcM) (nx : Int), seqS nx l → ∀ x ∈ l, nx ≤ x.c.s
 | a :: l, nx, h, x, hx => by
  rcases List.mem_cons.1 hx with rfl | hx
  ·exact h.1
  ·have := seqS_ge l _ h.2 x hx; have := h.1; omega
theorem seqS_gone : ∀ (l : List AcM) (nx : Int) (i : Nat) (a : AcM), seqS nx l → l[i]? = some a → ∀ x ∈ l.eraseIdx i, x.c.s ≠ a.c.s
 | [], _, _, _, _, h, _, _ => by simp at h
 | y :: l, nx, 0, a, hs, h, x, hx => by
  obtain rfl : y = a := by simpa using h
  have := seqS_ge l _ hs.2 x hx; omega
 | y :: l, nx, i + 1, a, hs, h, x, hx => by
  have ha : l[i]? = some a := by simpa using h
  rcases List.mem_cons.1 hx with rfl | hx
  ·have := seqS_ge l _ hs.2 a (List.mem_of_getElem? ha); omega
  ·exact seqS_gone l _ i a hs.2 ha x hx
theorem kind_of {f : FX} (h : rightF f = true) : 1 ≤ f.k ∧ f.k ≤ 8 := by
 have := okF_of h; unfold okF at this
 repeat' split at this
 all_goals first | omega | cases this
end Go.Proofs.YtpemeenfhkgmpaaGreatDoor
