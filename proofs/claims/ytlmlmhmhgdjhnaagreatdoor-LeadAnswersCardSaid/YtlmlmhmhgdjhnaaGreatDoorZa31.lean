/- Parts of this proof (own work). -/
import Derived.Test.YtlmlmhmhgdjhnaaGreatDoorZa30
set_option maxRecDepth 100000
set_option maxHeartbeats 40000000
namespace Go.Proofs.YtlmlmhmhgdjhnaaGreatDoor
open Go.RowKit Go.ChangeShapes Go.WideShapes
variable {w0 w w' W w3 : World} {B q : Nat} {m : StM} {gs : List AcG} {va vp : Value}
theorem refApply_any (Hs : GS tyD B q m gs va vp w) (ok : OkS m) (f : FX) (hwf : f.wf) : Calls Tryz.prog 35 #[.pointer (some ⟨q, 0, none⟩), .agg f.cells] w fun r w' => r = .returned (.int .i64 (applyQ m f).1) ∧ ∃ gs' va' vp', GS tyD B q (applyQ m f).2 gs' va' vp' w' ∧ Asd (Ow q gs va vp) (Ow q gs' va' vp') w w' := by
 cases hR : rightF f with
 | false => exact refApply_no Hs f hwf hR
 | true =>
  have hk := kind_of hR; obtain ⟨k, fn, fs, fr, fe, fp, fq, fo, fd, fa, ft, fh, fc, fx⟩ := f; dsimp only at hk; have : k = 1 ∨ k = 2 ∨ k = 3 ∨ k = 4 ∨ k = 5 ∨ k = 6 ∨ k = 7 ∨ k = 8 := by omega
  rcases this with rfl | rfl | rfl | rfl | rfl | rfl | rfl | rfl
  ·exact refApply1 Hs ok fn fs fr fe fp fq fo fd fa ft fh fc fx hR
  ·exact refApply2 Hs ok fn fs fr fe fp fq fo fd fa ft fh fc fx hR
  ·exact refApply3 Hs ok fn fs fr fe fp fq fo fd fa ft fh fc fx hR
  ·exact refApply4 Hs ok fn fs fr fe fp fq fo fd fa ft fh fc fx hR
  ·exact refApply5 Hs ok fn fs fr fe fp fq fo fd fa ft fh fc fx hR
  ·exact refApply6 Hs ok fn fs fr fe fp fq fo fd fa ft fh fc fx hR
  ·exact refApply7 Hs ok fn fs fr fe fp fq fo fd fa ft fh fc fx hR
  ·exact refApply8 Hs ok fn fs fr fe fp fq fo fd fa ft fh fc fx hR
variable {ads : List Addr}
def SL (B q : Nat) (m : StM) (w : World) : Prop := ∃ gs va vp, GS tyL B q m gs va vp w
def SD (B q : Nat) (m : StM) (w : World) : Prop := ∃ gs va vp, GS tyD B q m gs va vp w
theorem SL.kp (h : SL B q m w) (hk : Kp w w') : SL B q m w' := by obtain ⟨_, _, _, h⟩ := h; exact ⟨_, _, _, h.kp hk⟩
theorem SD.kp (h : SD B q m w) (hk : Kp w w') : SD B q m w' := by obtain ⟨_, _, _, h⟩ := h; exact ⟨_, _, _, h.kp hk⟩
def OffL (t : TypeId) : Prop := t ≠ tyL.st ∧ t ≠ tyL.ac ∧ t ≠ tyL.pt ∧ t ≠ tyL.rg
def OffD (t : TypeId) : Prop := t ≠ tyD.st ∧ t ≠ tyD.ac ∧ t ≠ tyD.pt ∧ t ≠ tyD.rg
theorem ow_kind {T : TyQ} {b : Nat} (h : GS T B q m gs va vp w) (hb : Ow q gs va vp b) : ∃ cs t, (t = T.st ∨ t = T.ac ∨ t = T.pt ∨ t = T.rg) ∧ w.heap[b]? = some (.cells cs t (0, 0)) := by
 rcases hb with rfl | hb | hb | ⟨g, hg, hb⟩
 ·exact ⟨_, _, .inl rfl, h.row⟩
 ·obtain ⟨c, hc⟩ := own_kindQ h.oa b hb; exact ⟨_, _, .inr (.inl rfl), hc⟩
 ·obtain ⟨c, hc⟩ := own_kindQ h.op b hb; exact ⟨_, _, .inr (.inr (.inl rfl)), hc⟩
 ·obtain ⟨c, hc⟩ := own_kindQ (h.og g hg) b hb; exact ⟨_, _, .inr (.inr (.inr rfl)), hc⟩
theorem off_DL {t : TypeId} (h : t = tyD.st ∨ t = tyD.ac ∨ t = tyD.pt ∨ t = tyD.rg) : OffL t := by
 rcases h with rfl | rfl | rfl | rfl <;> exact ⟨by decide, by decide, by decide, by decide⟩
theorem apartL {B' q' : Nat} {m' : StM} {gs' : List AcG} {va' vp' : Value} (H : GS tyL B q m gs va vp w) (H' : GS tyD B' q' m' gs' va' vp' w) : ∀ b, Ow q gs va vp b → ¬ Ow q' gs' va' vp' b := fun b hb hb' => by
 obtain ⟨cs, t, ht, hr⟩ := ow_kind H' hb'; obtain ⟨h1, h2, h3, h4⟩ := off_DL ht; exact ow_not H hr h1 h2 h3 h4 hb
theorem apartD {B' q' : Nat} {m' : StM} {gs' : List AcG} {va' vp' : Value} (H : GS tyD B q m gs va vp w) (H' : GS tyL B' q' m' gs' va' vp' w) : ∀ b, Ow q gs va vp b → ¬ Ow q' gs' va' vp' b := fun b hb hb' => apartL H' H b hb' hb
theorem offL_fct : OffL 87 := ⟨by decide, by decide, by decide, by decide⟩
theorem SL.apply (C : FacC ads w) (E : EP [0, 3, 4, 8, 13] ads w) (h : SL B q m w) (ok : OkS m) (f : FX) (hwf : f.wf) : Calls Tryz.prog 34 #[.pointer (some ⟨q, 0, none⟩), .agg f.cells] w fun r w' => r = .returned (errI ads (applyQ m f).1) ∧ SL B q (applyQ m f).2 w' ∧ (∀ B' q' m', SD B' q' m' w → SD B' q' m' w') ∧ (∀ (b : Nat) (cs : Array Value) (t : TypeId), OffL t → w.heap[b]? = some (.cells cs t (0, 0)) → w'.heap[b]? = some (.cells cs t (0, 0))) ∧ (∀ w0, Kp w0 w → w0.heap.size ≤ B → Kp w0 w') := by
 obtain ⟨gs, va, vp, H⟩ := h; refine (lsApply_any C E H ok f hwf).mono ?_
 rintro e w2 ⟨rfl, gs2, va2, vp2, H2, A⟩; refine ⟨rfl, ⟨gs2, va2, vp2, H2⟩, ?_, ?_, ?_⟩
 ·rintro B' q' m' ⟨gs', va', vp', H'⟩; exact ⟨gs', va', vp', H'.beside A (fun b hb hb2 => apartL H H' b hb2 hb)⟩
 ·rintro b cs t ⟨h1, h2, h3, h4⟩ hr; exact (A.block _ (oZ hr) (ow_not H hr h1 h2 h3 h4)).trans hr
 ·intro w0 hk hb; exact A.kp hk (fun b hb2 => Nat.le_trans hb (H.mem b hb2).1)
theorem SD.apply (h : SD B q m w) (ok : OkS m) (f : FX) (hwf : f.wf) : Calls Tryz.prog 35 #[.pointer (some ⟨q, 0, none⟩), .agg f.cells] w fun r w' => r = .returned (.int .i64 (applyQ m f).1) ∧ SD B q (applyQ m f).2 w' ∧ (∀ B' q' m', SL B' q' m' w → SL B' q' m' w') ∧ (∀ (b : Nat) (cs : Array Value) (t : TypeId), OffD t → w.heap[b]? = some (.cells cs t (0, 0)) → w'.heap[b]? = some (.cells cs t (0, 0))) ∧ (∀ w0, Kp w0 w → w0.heap.size ≤ B → Kp w0 w') := by
 obtain ⟨gs, va, vp, H⟩ := h; refine (refApply_any H ok f hwf).mono ?_
 rintro e w2 ⟨rfl, gs2, va2, vp2, H2, A⟩; refine ⟨rfl, ⟨gs2, va2, vp2, H2⟩, ?_, ?_, ?_⟩
 ·rintro B' q' m' ⟨gs', va', vp', H'⟩; exact ⟨gs', va', vp', H'.beside A (fun b hb hb2 => apartD H H' b hb2 hb)⟩
 ·rintro b cs t ⟨h1, h2, h3, h4⟩ hr; exact (A.block _ (oZ hr) (ow_not H hr h1 h2 h3 h4)).trans hr
 ·intro w0 hk hb; exact A.kp hk (fun b hb2 => Nat.le_trans hb (H.mem b hb2).1)
theorem SD.new {nd : Int} (h : w.heap[q]? = some (.cells #[nd, (0:Int), .slice none 0 0, .slice none 0 0] 76)) (hb : B ≤ q) : SD B q (newSt nd) w := ⟨[], .slice none 0 0, .slice none 0 0, ⟨h, hb, rfl, ⟨by simp [EncG.row], .inl ⟨rfl, rfl⟩⟩, ⟨by simp [EncG.row, newSt], .inl ⟨rfl, rfl⟩⟩, (fun g hg => by cases hg), (fun i j g h hi => by simp at hi)⟩⟩
theorem SL.new (E : EP [0, 3, 4, 8, 13] ads w) (nd : Int) (hin : inN nd) : Calls Tryz.prog 33 #[.int .i64 nd] w fun r w' => ∃ q, r = .returned (.tuple #[.pointer (some ⟨q, 0, none⟩), .nilIface]) ∧ SL w.heap.size q (newSt nd) w' ∧ Kp w w' := (lsNew E nd).mono (by
 rintro e w2 (⟨h, _⟩ | ⟨_, q, rfl, hg, hk⟩)
 ·exact absurd hin h
 ·exact ⟨q, rfl, ⟨_, _, _, hg⟩, hk⟩)
theorem SL.noNew (E : EP [0, 3, 4, 8, 13] ads w) (nd : Int) (hin : ¬ inN nd) : Calls Tryz.prog 33 #[.int .i64 nd] w fun r w' => r = .returned (.tuple #[.pointer none, errI ads 1]) ∧ Kp w w' := (lsNew E nd).mono (by
 rintro e w2 (⟨_, rfl, hk2⟩ | ⟨h, _⟩)
 ·exact ⟨rfl, hk2⟩
 ·exact absurd h hin)
variable {w0 w w' W w3 : World} {B q : Nat} {m : StM} {ads : List Addr}
theorem partQ_prt (m : StM) (i : Int) : partQ m i = prtP m i := rfl
theorem SL.part (h : SL B q m w) (i : Int) (x : PaM) (b : Bool) (hx : (prtP m i = some x ∧ b = true) ∨ (prtP m i = none ∧ b = false ∧ x = zeroP)) : Calls Tryz.prog 107 #[.pointer (some ⟨q, 0, none⟩), .int .i64 i] w fun r w' => r = .returned (.tuple #[.agg (paV x), .bool b]) ∧ Kp w w' := by
 obtain ⟨gs, va, vp, H⟩ := h; refine (stPart H i).mono ?_
 rw [partQ_prt]; rintro e w2 ⟨y, rfl, hy, hk⟩
 rcases hx with ⟨h1, rfl⟩ | ⟨h1, rfl, rfl⟩
 ·rw [h1] at hy ⊢; dsimp only at hy; subst hy; exact ⟨rfl, hk⟩
 ·rw [h1] at hy ⊢; dsimp only at hy; subst hy; exact ⟨rfl, hk⟩
theorem SL.nodeOf (h : SL B q m w) : Calls Tryz.prog 73 #[.pointer (some ⟨q, 0, none⟩)] w fun r w' => r = .returned (.int .i64 m.node) ∧ w = w' := by
 obtain ⟨gs, va, vp, H⟩ := h; exact stNode H
open Go.RowKit
theorem run_one (m : StM) (f : FX) : runS m [f] = stepS m f := by
 show (stepS m f).bind (fun m2 => some m2) = stepS m f
 cases stepS m f <;> rfl
theorem right_partsP {g : MM} (h : rightM g = true) : 0 ≤ g.f ∧ g.f ≤ 3 ∧ 0 ≤ g.t ∧ g.t ≤ 3 ∧ rightA g.n g.s = true ∧ 0 ≤ g.r ∧ g.r ≤ 5 ∧ 0 ≤ g.p ∧ g.p ≤ 7 := by
 unfold rightM at h; simp only [Bool.and_eq_true, decide_eq_true_eq] at h
 obtain ⟨⟨⟨h1, h2⟩, h3⟩, _⟩ := h; exact ⟨h1.2.2.1, h1.2.2.2.1, h1.2.2.2.2.1, h1.2.2.2.2.2, h2, h3.1, h3.2.1, h3.2.2.1, h3.2.2.2⟩
theorem right_fault {g : MM} {c : Int} (h : rightM g = true) (hc : 1 ≤ c ∧ c ≤ 5) : rightM (answerM g 19 c) = true := by
 obtain ⟨a1, a2, a3, a4, a5, a6, a7, a8, a9⟩ := right_partsP h; unfold answerM rightM; dsimp only; rw [if_neg (by omega), if_neg (by omega), if_pos rfl, a5]
 simp
 omega
theorem right_status {g : MM} {c : Int} (h : rightM g = true) (hc : 1 ≤ c ∧ c ≤ 14) : rightM (answerM g 16 c) = true := by
 obtain ⟨a1, a2, a3, a4, a5, a6, a7, a8, a9⟩ := right_partsP h; unfold answerM rightM; dsimp only; rw [if_neg (by omega), if_neg (by omega), if_neg (by omega), if_pos rfl, a5]
 simp
 omega
def BackP (nd : Int) (g y : MM) : Prop := rightM y = true ∧ y.f = nd ∧ y.t = g.f ∧ y.n = g.n ∧ y.s = g.s ∧ y.p = g.p
def fullE (m : StM) : Bool := decide (7 < m.acts.length ∨ 999999 < m.next)
def fxOpened (c : CX) (par : Int) : FX := ⟨1, c.n, c.s, 0, 0, 0, 0, c.o, c.d, par, 0, 0, 0, c.x⟩
def fxEnrolled (n s r e p q : Int) : FX := ⟨2, n, s, r, e, p, q, 0, 0, 0, 0, 0, 0, 0⟩
def fxSeated (n s r t h : Int) : FX := ⟨3, n, s, r, 0, 0, 0, 0, 0, 0, t, h, 0, 0⟩
def fxForgot (n s : Int) : FX := ⟨5, n, s, 0, 0, 0, 0, 0, 0, 0, 0, 0, 0, 0⟩
def actE (m : StM) (n s : Int) : Option AcM := (findS m.acts n s).bind fun i => m.acts[i]?
def regE (a : AcM) (r : Int) : Option RgM := if 0 ≤ r then a.regs[r.toNat]? else none
def worksE (m : StM) (part : Int) : Bool := match prtP m part with
 | none => false
 | some x => decide (x.z.s = 1 ∨ x.z.s = 4)
def openE (m : StM) (o : Int) (t l : Nat) : Int × RsM × CX :=
 if fullE m = true then (6, rs0, noX) else if (newX m.node m.next o t l).1 ≠ 0 then ((newX m.node m.next o t l).1, rs0, noX)
 else (0, ⟨[fxOpened (newX m.node m.next o t l).2 0], [], 0⟩, (newX m.node m.next o t l).2)
def nestE (m : StM) (part : Int) (c : CX) : Int × RsM × CX :=
 match prtP m part with
 | none => (8, rs0, noX)
 | some x => if rightX c = false ∨ ¬ (c.n = x.n ∧ c.s = x.s) then (4, rs0, noX)
  else if ¬ (x.z.s = 1 ∨ x.z.s = 4) ∨ (childS m.acts part).isSome = true then (9, rs0, noX)
  else if fullE m = true then (6, rs0, noX)
  else if (childX c m.node m.next 1).1 ≠ 0 then ((childX c m.node m.next 1).1, rs0, noX)
  else (0, ⟨[fxOpened (childX c m.node m.next 1).2 (part + 1)], [], 0⟩, (childX c m.node m.next 1).2)
def takesE (m : StM) (a : AcM) (now : Nat) : Bool := (decide (a.par = 0) || worksE m (a.par - 1)) && (openX a.c now && (decide (a.dec = 0) && decide (a.regs.length < 6)))
def msgE (nd : Int) (a : AcM) (g : RgM) (r k : Int) : MM := ⟨k, nd, g.node, a.c.n, a.c.s, r, g.part, 0, 0⟩
def againE (m : StM) (n s r : Int) : Option MM :=
 match actE m n s with
 | none => none
 | some a => match regE a r with
  | none => none
  | some g => if waitT 1 g.z.s = 0 then none else some (msgE m.node a g r (waitT 1 g.z.s))
def messageE (m : StM) (n s r k : Int) : Option MM := (actE m n s).bind fun a => (regE a r).map fun g => msgE m.node a g r k
def directE (m : StM) (n s r k : Int) : Int × RsM :=
 match actE m n s with
 | none => (8, rs0)
 | some a => match regE a r with
  | none => (1, rs0)
  | some g => if ¬ (k = 2 ∨ k = 9 ∨ k = 10 ∨ k = 11) then (4, rs0)
   else if a.c.o = 1 ∧ k ≠ 2 then (9, rs0)
   else if (g.z.act k).1 ≠ 0 then ((g.z.act k).1, rs0)
   else (0, ⟨[fxSeated n s r (g.z.act k).2.z.s (g.z.act k).2.z.h], [msgE m.node a g r k], 0⟩)
def forgetE (m : StM) (n s : Int) : Int × RsM :=
 match actE m n s with
 | none => (8, rs0)
 | some a => if a.regs.any (fun g => decide (g.z.s ≠ 14)) = true ∨ (a.c.o = 1 ∧ a.regs ≠ [] ∧ a.dec = 0) then (9, rs0)
  else (0, ⟨[fxForgot n s], [], 0⟩)
def fromE (l : List RgM) (f p : Int) : Option Nat := l.findIdx? fun g => decide (g.node = f ∧ g.part = p)
def registeredE (g : MM) (r : Int) : MM := ⟨18, g.t, g.f, g.n, g.s, r, g.p, g.o, 0⟩
def registerE (m : StM) (g : MM) (now : Nat) : RsM :=
 match actE m g.n g.s with
 | none => ⟨[], [answerM g 19 5], 0⟩
 | some a => match fromE a.regs g.f g.p with
  | some i => if (a.regs[i]?.map (·.z.p)).getD 0 ≠ g.o then ⟨[], [answerM g 19 2], 0⟩ else ⟨[], [registeredE g i], 0⟩
  | none => if takesE m a now = false then ⟨[], [answerM g 19 4], 0⟩
   else ⟨[fxEnrolled g.n g.s a.regs.length g.f g.p g.o], [registeredE g a.regs.length], 0⟩
def goneE (m : StM) (g : MM) : RsM :=
 if g.n ≠ m.node ∨ g.s < 0 ∨ m.next ≤ g.s then ⟨[], [answerM g 19 5], 0⟩
 else if g.k = 15 then ⟨[], [answerM g 16 14], 0⟩
 else if g.k = 1 then ⟨[], [answerM g 13 0], 0⟩
 else if g.k = 4 then ⟨[], [answerM g 12 0], 0⟩
 else if g.k = 5 then ⟨[], [answerM g 14 0], 0⟩
 else rs0
def seatE (m : StM) (a : AcM) (x : RgM) (g : MM) (y : EffM) : RsM :=
 ⟨(if y.changed = true then [fxSeated g.n g.s g.r (if y.z.s = 5 ∧ a.dec = 2 then 7 else y.z.s) y.z.h] else []),
  (if y.changed = true ∧ y.z.s = 5 ∧ a.dec = 2 then [msgE m.node a x g.r 11] else if y.send ≠ 0 then [msgE m.node a x g.r y.send] else []) ++ (if y.fault ≠ 0 then [answerM g 19 y.fault] else []), 0⟩
def leadE (m : StM) (g : MM) (now : Nat) : RsM :=
 if g.t ≠ m.node then rs0
 else if g.k = 17 then registerE m g now
 else if g.k ≠ 15 ∧ upM g.k = false then rs0
 else match actE m g.n g.s with
  | none => goneE m g
  | some a => match regE a g.r with
   | none => ⟨[], [answerM g 19 3], 0⟩
   | some x => if x.node ≠ g.f ∨ x.part ≠ g.p then ⟨[], [answerM g 19 3], 0⟩
    else if g.k = 15 then ⟨[], [answerM g 16 x.z.s], 0⟩
    else if (x.z.tell g.k).1 ≠ 0 then rs0
    else seatE m a x g (x.z.tell g.k).2
def seatsC : List SeatM := [1, 2].flatMap fun p => [1, 2, 3, 4, 5, 6, 7, 8, 9, 10, 11, 12, 13, 14].flatMap fun s => [0, 1, 2, 3, 4, 5, 6, 7, 8].map fun h => (⟨p, 1, s, h⟩ : SeatM)
theorem seats_inC {z : SeatM} (h : z.right = true) (he : z.e = 1) : z ∈ seatsC := by
 obtain ⟨p, e, s, hh⟩ := z; dsimp only at he; subst he; unfold SeatM.right at h; simp only [Bool.and_eq_true] at h
 obtain ⟨⟨h1, h2⟩, h3⟩ := h; have hp : p = 1 ∨ p = 2 := by
  unfold rightT at h1; have := of_decide_eq_true h1; exact this.1
 have hs : 1 ≤ s ∧ s ≤ 14 := by
  unfold hasT at h2
  split at h2
  ·omega
  ·split at h2
   ·omega
   ·exact of_decide_eq_true h2
 have hk : 0 ≤ hh ∧ hh ≤ 8 := by
  try dsimp only at h3
  split at h3
  ·have := of_decide_eq_true h3; omega
  ·have := of_decide_eq_true h3; omega
 unfold seatsC; rw [List.mem_flatMap]; refine ⟨p, by rcases hp with rfl | rfl <;> simp, ?_⟩
 rw [List.mem_flatMap]; refine ⟨s, ?_, ?_⟩
 ·simp only [List.mem_cons, List.not_mem_nil, or_false]
  omega
 ·rw [List.mem_map]; refine ⟨hh, ?_, rfl⟩
  simp only [List.mem_cons, List.not_mem_nil, or_false]
  omega
def toldOkC (z : SeatM) (k : Int) : Bool :=
 z.right == false || ((z.tell k).1 == 0 &&
  ((!(z.tell k).2.changed) || (turnS z (z.tell k).2.z.s (z.tell k).2.z.h == some (z.tell k).2.z)) &&
  ((!((z.tell k).2.changed && (z.tell k).2.z.s == 5)) || (turnS z 7 (z.tell k).2.z.h == some ⟨z.p, z.e, 7, (z.tell k).2.z.h⟩)) &&
  ((z.tell k).2.changed || (z.tell k).2.z == z) &&
  ((z.tell k).2.z.tell k).2.changed == false &&
  ((z.tell k).2.send == 0 || (z.tell k).2.fault == 0) &&
  ((!((z.tell k).2.changed && (z.tell k).2.z.s == 5)) || ((SeatM.tell ⟨z.p, z.e, 7, (z.tell k).2.z.h⟩ k).2.changed == false && ((SeatM.tell ⟨z.p, z.e, 7, (z.tell k).2.z.h⟩ k).2.send == 0 || (SeatM.tell ⟨z.p, z.e, 7, (z.tell k).2.z.h⟩ k).2.fault == 0))) &&
  ((z.tell k).2.send == 0 || downM (z.tell k).2.send) && decide (0 ≤ (z.tell k).2.fault ∧ (z.tell k).2.fault ≤ 5))
theorem told_allC : seatsC.all (fun z => [1, 3, 4, 5, 6, 7, 8].all (toldOkC z)) = true := by decide +kernel
def waitOkC (z : SeatM) : Bool := z.right == false || (waitT 1 z.s == 0 || downM (waitT 1 z.s))
theorem wait_allC : seatsC.all waitOkC = true := by decide +kernel
theorem actE_some {m : StM} {n s : Int} {a : AcM} (h : actE m n s = some a) : ∃ i, findS m.acts n s = some i ∧ m.acts[i]? = some a ∧ a.c.n = n ∧ a.c.s = s := by
 unfold actE at h
 cases hf : findS m.acts n s with
 | none => rw [hf] at h; cases h
 | some i =>
  rw [hf] at h; obtain ⟨b, hb, h1, h2⟩ := fS hf; have h : m.acts[i]? = some a := h; rw [hb] at h; obtain rfl := Option.some.inj h; exact ⟨i, rfl, hb, h1, h2⟩
theorem actE_ok {m : StM} {n s : Int} {a : AcM} (ok : OkS m) (h : actE m n s = some a) : OkA m.node a ∧ rightA n s = true := by
 obtain ⟨i, _, h2, rfl, rfl⟩ := actE_some h; have := ok.a a (List.mem_of_getElem? h2); exact ⟨this, rightX_act this.c⟩
theorem regE_some {a : AcM} {r : Int} {g : RgM} (h : regE a r = some g) : 0 ≤ r ∧ a.regs[r.toNat]? = some g := by
 unfold regE at h
 split at h
 ·exact ⟨by assumption, h⟩
 ·cases h
theorem regE_ok {nd : Int} {a : AcM} {r : Int} {g : RgM} (ok : OkA nd a) (h : regE a r = some g) : 0 ≤ r ∧ r ≤ 5 ∧ OkG g := by
 obtain ⟨h0, h1⟩ := regE_some h; obtain ⟨h2, h3⟩ := List.getElem?_eq_some_iff.1 h1; have := ok.l; exact ⟨h0, by omega, ok.g _ (List.mem_of_getElem? h1)⟩
theorem step_sea {m : StM} {n s r t hh : Int} {a : AcM} {g : RgM} {z : SeatM} (ok : OkS m) (ha : actE m n s = some a) (hg : regE a r = some g) (ht : turnS g.z t hh = some z) :
  ∃ i, findS m.acts n s = some i ∧ m.acts[i]? = some a ∧ stepS m (fxSeated n s r t hh) = some { m with acts := m.acts.set i { a with regs := a.regs.set r.toNat { g with z := z } } } := by
 obtain ⟨i, h1, h2, _, _⟩ := actE_some ha; obtain ⟨hA, hR⟩ := actE_ok ok ha; obtain ⟨h0, h5, hG⟩ := regE_ok hA hg; obtain ⟨_, h3⟩ := regE_some hg; refine ⟨i, h1, h2, ?_⟩
 have ht2 := ht; unfold turnS at ht2
 split at ht2
 ·rename_i hc
  have hs : seatX t hh = true := OkZ.seat (z := ⟨g.z.p, g.z.e, t, hh⟩) (e := g.z.e) ⟨hc.2, rfl⟩; unfold stepS fxSeated; rw [if_pos (right_sea hR ⟨h0, h5⟩ hs)]; unfold doS; rw [if_neg (by simp), if_neg (by simp), if_neg (by simp), if_neg (by simp)]; dsimp only; rw [h1]; dsimp only; rw [h2]; dsimp only; unfold actS; rw [if_neg (by simp), if_pos rfl]; dsimp only; rw [h3]; dsimp only; rw [ht]
  rfl
 ·cases ht2
theorem up_in {k : Int} (h : upM k = true) : k ∈ [1, 3, 4, 5, 6, 7, 8] := by
 unfold upM at h; have := of_decide_eq_true h; simp only [List.mem_cons, List.not_mem_nil, or_false]
 omega
theorem okg_z {g : RgM} (h : OkG g) : OkZ g.z 1 := h.2.2.2.2
theorem toldC {z : SeatM} {k : Int} (h : OkZ z 1) (hk : upM k = true) : (z.tell k).1 = 0 ∧
  ((z.tell k).2.changed = true → turnS z (z.tell k).2.z.s (z.tell k).2.z.h = some (z.tell k).2.z) ∧
  ((z.tell k).2.changed = true → (z.tell k).2.z.s = 5 → turnS z 7 (z.tell k).2.z.h = some ⟨z.p, z.e, 7, (z.tell k).2.z.h⟩) ∧
  ((z.tell k).2.changed = false → (z.tell k).2.z = z) ∧ ((z.tell k).2.z.tell k).2.changed = false ∧ ((z.tell k).2.send = 0 ∨ (z.tell k).2.fault = 0) ∧
  ((z.tell k).2.changed = true → (z.tell k).2.z.s = 5 → (SeatM.tell ⟨z.p, z.e, 7, (z.tell k).2.z.h⟩ k).2.changed = false ∧ ((SeatM.tell ⟨z.p, z.e, 7, (z.tell k).2.z.h⟩ k).2.send = 0 ∨ (SeatM.tell ⟨z.p, z.e, 7, (z.tell k).2.z.h⟩ k).2.fault = 0)) ∧
  ((z.tell k).2.send ≠ 0 → downM (z.tell k).2.send = true) ∧ 0 ≤ (z.tell k).2.fault ∧ (z.tell k).2.fault ≤ 5 := by
 have h1 := List.all_eq_true.1 told_allC z (seats_inC h.1 h.2); have h2 := List.all_eq_true.1 h1 k (up_in hk); unfold toldOkC at h2; rw [h.1] at h2; simp only [Bool.or_eq_true, Bool.and_eq_true, beq_iff_eq, Bool.not_eq_true', Bool.true_eq_false, false_or, decide_eq_true_eq, Bool.and_eq_false_imp] at h2
 obtain ⟨⟨⟨⟨⟨⟨⟨⟨a, b⟩, c⟩, d⟩, e⟩, f⟩, i⟩, j⟩, l⟩ := h2; refine ⟨a, fun hc => ?_, fun hc hs => ?_, fun hc => ?_, e, f, fun hc hs => ?_, fun hn => ?_, l.1, l.2⟩
 ·rcases b with b | b
  ·rw [hc] at b; cases b
  ·exact b
 ·rcases c with c | c
  ·have := c hc
   simp [hs] at this
  ·exact c
 ·rcases d with d | d
  ·rw [hc] at d; cases d
  ·exact d
 ·rcases i with i | i
  ·have := i hc
   simp [hs] at this
  ·exact i
 ·rcases j with j | j
  ·exact absurd j hn
  ·exact j
theorem actE_set {m : StM} {n s : Int} {i : Nat} {a b : AcM} (h : findS m.acts n s = some i) (ha : m.acts[i]? = some a) (hc : b.c = a.c) : actE { m with acts := m.acts.set i b } n s = some b := by
 unfold actE; dsimp only; rw [find_set h ha hc]; obtain ⟨h2, _⟩ := List.getElem?_eq_some_iff.1 ha
 show (m.acts.set i b)[i]? = some b
 exact List.getElem?_set_self h2
theorem from_none {l : List RgM} {f p : Int} (h : fromE l f p = none) : l.any (fun g => decide (g.node = f ∧ g.part = p)) = false := by
 unfold fromE at h; rw [List.findIdx?_eq_none_iff] at h; rw [List.any_eq_false]; intro x hx; rw [h x hx]
 decide
theorem from_app {l : List RgM} {f p : Int} {x : RgM} (h : fromE l f p = none) (hn : x.node = f) (hp : x.part = p) : fromE (l ++ [x]) f p = some l.length := by
 unfold fromE at h ⊢; rw [List.findIdx?_append, h]
 simp [hn, hp]
theorem takes_parts {m : StM} {a : AcM} {now : Nat} (h : takesE m a now = true) : a.dec = 0 ∧ a.regs.length < 6 := by
 unfold takesE at h; simp only [Bool.and_eq_true, decide_eq_true_eq] at h
 exact ⟨h.2.2.1, h.2.2.2⟩
theorem step_enr {m : StM} {n s e p q : Int} {a : AcM} (ok : OkS m) (ha : actE m n s = some a) (hd : a.dec = 0) (hl : a.regs.length < 6) (hf : fromE a.regs e p = none) (he : 0 ≤ e ∧ e ≤ 3) (hp : 0 ≤ p ∧ p ≤ 7) (hq : q = 1 ∨ q = 2) :
  ∃ i, findS m.acts n s = some i ∧ m.acts[i]? = some a ∧ stepS m (fxEnrolled n s a.regs.length e p q) = some { m with acts := m.acts.set i { a with regs := a.regs ++ [⟨e, p, ⟨q, 1, 1, 0⟩⟩] } } := by
 obtain ⟨i, h1, h2, _, _⟩ := actE_some ha; obtain ⟨hA, hR⟩ := actE_ok ok ha; refine ⟨i, h1, h2, ?_⟩
 unfold stepS fxEnrolled; rw [if_pos (right_enr hR (show (0 : Int) ≤ a.regs.length ∧ (a.regs.length : Int) ≤ 5 by omega) he hp hq)]; unfold doS; rw [if_neg (by simp), if_neg (by simp), if_neg (by simp), if_neg (by simp)]; dsimp only; rw [h1]; dsimp only; rw [h2]; dsimp only; unfold actS; rw [if_pos rfl, if_neg]; dsimp only; rw [from_none hf]; rintro (h | h | h)
 ·exact h rfl
 ·exact h hd
 ·cases h
theorem regE_set {a : AcM} {r : Int} {g g2 : RgM} (h : regE a r = some g) : regE { a with regs := a.regs.set r.toNat g2 } r = some g2 := by
 obtain ⟨h0, h1⟩ := regE_some h; obtain ⟨h2, _⟩ := List.getElem?_eq_some_iff.1 h1; unfold regE; rw [if_pos h0]; exact List.getElem?_set_self h2
theorem seat_two {m : StM} {a : AcM} {x : RgM} {g : MM} (ok : OkS m) (ha : actE m g.n g.s = some a) (hg : regE a g.r = some x) (hk : upM g.k = true) :
  ∃ m2 a2 x2, runS m (seatE m a x g (x.z.tell g.k).2).facts = some m2 ∧ m2.node = m.node ∧ actE m2 g.n g.s = some a2 ∧ regE a2 g.r = some x2 ∧ x2.node = x.node ∧ x2.part = x.part ∧ OkZ x2.z 1 ∧ (x2.z.tell g.k).2.changed = false := by
 have hz := okg_z (regE_ok (actE_ok ok ha).1 hg).2.2; obtain ⟨_, t2, t3, t4, t5, _, t7, _⟩ := toldC hz hk; unfold seatE; dsimp only
 cases hc : (x.z.tell g.k).2.changed with
 | false =>
  refine ⟨m, a, x, by rw [if_neg (by simp)]; rfl, rfl, ha, hg, rfl, rfl, hz, ?_⟩
  rw [← t4 hc, t5]
 | true =>
  rw [if_pos rfl]
  by_cases h5 : (x.z.tell g.k).2.z.s = 5 ∧ a.dec = 2
  ·rw [if_pos h5]; have ht := t3 hc h5.1; obtain ⟨i, f1, f2, hs⟩ := step_sea ok ha hg ht; have hs2 : runS m [fxSeated g.n g.s g.r 7 (x.z.tell g.k).2.z.h] = some _ := (run_one m _).trans hs; exact ⟨_, { a with regs := a.regs.set g.r.toNat { x with z := ⟨x.z.p, x.z.e, 7, (x.z.tell g.k).2.z.h⟩ } }, { x with z := ⟨x.z.p, x.z.e, 7, (x.z.tell g.k).2.z.h⟩ }, hs2, rfl, actE_set f1 f2 rfl, regE_set hg, rfl, rfl, turnS_ok hz ht, (t7 hc h5.1).1⟩
  ·rw [if_neg h5]; have ht := t2 hc; obtain ⟨i, f1, f2, hs⟩ := step_sea ok ha hg ht; have hs2 : runS m [fxSeated g.n g.s g.r (x.z.tell g.k).2.z.s (x.z.tell g.k).2.z.h] = some _ := (run_one m _).trans hs; exact ⟨_, { a with regs := a.regs.set g.r.toNat { x with z := (x.z.tell g.k).2.z } }, { x with z := (x.z.tell g.k).2.z }, hs2, rfl, actE_set f1 f2 rfl, regE_set hg, rfl, rfl, turnS_ok hz ht, t5⟩
theorem seat_still {m : StM} {a : AcM} {x : RgM} {g : MM} (hz : OkZ x.z 1) (hk : upM g.k = true) (hc : (x.z.tell g.k).2.changed = false) : (seatE m a x g (x.z.tell g.k).2).facts = [] ∧ (seatE m a x g (x.z.tell g.k).2).work = 0 ∧ (seatE m a x g (x.z.tell g.k).2).send.length ≤ 1 := by
 obtain ⟨_, _, _, _, _, t6, _⟩ := toldC hz hk; unfold seatE; dsimp only; rw [hc]; refine ⟨rfl, rfl, ?_⟩
 rw [if_neg (fun h => by cases h.1)]
 rcases t6 with t6 | t6
 ·rw [if_neg (by simp [t6])]
  split <;> simp
 ·rw [if_neg (c := (x.z.tell g.k).2.fault ≠ 0) (by simp [t6])]
  split <;> simp
theorem one_len (y : MM) : ([y] : List MM).length ≤ 1 := Nat.le_refl _
theorem lead_two {m : StM} (ok : OkS m) (g : MM) (now : Nat) (hf : 0 ≤ g.f ∧ g.f ≤ 3) (hp : 0 ≤ g.p ∧ g.p ≤ 7) (hq : g.k = 17 → g.o = 1 ∨ g.o = 2) :
  ∃ m2, runS m (leadE m g now).facts = some m2 ∧ (leadE m2 g now).facts = [] ∧ (leadE m2 g now).work = 0 ∧ (leadE m2 g now).send.length ≤ 1 := by
 by_cases ht : g.t = m.node
 rotate_left
 ·have e : leadE m g now = rs0 := by unfold leadE; rw [if_pos ht]
  refine ⟨m, by rw [e]; rfl, ?_⟩
  rw [e]; exact ⟨rfl, rfl, Nat.zero_le _⟩
 by_cases k17 : g.k = 17
 ·have e : ∀ m' : StM, m'.node = m.node → leadE m' g now = registerE m' g now := fun m' hn => by unfold leadE; rw [if_neg (by rw [hn]; simpa using ht), if_pos k17]
  rw [e m rfl]; have same : ∀ R : RsM, registerE m g now = R → R.facts = [] → R.work = 0 → R.send.length ≤ 1 → ∃ m2, runS m (registerE m g now).facts = some m2 ∧ (leadE m2 g now).facts = [] ∧ (leadE m2 g now).work = 0 ∧ (leadE m2 g now).send.length ≤ 1 := fun R hR h1 h2 h3 => by
   refine ⟨m, by rw [hR, h1]; rfl, ?_⟩
   rw [e m rfl, hR]; exact ⟨h1, h2, h3⟩
  cases ha : actE m g.n g.s with
  | none => exact same ⟨[], [answerM g 19 5], 0⟩ (by unfold registerE; rw [ha]) rfl rfl (one_len _)
  | some a =>
   cases hr : fromE a.regs g.f g.p with
   | some i =>
    by_cases hv : (a.regs[i]?.map (·.z.p)).getD 0 ≠ g.o
    ·exact same ⟨[], [answerM g 19 2], 0⟩ (by unfold registerE; rw [ha]; dsimp only; rw [hr]; dsimp only; rw [if_pos hv]) rfl rfl (one_len _)
    ·exact same ⟨[], [registeredE g i], 0⟩ (by unfold registerE; rw [ha]; dsimp only; rw [hr]; dsimp only; rw [if_neg hv]) rfl rfl (one_len _)
   | none =>
    cases hk : takesE m a now with
    | false => exact same ⟨[], [answerM g 19 4], 0⟩ (by unfold registerE; rw [ha]; dsimp only; rw [hr]; dsimp only; rw [if_pos hk]) rfl rfl (one_len _)
    | true =>
     have hR : registerE m g now = ⟨[fxEnrolled g.n g.s a.regs.length g.f g.p g.o], [registeredE g a.regs.length], 0⟩ := by unfold registerE; rw [ha]; dsimp only; rw [hr]; dsimp only; rw [if_neg (by rw [hk]; decide)]
     obtain ⟨hd, hl⟩ := takes_parts hk; obtain ⟨i, f1, f2, hs⟩ := step_enr ok ha hd hl hr hf hp (hq k17); rw [hR]; have hs2 : runS m [fxEnrolled g.n g.s a.regs.length g.f g.p g.o] = some _ := (run_one m _).trans hs; refine ⟨_, hs2, ?_⟩
     have e2 := e { m with acts := m.acts.set i { a with regs := a.regs ++ [⟨g.f, g.p, ⟨g.o, 1, 1, 0⟩⟩] } } rfl; rw [e2]; have hA := actE_set (b := { a with regs := a.regs ++ [⟨g.f, g.p, ⟨g.o, 1, 1, 0⟩⟩] }) f1 f2 rfl; have hF := from_app (x := ⟨g.f, g.p, ⟨g.o, 1, 1, 0⟩⟩) hr rfl rfl; unfold registerE; rw [hA]; dsimp only; rw [hF]; dsimp only; rw [if_neg (by simp)]; exact ⟨rfl, rfl, one_len _⟩
 by_cases hu : g.k ≠ 15 ∧ upM g.k = false
 ·have e : leadE m g now = rs0 := by unfold leadE; rw [if_neg (by simpa using ht), if_neg k17, if_pos hu]
  refine ⟨m, by rw [e]; rfl, ?_⟩
  rw [e]; exact ⟨rfl, rfl, Nat.zero_le _⟩
 have e : ∀ m' : StM, m'.node = m.node → leadE m' g now = match actE m' g.n g.s with
  | none => goneE m' g
  | some a => match regE a g.r with
   | none => ⟨[], [answerM g 19 3], 0⟩
   | some x => if x.node ≠ g.f ∨ x.part ≠ g.p then ⟨[], [answerM g 19 3], 0⟩
    else if g.k = 15 then ⟨[], [answerM g 16 x.z.s], 0⟩
    else if (x.z.tell g.k).1 ≠ 0 then rs0
    else seatE m' a x g (x.z.tell g.k).2 := fun m' hn => by
  unfold leadE; rw [if_neg (by rw [hn]; simpa using ht), if_neg k17, if_neg hu]
  all_goals (cases actE m' g.n g.s <;> rfl)
 have same : ∀ R : RsM, leadE m g now = R → R.facts = [] → R.work = 0 → R.send.length ≤ 1 → ∃ m2, runS m (leadE m g now).facts = some m2 ∧ (leadE m2 g now).facts = [] ∧ (leadE m2 g now).work = 0 ∧ (leadE m2 g now).send.length ≤ 1 := fun R hR h1 h2 h3 => by
  refine ⟨m, by rw [hR, h1]; rfl, ?_⟩
  rw [hR]; exact ⟨h1, h2, h3⟩
 cases ha : actE m g.n g.s with
 | none =>
  refine same (goneE m g) (by rw [e m rfl, ha]) ?_ ?_ ?_
  all_goals (unfold goneE; repeat' split)
  all_goals first | rfl | exact one_len _ | exact Nat.zero_le _
 | some a =>
  cases hg : regE a g.r with
  | none => exact same ⟨[], [answerM g 19 3], 0⟩ (by rw [e m rfl, ha]; dsimp only; rw [hg]) rfl rfl (one_len _)
  | some x =>
   by_cases hw : x.node ≠ g.f ∨ x.part ≠ g.p
   ·exact same ⟨[], [answerM g 19 3], 0⟩ (by rw [e m rfl, ha]; dsimp only; rw [hg]; dsimp only; rw [if_pos hw]) rfl rfl (one_len _)
   by_cases k15 : g.k = 15
   ·exact same ⟨[], [answerM g 16 x.z.s], 0⟩ (by rw [e m rfl, ha]; dsimp only; rw [hg]; dsimp only; rw [if_neg hw, if_pos k15]) rfl rfl (one_len _)
   have hk : upM g.k = true := by
    cases hq : upM g.k with
    | true => rfl
    | false => exact absurd ⟨k15, hq⟩ hu
   have hz := okg_z (regE_ok (actE_ok ok ha).1 hg).2.2; have t1 := (toldC hz hk).1; have hR : leadE m g now = seatE m a x g (x.z.tell g.k).2 := by rw [e m rfl, ha]; dsimp only; rw [hg]; dsimp only; rw [if_neg hw, if_neg k15, if_neg (by simp [t1])]
   obtain ⟨m2, a2, x2, r1, r2, r3, r4, r5, r6, r7, r8⟩ := seat_two ok ha hg hk; refine ⟨m2, by rw [hR]; exact r1, ?_⟩
   have t2 := (toldC r7 hk).1; rw [e m2 r2, r3]; dsimp only; rw [r4]; dsimp only; rw [if_neg (by rw [r5, r6]; exact hw), if_neg k15, if_neg (by simp [t2])]; exact seat_still r7 hk r8
end Go.Proofs.YtlmlmhmhgdjhnaaGreatDoor
