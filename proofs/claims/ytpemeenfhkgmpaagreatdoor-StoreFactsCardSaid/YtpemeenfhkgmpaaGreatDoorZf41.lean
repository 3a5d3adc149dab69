/- Parts of this proof (own work). -/
import Derived.Test.YtpemeenfhkgmpaaGreatDoorZf39
import Derived.Test.YtpemeenfhkgmpaaGreatDoorZf40
set_option maxRecDepth 100000
set_option maxHeartbeats 40000000
namespace Go.Proofs.YtpemeenfhkgmpaaGreatDoor
open Go.RowKit Go.ChangeShapes Go.WideShapes
variable {w0 w w' W w3 : World} {B q : Nat} {m : StM} {gs : List AcG} {va vp : Value}
variable {ads : List Addr}
def SL (B q : Nat) (m : StM) (w : World) : Prop := ∃ gs va vp, GS tyL B q m gs va vp w
def SD (B q : Nat) (m : StM) (w : World) : Prop := ∃ gs va vp, GS tyD B q m gs va vp w
theorem SL.kp (h : SL B q m w) (hk : Kp w w') : SL B q m w' := by obtain ⟨_, _, _, h⟩ := h; exact ⟨_, _, _, h.kp hk⟩
theorem SD.kp (h : SD B q m w) (hk : Kp w w') : SD B q m w' := by obtain ⟨_, _, _, h⟩ := h; exact ⟨_, _, _, h.kp hk⟩
theorem SL.base {B' : Nat} (h : SL B q m w) (hb : B' ≤ B) : SL B' q m w := by obtain ⟨_, _, _, h⟩ := h; exact ⟨_, _, _, h.base hb⟩
def OffL (t : TypeId) : Prop := t ≠ tyL.st ∧ t ≠ tyL.ac ∧ t ≠ tyL.pt ∧ t ≠ tyL.rg
def OffD (t : TypeId) : Prop := t ≠ tyD.st ∧ t ≠ tyD.ac ∧ t ≠ tyD.pt ∧ t ≠ tyD.rg
theorem ow_kind {T : TyQ} {b : Nat} (h : GS T B q m gs va vp w) (hb : Ow q gs va vp b) : ∃ cs t, (t = T.st ∨ t = T.ac ∨ t = T.pt ∨ t = T.rg) ∧ w.heap[b]? = some (.cells cs t (0, 0)) := by
 rcases hb with rfl | hb | hb | ⟨g, hg, hb⟩
 ·exact ⟨_, _, .inl rfl, h.row⟩
 ·obtain ⟨c, hc⟩ := own_kindQ h.oa b hb; exact ⟨_, _, .inr (.inl rfl), hc⟩
 ·obtain ⟨c, hc⟩ := own_kindQ h.op b hb; exact ⟨_, _, .inr (.inr (.inl rfl)), hc⟩
 ·obtain ⟨c, hc⟩ := own_kindQ (h.og g hg) b hb; exact ⟨_, _, .inr (.inr (.inr rfl)), hc⟩
theorem off_DL {t : TypeId} (h : t = tyD.st ∨ t = tyD.ac ∨ t = tyD.pt ∨ t = tyD.rg) : OffL t := by
 rcases h with rfl | rfl | rfl | rfl <;> exact ⟨by decide, by decide, by decide, by decide⟩
theorem apartL {B' q' : Nat} {m' : StM} {gs' : List AcG} {va' vp' : Value} (H : GS tyL B q m gs va vp w) (H' : GS tyD B' q' m' gs' va' vp' w) : ∀ b, Ow q gs va vp b → ¬ Ow q' gs' va' vp' b := fun b hb hb' => by
 obtain ⟨cs, t, ht, hr⟩ := ow_kind H' hb'; obtain ⟨h1, h2, h3, h4⟩ := off_DL ht; exact ow_not H hr h1 h2 h3 h4 hb
theorem apartD {B' q' : Nat} {m' : StM} {gs' : List AcG} {va' vp' : Value} (H : GS tyD B q m gs va vp w) (H' : GS tyL B' q' m' gs' va' vp' w) : ∀ b, Ow q gs va vp b → ¬ Ow q' gs' va' vp' b := fun b hb hb' => apartL H' H b hb' hb
theorem offL_fct : OffL 39 := ⟨by decide, by decide, by decide, by decide⟩
theorem SL.apply (C : FacC ads w) (E : EP [0, 3, 4, 8, 13] ads w) (h : SL B q m w) (ok : OkS m) (f : FX) (hwf : f.wf) : Calls Tryz.prog 11 #[.pointer (some ⟨q, 0, none⟩), .agg f.cells] w fun r w' => r = .returned (errI ads (applyQ m f).1) ∧ SL B q (applyQ m f).2 w' ∧ (∀ B' q' m', SD B' q' m' w → SD B' q' m' w') ∧ (∀ (b : Nat) (cs : Array Value) (t : TypeId), OffL t → w.heap[b]? = some (.cells cs t (0, 0)) → w'.heap[b]? = some (.cells cs t (0, 0))) ∧ (∀ w0, Kp w0 w → w0.heap.size ≤ B → Kp w0 w') := by
 obtain ⟨gs, va, vp, H⟩ := h; refine (lsApply_any C E H ok f hwf).mono ?_
 rintro e w2 ⟨rfl, gs2, va2, vp2, H2, A⟩; refine ⟨rfl, ⟨gs2, va2, vp2, H2⟩, ?_, ?_, ?_⟩
 ·rintro B' q' m' ⟨gs', va', vp', H'⟩; exact ⟨gs', va', vp', H'.beside A (fun b hb hb2 => apartL H H' b hb2 hb)⟩
 ·rintro b cs t ⟨h1, h2, h3, h4⟩ hr; exact (A.block _ (oZ hr) (ow_not H hr h1 h2 h3 h4)).trans hr
 ·intro w0 hk hb; exact A.kp hk (fun b hb2 => Nat.le_trans hb (H.mem b hb2).1)
theorem SD.apply (h : SD B q m w) (ok : OkS m) (f : FX) (hwf : f.wf) : Calls Tryz.prog 12 #[.pointer (some ⟨q, 0, none⟩), .agg f.cells] w fun r w' => r = .returned (.int .i64 (applyQ m f).1) ∧ SD B q (applyQ m f).2 w' ∧ (∀ B' q' m', SL B' q' m' w → SL B' q' m' w') ∧ (∀ (b : Nat) (cs : Array Value) (t : TypeId), OffD t → w.heap[b]? = some (.cells cs t (0, 0)) → w'.heap[b]? = some (.cells cs t (0, 0))) ∧ (∀ w0, Kp w0 w → w0.heap.size ≤ B → Kp w0 w') := by
 obtain ⟨gs, va, vp, H⟩ := h; refine (refApply_any H ok f hwf).mono ?_
 rintro e w2 ⟨rfl, gs2, va2, vp2, H2, A⟩; refine ⟨rfl, ⟨gs2, va2, vp2, H2⟩, ?_, ?_, ?_⟩
 ·rintro B' q' m' ⟨gs', va', vp', H'⟩; exact ⟨gs', va', vp', H'.beside A (fun b hb hb2 => apartD H H' b hb2 hb)⟩
 ·rintro b cs t ⟨h1, h2, h3, h4⟩ hr; exact (A.block _ (oZ hr) (ow_not H hr h1 h2 h3 h4)).trans hr
 ·intro w0 hk hb; exact A.kp hk (fun b hb2 => Nat.le_trans hb (H.mem b hb2).1)
theorem SD.new {nd : Int} (h : w.heap[q]? = some (.cells #[nd, (0:Int), .slice none 0 0, .slice none 0 0] 34)) (hb : B ≤ q) : SD B q (newSt nd) w := ⟨[], .slice none 0 0, .slice none 0 0, ⟨h, hb, rfl, ⟨by simp [EncG.row], .inl ⟨rfl, rfl⟩⟩, ⟨by simp [EncG.row, newSt], .inl ⟨rfl, rfl⟩⟩, (fun g hg => by cases hg), (fun i j g h hi => by simp at hi)⟩⟩
theorem SL.new (E : EP [0, 3, 4, 8, 13] ads w) (nd : Int) (hin : inN nd) : Calls Tryz.prog 9 #[.int .i64 nd] w fun r w' => ∃ q, r = .returned (.tuple #[.pointer (some ⟨q, 0, none⟩), .nilIface]) ∧ SL w.heap.size q (newSt nd) w' ∧ Kp w w' := (lsNew E nd).mono (by
 rintro e w2 (⟨h, _⟩ | ⟨_, q, rfl, hg, hk⟩)
 ·exact absurd hin h
 ·exact ⟨q, rfl, ⟨_, _, _, hg⟩, hk⟩)
theorem SL.noNew (E : EP [0, 3, 4, 8, 13] ads w) (nd : Int) (hin : ¬ inN nd) : Calls Tryz.prog 9 #[.int .i64 nd] w fun r w' => r = .returned (.tuple #[.pointer none, errI ads 1]) ∧ Kp w w' := (lsNew E nd).mono (by
 rintro e w2 (⟨_, rfl, hk2⟩ | ⟨h, _⟩)
 ·exact ⟨rfl, hk2⟩
 ·exact absurd h hin)
theorem SL.facts (h : SL B q m w) (ok : OkS m) (n : Nat) (hn : (factsS m).length = n) : Calls Tryz.prog 14 #[.pointer (some ⟨q, 0, none⟩)] w fun r w' => ∃ (a : Option Addr) (c : Nat), r = .returned (.slice a n c) ∧ w'.ownsRow w.heap.size 39 14 (.slice a n c) n (fcE.row (factsS m)) ∧ Kp w w' := by
 obtain ⟨gs, va, vp, H⟩ := h; refine (lsFacts H ok).mono ?_
 rintro e w2 ⟨v, rfl, ho, hk⟩; rw [hn] at ho; obtain ⟨a, c, rfl⟩ := fG ho; exact ⟨a, c, rfl, ho, hk⟩
theorem SL.same {B' q' : Nat} (C : FacC ads w) (h : SL B q m w) (h' : SL B' q' m w) (ok : OkS m) : Calls Tryz.prog 19 #[.pointer (some ⟨q, 0, none⟩), .pointer (some ⟨q', 0, none⟩)] w fun r w' => r = .returned (.bool true) ∧ Kp w w' := by
 obtain ⟨gs, va, vp, H⟩ := h; obtain ⟨gs', va', vp', H'⟩ := h'; refine (lsSame C H ok H' ok).mono ?_
 rintro e w2 ⟨rfl, hk⟩; rw [sameL_refl]; exact ⟨by simp, hk⟩
theorem SL.both {B' q' : Nat} (h : SL B q m w) (h' : SD B' q' m w) (ok : OkS m) : Calls Tryz.prog 13 #[.pointer (some ⟨q, 0, none⟩), .pointer (some ⟨q', 0, none⟩)] w fun r w' => r = .returned (.bool true) ∧ Kp w w' := by
 obtain ⟨gs, va, vp, H⟩ := h; obtain ⟨gs', va', vp', H'⟩ := h'; exact lawSame15 H H' ok
theorem applyQ_rng {m : StM} {f : FX} : 0 ≤ (applyQ m f).1 ∧ (applyQ m f).1 ≤ 14 := by
 cases hr : rightF f with
 | false => rw [applyQ_bad hr]; dsimp only; omega
 | true =>
  cases hd : doS m f with
  | none => rw [aZ hr hd]; dsimp only; omega
  | some m2 => rw [aS hr hd]; dsimp only; omega
end Go.Proofs.YtpemeenfhkgmpaaGreatDoor
