/-
  PARTS OF THIS PROOF (own work): OpW, LwB, SdI, LxD.
-/
import Derived.Test.YtpemeenfhkgmpaaGreatDoorZb03
import Derived.Test.YtpemeenfhkgmpaaGreatDoorZb09
import Derived.ChangeSame
import Derived.Lib.SmallJoins
import Derived.Deep.Slices
import Derived.Test.YtpemeenfhkgmpaaGreatDoorZb32
import Derived.Test.YtpemeenfhkgmpaaGreatDoorZb02
import Derived.Test.YtpemeenfhkgmpaaGreatDoorZb01
import Derived.Laws.AppendOwnNone
import Derived.Laws.OwnMore
import Derived.Laws.Bits64b
import Derived.Lib.SliceRun
import Derived.StillTailTactics
import Derived.Laws.StructEq
import Derived.Test.YtpemeenfhkgmpaaGreatDoorZb25
import Derived.Test.YtpemeenfhkgmpaaGreatDoorZb34
import Derived.Test.YtpemeenfhkgmpaaGreatDoorZb31
namespace Go.Proofs.YtpemeenfhkgmpaaGreatDoor
open Go.RowKit Go.ChangeShapes Go.WideShapes

/-- THE SLICE VALUE v READS AS THE FACTS fs. -/
def SlFc (v : Value) (fs : List FX) (w : World) : Prop :=
  ∃ a cap, v = .slice a fs.length cap ∧ ∀ (j : Nat) (h : j < fs.length), ∃ b off, a = some ⟨b, off, none⟩ ∧ fs[j].wf ∧ ∀ i u, fs[j].cells[i]? = some u → w.cell? ⟨b, off + j * 14 + i, none⟩ = some u
theorem SlFc.kp {v : Value} {fs : List FX} {w w' : World} (h : SlFc v fs w) (hk : Kp w w') : SlFc v fs w' := by
  obtain ⟨a, cap, h1, h2⟩ := h
  refine ⟨a, cap, h1, fun j hj => ?_⟩
  obtain ⟨b, off, h3, h4, h5⟩ := h2 j hj
  exact ⟨b, off, h3, h4, fun i u hu => kp_cell hk (h5 i u hu)⟩
/-- its element at a place -/
theorem SlFc.at {a : Option Addr} {n cap : Nat} {fs : List FX} {w : World} (h : SlFc (.slice a n cap) fs w) (j : Nat) (hj : j < fs.length) :
    ∃ b off, a = some ⟨b, off, none⟩ ∧ fs[j].wf ∧ ∀ i u, fs[j].cells[i]? = some u → w.cell? ⟨b, off + j * 14 + i, none⟩ = some u := by
  obtain ⟨a', cap', h1, h2⟩ := h
  injection h1 with h1 _ _
  subst h1
  exact h2 j hj

set_option maxRecDepth 100000 in
theorem fct_cells {H : Type} {enc : TypeId × Value → H} {W : World} {fuel : Nat} {cs : List Value} (hsz : cs.length = 14) {x : DataW H × List MemPlace}
    (hf : DataW.trod enc Tryz.prog W 0 (fun _ => true) true fuel 39 cs = some x) : ∃ c : FX, cs = c.cells.toList ∧ c.wf := by
  have h14 : Tryz.prog.cellsOf 39 = 14 := by kernel_rfl
  have h1 : Tryz.prog.cellsOf 3 = 1 := by kernel_rfl
  have hf1 : Tryz.prog.cellsOf 37 = 1 := by kernel_rfl
  have h2 : Tryz.prog.cellsOf 36 = 2 := by kernel_rfl
  match cs, hsz with
  | [c0, c1, c2, c3, c4, c5, c6, c7, c8, c9, c10, c11, c12, c13], _ =>
    obtain ⟨xs, n, _, _, _, hlen, hfs⟩ := DataW.trod_struct Tryz.underlying39 hf
    have g0 := hfs 0 _ rfl
    have g1 := hfs 1 _ rfl
    have g2 := hfs 2 _ rfl
    have g3 := hfs 3 _ rfl
    have g4 := hfs 4 _ rfl
    have g5 := hfs 5 _ rfl
    have g6 := hfs 6 _ rfl
    have g7 := hfs 7 _ rfl
    have g8 := hfs 8 _ rfl
    have g9 := hfs 9 _ rfl
    have g10 := hfs 10 _ rfl
    have g11 := hfs 11 _ rfl
    have g12 := hfs 12 _ rfl
    have e13 : xs.length = 13 := hlen
    match xs, e13 with
    | [x0, x1, x2, x3, x4, x5, x6, x7, x8, x9, x10, x11, x12], _ =>
      obtain ⟨y0, rfl⟩ := one_int9 (v := c0) g0 (by simp [h1])
      obtain ⟨y3, rfl⟩ := one_int9 (v := c3) g2 (by simp [h1])
      obtain ⟨y4, rfl⟩ := one_int9 (v := c4) g3 (by simp [h1])
      obtain ⟨y5, rfl⟩ := one_int9 (v := c5) g4 (by simp [h1])
      obtain ⟨y6, rfl⟩ := one_int9 (v := c6) g5 (by simp [h1])
      obtain ⟨y7, rfl⟩ := one_int9 (v := c7) g6 (by simp [h1])
      obtain ⟨y8, rfl⟩ := one_int9 (v := c8) g7 (by simp [h1])
      obtain ⟨y9, rfl⟩ := one_int9 (v := c9) g8 (by simp [h1])
      obtain ⟨y10, rfl⟩ := one_int9 (v := c10) g9 (by simp [h1])
      obtain ⟨y11, rfl⟩ := one_int9 (v := c11) g10 (by simp [h1])
      obtain ⟨y12, rfl⟩ := one_int9 (v := c12) g11 (by simp [h1])
      obtain ⟨y13, rfl, w13⟩ := one_float9 (v := c13) g12 (by simp [hf1])
      obtain ⟨z3, z4, k, _, _, a0, a1⟩ := trod_struct2 Tryz.underlying36 g1
      obtain ⟨y1, rfl⟩ := one_int9 (v := c1) a0 (by simp [h1, h2])
      obtain ⟨y2, rfl⟩ := one_int9 (v := c2) a1 (by simp [h1, h2])
      exact ⟨⟨y0, y1, y2, y3, y4, y5, y6, y7, y8, y9, y10, y11, y12, y13⟩, rfl, w13⟩

set_option maxRecDepth 100000 in
theorem open_fcts {H : Type} {enc : TypeId × Value → H} {W : World} {r : Reach} {b0 : Nat} {v : Value} {d : DataW H} {ps : List MemPlace}
    (hval : Value.okWide Tryz.prog W r b0 22 v) (h : DataW.Trod enc Tryz.prog W 0 (fun _ => true) true 22 v d ps) : ∃ fs : List FX, SlFc v fs W ∧ fs.length ≤ maxLen := by
  have ce : Tryz.prog.cellsOf 39 = 14 := by kernel_rfl
  obtain ⟨a0, len0, cap0, rfl⟩ := okWide_slice Tryz.underlying22 hval
  obtain ⟨fuel, hf⟩ := h
  rcases Deep.open_slice Tryz.underlying22 hf with ⟨hcs, hx⟩ | ⟨a, len, cap, m, n, D, Pl, hcs, _, hl, hm, hmm, hx, hcell⟩
  · simp [Value.cells] at hcs
    obtain ⟨rfl, rfl, rfl⟩ := hcs
    exact ⟨[], ⟨none, 0, rfl, fun j hj => by cases hj⟩, by simp⟩
  · simp [Value.cells] at hcs
    obtain ⟨rfl, rfl, rfl⟩ := hcs
    simp only [if_true] at hmm
    have hsp : 0 < len0 → a.spot = none := by
      intro h0
      obtain ⟨cs', h1, h2⟩ := hcell 0 (by omega)
      rw [ce] at h1
      obtain ⟨_, hlen, hcl⟩ := World.cells?_some h1
      obtain ⟨o, rfl, -⟩ := fct_cells (by simpa using hlen) h2
      have q0 := hcl 0 (by omega)
      rw [Deep.add_add] at q0
      simpa [Addr.add] using World.cell?_spot q0
    have hel : ∀ i, i < len0 → ∃ o : FX, ∃ b off, a = ⟨b, off, none⟩ ∧ o.wf ∧ ∀ k u, o.cells[k]? = some u → W.cell? ⟨b, off + i * 14 + k, none⟩ = some u := by
      intro i hi
      obtain ⟨cs', h1, h2⟩ := hcell i (by omega)
      rw [ce] at h1
      obtain ⟨_, hlen, hcl⟩ := World.cells?_some h1
      obtain ⟨o, ho, hw⟩ := fct_cells (by simpa using hlen) h2
      subst ho
      obtain ⟨b, off, spot⟩ := a
      obtain rfl : spot = none := hsp (by omega)
      refine ⟨o, b, off, rfl, hw, fun k u hu => ?_⟩
      have hk : k < 14 := (Array.getElem?_eq_some_iff.1 hu).1
      have q := hcl k (by omega)
      rw [Deep.add_add, add_plain, Array.getElem?_toList, hu] at q
      rw [Nat.add_assoc]
      exact q
    let f : Nat → FX := fun i => if h : i < len0 then (hel i h).choose else noF
    refine ⟨(List.range len0).map f, ⟨some a, cap0, by simp, fun j hj => ?_⟩, by simp; omega⟩
    have hj' : j < len0 := by simpa using hj
    have e : f j = (hel j hj').choose := by show (if h : j < len0 then (hel j h).choose else noF) = _; rw [dif_pos hj']
    obtain ⟨b, off, h1, h2, h3⟩ := (hel j hj').choose_spec
    refine ⟨b, off, by rw [h1], ?_⟩
    rw [List.getElem_map, List.getElem_range, e]
    exact ⟨h2, h3⟩
open Go.RowKit Go.ChangeShapes Go.WideShapes

theorem GS.beside {T : TyQ} {B q : Nat} {m : StM} {gs : List AcG} {va vp : Value} {O O' : Nat → Prop} {w w' : World} (h : GS T B q m gs va vp w) (a : Asd O O' w w') (hd : ∀ b, Ow q gs va vp b → ¬ O b) : GS T B q m gs va vp w' := h.stay fun b hb => a.block b (h.mem b hb).2 (hd b hb)
open Go.RowKit Go.ChangeShapes Go.WideShapes

variable {w0 w w' W w3 : World} {B q : Nat} {m : StM} {gs : List AcG} {va vp : Value}

theorem refApply_any (Hs : GS tyD B q m gs va vp w) (ok : OkS m) (f : FX) (hwf : f.wf) : Calls Tryz.prog 12 #[.pointer (some ⟨q, 0, none⟩), .agg f.cells] w fun r w' => r = .returned (.int .i64 (applyQ m f).1) ∧ ∃ gs' va' vp', GS tyD B q (applyQ m f).2 gs' va' vp' w' ∧ Asd (Ow q gs va vp) (Ow q gs' va' vp') w w' := by
  cases hR : rightF f with
  | false => exact refApply_no Hs f hwf hR
  | true =>
    have hk := kind_of hR
    obtain ⟨k, fn, fs, fr, fe, fp, fq, fo, fd, fa, ft, fh, fc, fx⟩ := f
    dsimp only at hk
    have : k = 1 ∨ k = 2 ∨ k = 3 ∨ k = 4 ∨ k = 5 ∨ k = 6 ∨ k = 7 ∨ k = 8 := by omega
    rcases this with rfl | rfl | rfl | rfl | rfl | rfl | rfl | rfl
    · exact refApply1 Hs ok fn fs fr fe fp fq fo fd fa ft fh fc fx hR
    · exact refApply2 Hs ok fn fs fr fe fp fq fo fd fa ft fh fc fx hR
    · exact refApply3 Hs ok fn fs fr fe fp fq fo fd fa ft fh fc fx hR
    · exact refApply4 Hs ok fn fs fr fe fp fq fo fd fa ft fh fc fx hR
    · exact refApply5 Hs ok fn fs fr fe fp fq fo fd fa ft fh fc fx hR
    · exact refApply6 Hs ok fn fs fr fe fp fq fo fd fa ft fh fc fx hR
    · exact refApply7 Hs ok fn fs fr fe fp fq fo fd fa ft fh fc fx hR
    · exact refApply8 Hs ok fn fs fr fe fp fq fo fd fa ft fh fc fx hR
open Go.RowKit Go.ChangeShapes Go.WideShapes

variable {w0 w w' W w3 : World} {B q : Nat} {m : StM} {gs : List AcG} {va vp : Value}

variable {ads : List Addr}
def SL (B q : Nat) (m : StM) (w : World) : Prop := ∃ gs va vp, GS tyL B q m gs va vp w
def SD (B q : Nat) (m : StM) (w : World) : Prop := ∃ gs va vp, GS tyD B q m gs va vp w
theorem SL.kp (h : SL B q m w) (hk : Kp w w') : SL B q m w' := by obtain ⟨_, _, _, h⟩ := h; exact ⟨_, _, _, h.kp hk⟩
theorem SD.kp (h : SD B q m w) (hk : Kp w w') : SD B q m w' := by obtain ⟨_, _, _, h⟩ := h; exact ⟨_, _, _, h.kp hk⟩
theorem SL.base {B' : Nat} (h : SL B q m w) (hb : B' ≤ B) : SL B' q m w := by obtain ⟨_, _, _, h⟩ := h; exact ⟨_, _, _, h.base hb⟩
def OffL (t : TypeId) : Prop := t ≠ tyL.st ∧ t ≠ tyL.ac ∧ t ≠ tyL.pt ∧ t ≠ tyL.rg
def OffD (t : TypeId) : Prop := t ≠ tyD.st ∧ t ≠ tyD.ac ∧ t ≠ tyD.pt ∧ t ≠ tyD.rg
/-- the block of a store has one of its types -/
theorem ow_kind {T : TyQ} {b : Nat} (h : GS T B q m gs va vp w) (hb : Ow q gs va vp b) : ∃ cs t, (t = T.st ∨ t = T.ac ∨ t = T.pt ∨ t = T.rg) ∧ w.heap[b]? = some (.cells cs t (0, 0)) := by
  rcases hb with rfl | hb | hb | ⟨g, hg, hb⟩
  · exact ⟨_, _, .inl rfl, h.row⟩
  · obtain ⟨c, hc⟩ := own_kindQ h.oa b hb
    exact ⟨_, _, .inr (.inl rfl), hc⟩
  · obtain ⟨c, hc⟩ := own_kindQ h.op b hb
    exact ⟨_, _, .inr (.inr (.inl rfl)), hc⟩
  · obtain ⟨c, hc⟩ := own_kindQ (h.og g hg) b hb
    exact ⟨_, _, .inr (.inr (.inr rfl)), hc⟩
theorem off_DL {t : TypeId} (h : t = tyD.st ∨ t = tyD.ac ∨ t = tyD.pt ∨ t = tyD.rg) : OffL t := by
  rcases h with rfl | rfl | rfl | rfl <;> exact ⟨by decide, by decide, by decide, by decide⟩
theorem apartL {B' q' : Nat} {m' : StM} {gs' : List AcG} {va' vp' : Value} (H : GS tyL B q m gs va vp w) (H' : GS tyD B' q' m' gs' va' vp' w) : ∀ b, Ow q gs va vp b → ¬ Ow q' gs' va' vp' b := fun b hb hb' => by
  obtain ⟨cs, t, ht, hr⟩ := ow_kind H' hb'
  obtain ⟨h1, h2, h3, h4⟩ := off_DL ht
  exact ow_not H hr h1 h2 h3 h4 hb
theorem apartD {B' q' : Nat} {m' : StM} {gs' : List AcG} {va' vp' : Value} (H : GS tyD B q m gs va vp w) (H' : GS tyL B' q' m' gs' va' vp' w) : ∀ b, Ow q gs va vp b → ¬ Ow q' gs' va' vp' b := fun b hb hb' => apartL H' H b hb' hb
theorem offL_fct : OffL 39 := ⟨by decide, by decide, by decide, by decide⟩
theorem offD_fct : OffD 39 := ⟨by decide, by decide, by decide, by decide⟩
theorem SL.apply (C : FacC ads w) (E : EP [0, 3, 4, 8, 13] ads w) (h : SL B q m w) (ok : OkS m) (f : FX) (hwf : f.wf) : Calls Tryz.prog 11 #[.pointer (some ⟨q, 0, none⟩), .agg f.cells] w fun r w' => r = .returned (errI ads (applyQ m f).1) ∧ SL B q (applyQ m f).2 w' ∧ (∀ B' q' m', SD B' q' m' w → SD B' q' m' w') ∧ (∀ (b : Nat) (cs : Array Value) (t : TypeId), OffL t → w.heap[b]? = some (.cells cs t (0, 0)) → w'.heap[b]? = some (.cells cs t (0, 0))) ∧ (∀ w0, Kp w0 w → w0.heap.size ≤ B → Kp w0 w') := by
  obtain ⟨gs, va, vp, H⟩ := h
  refine (lsApply_any C E H ok f hwf).mono ?_
  rintro e w2 ⟨rfl, gs2, va2, vp2, H2, A⟩
  refine ⟨rfl, ⟨gs2, va2, vp2, H2⟩, ?_, ?_, ?_⟩
  · rintro B' q' m' ⟨gs', va', vp', H'⟩
    exact ⟨gs', va', vp', H'.beside A (fun b hb hb2 => apartL H H' b hb2 hb)⟩
  · rintro b cs t ⟨h1, h2, h3, h4⟩ hr
    exact (A.block _ (old_of_row hr) (ow_not H hr h1 h2 h3 h4)).trans hr
  · intro w0 hk hb
    exact A.kp hk (fun b hb2 => Nat.le_trans hb (H.mem b hb2).1)
theorem SD.apply (h : SD B q m w) (ok : OkS m) (f : FX) (hwf : f.wf) : Calls Tryz.prog 12 #[.pointer (some ⟨q, 0, none⟩), .agg f.cells] w fun r w' => r = .returned (.int .i64 (applyQ m f).1) ∧ SD B q (applyQ m f).2 w' ∧ (∀ B' q' m', SL B' q' m' w → SL B' q' m' w') ∧ (∀ (b : Nat) (cs : Array Value) (t : TypeId), OffD t → w.heap[b]? = some (.cells cs t (0, 0)) → w'.heap[b]? = some (.cells cs t (0, 0))) ∧ (∀ w0, Kp w0 w → w0.heap.size ≤ B → Kp w0 w') := by
  obtain ⟨gs, va, vp, H⟩ := h
  refine (refApply_any H ok f hwf).mono ?_
  rintro e w2 ⟨rfl, gs2, va2, vp2, H2, A⟩
  refine ⟨rfl, ⟨gs2, va2, vp2, H2⟩, ?_, ?_, ?_⟩
  · rintro B' q' m' ⟨gs', va', vp', H'⟩
    exact ⟨gs', va', vp', H'.beside A (fun b hb hb2 => apartD H H' b hb2 hb)⟩
  · rintro b cs t ⟨h1, h2, h3, h4⟩ hr
    exact (A.block _ (old_of_row hr) (ow_not H hr h1 h2 h3 h4)).trans hr
  · intro w0 hk hb
    exact A.kp hk (fun b hb2 => Nat.le_trans hb (H.mem b hb2).1)
theorem SD.new {nd : Int} (h : w.heap[q]? = some (.cells #[.int .i64 nd, .int .i64 0, .slice none 0 0, .slice none 0 0] 34)) (hb : B ≤ q) : SD B q (newSt nd) w := ⟨[], .slice none 0 0, .slice none 0 0, ⟨h, hb, rfl, ⟨by simp [EncG.row], .inl ⟨rfl, rfl⟩⟩, ⟨by simp [EncG.row, newSt], .inl ⟨rfl, rfl⟩⟩, (fun g hg => by cases hg), (fun i j g h hi => by simp at hi)⟩⟩
theorem SL.new (E : EP [0, 3, 4, 8, 13] ads w) (nd : Int) (hin : inN nd) : Calls Tryz.prog 9 #[.int .i64 nd] w fun r w' => ∃ q, r = .returned (.tuple #[.pointer (some ⟨q, 0, none⟩), .nilIface]) ∧ SL w.heap.size q (newSt nd) w' ∧ Kp w w' := (lsNew E nd).mono (by
  rintro e w2 (⟨h, _⟩ | ⟨_, q, rfl, hg, hk⟩)
  · exact absurd hin h
  · exact ⟨q, rfl, ⟨_, _, _, hg⟩, hk⟩)
theorem SL.noNew (E : EP [0, 3, 4, 8, 13] ads w) (nd : Int) (hin : ¬ inN nd) : Calls Tryz.prog 9 #[.int .i64 nd] w fun r w' => r = .returned (.tuple #[.pointer none, errI ads 1]) ∧ Kp w w' := (lsNew E nd).mono (by
  rintro e w2 (⟨_, rfl, hk2⟩ | ⟨h, _⟩)
  · exact ⟨rfl, hk2⟩
  · exact absurd h hin)
theorem SL.both {B' q' : Nat} (h : SL B q m w) (h' : SD B' q' m w) (ok : OkS m) : Calls Tryz.prog 13 #[.pointer (some ⟨q, 0, none⟩), .pointer (some ⟨q', 0, none⟩)] w fun r w' => r = .returned (.bool true) ∧ Kp w w' := by
  obtain ⟨gs, va, vp, H⟩ := h
  obtain ⟨gs', va', vp', H'⟩ := h'
  exact lawSame15 H H' ok
end Go.Proofs.YtpemeenfhkgmpaaGreatDoor
