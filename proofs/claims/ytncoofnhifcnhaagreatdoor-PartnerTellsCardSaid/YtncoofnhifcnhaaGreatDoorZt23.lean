/- Parts of this proof (own work). -/
import Derived.Test.YtncoofnhifcnhaaGreatDoorZt20
import Derived.Test.YtncoofnhifcnhaaGreatDoorZt22
set_option maxRecDepth 100000
set_option maxHeartbeats 40000000
namespace Go.Proofs.YtncoofnhifcnhaaGreatDoor
open Go.RowKit Go.ChangeShapes Go.WideShapes
def applyQ (m : StM) (f : FX) : Int × StM :=
 if rightF f = false then (4, m) else match doS m f with
  | none => (9, m)
  | some m2 => (0, m2)
theorem aS {m m2 : StM} {f : FX} (hr : rightF f = true) (h : doS m f = some m2) : applyQ m f = (0, m2) := by unfold applyQ; rw [if_neg (by rw [hr]; decide), h]
theorem aZ {m : StM} {f : FX} (hr : rightF f = true) (h : doS m f = none) : applyQ m f = (9, m) := by unfold applyQ; rw [if_neg (by rw [hr]; decide), h]
theorem applyQ_bad {m : StM} {f : FX} (hr : rightF f = false) : applyQ m f = (4, m) := by unfold applyQ; rw [if_pos hr]
theorem applyQ_ok {m : StM} {f : FX} (h : OkS m) : OkS (applyQ m f).2 := by
 cases hr : rightF f with
 | false => rw [applyQ_bad hr]; exact h
 | true =>
  cases hd : doS m f with
  | none => rw [aZ hr hd]; exact h
  | some m2 => rw [aS hr hd]; exact keepS h hr hd
theorem doS_act0 {m : StM} {f : FX} (hk : f.k = 2 ∨ f.k = 3 ∨ f.k = 4 ∨ f.k = 5) (h : findS m.acts f.n f.s = none) : doS m f = none := by
 unfold doS; rw [if_neg (by omega), if_neg (by omega), if_neg (by omega), if_neg (by omega), h]
theorem doS_act1 {m : StM} {f : FX} {i : Nat} {a : AcM} (hk : f.k = 2 ∨ f.k = 3 ∨ f.k = 4 ∨ f.k = 5) (h : findS m.acts f.n f.s = some i) (ha : m.acts[i]? = some a) : doS m f = actS m i a f := by
 unfold doS; rw [if_neg (by omega), if_neg (by omega), if_neg (by omega), if_neg (by omega), h]; dsimp only; rw [ha]
theorem right_wf {f : FX} (h : rightF f = true) : f.wf := by
 have h2 := h; unfold rightF at h2; simp only [Bool.and_eq_true, decide_eq_true_eq] at h2
 unfold FX.wf
 rcases h2.2.2 with q | q
 ·have := (inv_open h q).1; unfold rightX at this; simp only [Bool.and_eq_true] at this
  have := tmX_le this.2.2.2; have e : (ctxF f).x = f.x := rfl; omega
 ·omega
variable {w0 w w' W w3 : World} {B q : Nat} {m : StM} {gs : List AcG} {va vp : Value}
theorem refApply_no (Hs : GS tyD B q m gs va vp w) (f : FX) (hwf : f.wf) (hR : rightF f = false) : Calls Tryz.prog 28 #[.pointer (some ⟨q, 0, none⟩), .agg f.cells] w fun r w' => r = .returned (.int .i64 (applyQ m f).1) ∧ ∃ gs' va' vp', GS tyD B q (applyQ m f).2 gs' va' vp' w' ∧ Asd (Ow q gs va vp) (Ow q gs' va' vp') w w' := by
 have hri := fun w1 => refRight14_any f hwf w1
 rw [applyQ_bad hR]; rw [hR] at hri; obtain ⟨fk, fn, fs, fr, fe, fp, fq, fo, fd, fa, ft, fh, fc, fx⟩ := f; dsimp only [FX.cells] at hri ⊢; obtain ⟨HRI, HS⟩ := hD2 hri Hs; have hkW := kA w (.cells #[fk, fn, fs, fr, fe, fp, fq, fo, fd, fa, ft, fh, fc, fx] 82); obtain ⟨f0, f1, f2, f3, f4, f5, f6, f7, f8, f9, f10, f11, f12, f13⟩ := cZ (mH w (.cells #[fk, fn, fs, fr, fe, fp, fq, fo, fd, fa, ft, fh, fc, fx] 82)); obtain ⟨W, hW⟩ : ∃ W, w.alloc (.cells #[fk, fn, fs, fr, fe, fp, fq, fo, fd, fa, ft, fh, fc, fx] 82) = W := ⟨_, rfl⟩
 rw [hW] at hkW f0 f1 f2 f3 f4 f5 f6 f7 f8 f9 f10 f11 f12 f13; have KW := hD hkW; clear Hs hwf hR hri hkW; go_enter Tryz.func28, Tryz.ntmps28; go_wp2_with (go_at_call 72; (with_reducible refine (HRI.out _).mono ?_); rintro e' w1 ⟨rfl, hk1⟩; have K1 := hD hk1; clear hk1)
 go_ret; exact ⟨rfl, gs, va, vp, HS.out.kp (kT KW.out K1.out), Asd.of_kp _ (kT KW.out K1.out)⟩
theorem refActA {i : Nat} {ii : Int} {xn xs xo xd : Int} {xx : Nat} {xp xc : Int} {xr : List RgM} {xb : Option Addr} {xk : Nat} (Hs : GS tyD B q m gs va vp w) (h8 : gs.length ≤ 8) (hii : (i : Int) = ii) (hg : gs[i]? = some ⟨⟨⟨xn, xs, xo, xd, xx⟩, xp, xc, xr⟩, xb, xk⟩) (h6 : xr.length ≤ 6) (fk : Int) (fn fs fr fe fp fq fo fd fa ft fh fc : Int) (fx : Nat) (hk : fk = 2 ∨ fk = 3 ∨ fk = 4 ∨ fk = 5) (hR : rightF (⟨fk, fn, fs, fr, fe, fp, fq, fo, fd, fa, ft, fh, fc, fx⟩ : FX) = true) : Calls Tryz.prog 76 #[.pointer (some ⟨q, 0, none⟩), .int .i64 ii, .agg #[fk, fn, fs, fr, fe, fp, fq, fo, fd, fa, ft, fh, fc, fx]] w fun r w' => r = .returned (.bool (actS m i ⟨⟨xn, xs, xo, xd, xx⟩, xp, xc, xr⟩ (⟨fk, fn, fs, fr, fe, fp, fq, fo, fd, fa, ft, fh, fc, fx⟩ : FX)).isSome) ∧ ∃ gs' va', GS tyD B q ((actS m i ⟨⟨xn, xs, xo, xd, xx⟩, xp, xc, xr⟩ (⟨fk, fn, fs, fr, fe, fp, fq, fo, fd, fa, ft, fh, fc, fx⟩ : FX)).getD m) gs' va' vp w' ∧ Asd (Ow q gs va vp) (Ow q gs' va' vp) w w' := by
 rcases hk with rfl | rfl | rfl | rfl
 ·exact refAct2 Hs h8 hii hg h6 fn fs fr fe fp fq fo fd fa ft fh fc fx
 ·exact refAct3 Hs h8 hii hg h6 fn fs fr fe fp fq fo fd fa ft fh fc fx (by have := okF_of hR; simp [okF] at this; omega)
 ·exact refAct4 Hs h8 hii hg h6 fn fs fr fe fp fq fo fd fa ft fh fc fx
 ·exact refAct5 Hs h8 hii hg h6 fn fs fr fe fp fq fo fd fa ft fh fc fx
theorem refApplyA (Hs : GS tyD B q m gs va vp w) (ok : OkS m) (fk : Int) (fn fs fr fe fp fq fo fd fa ft fh fc : Int) (fx : Nat) (hk : fk = 2 ∨ fk = 3 ∨ fk = 4 ∨ fk = 5) (hR : rightF (⟨fk, fn, fs, fr, fe, fp, fq, fo, fd, fa, ft, fh, fc, fx⟩ : FX) = true) : Calls Tryz.prog 28 #[.pointer (some ⟨q, 0, none⟩), .agg #[fk, fn, fs, fr, fe, fp, fq, fo, fd, fa, ft, fh, fc, fx]] w fun r w' => r = .returned (.int .i64 (applyQ m (⟨fk, fn, fs, fr, fe, fp, fq, fo, fd, fa, ft, fh, fc, fx⟩ : FX)).1) ∧ ∃ gs' va' vp', GS tyD B q (applyQ m (⟨fk, fn, fs, fr, fe, fp, fq, fo, fd, fa, ft, fh, fc, fx⟩ : FX)).2 gs' va' vp' w' ∧ Asd (Ow q gs va vp) (Ow q gs' va' vp') w w' := by
 obtain ⟨a0, c0, eva⟩ := Hs.vForm; obtain ⟨b0, d0, evp⟩ := Hs.pForm; obtain ⟨nd, nx, A, PL⟩ := m; obtain ⟨len, hl⟩ : ∃ x, gs.length = x := ⟨_, rfl⟩
 obtain ⟨np, hnp⟩ : ∃ x, PL.length = x := ⟨_, rfl⟩
 have hlA : A.length = len := by have := Hs.len; dsimp only at this; omega
 have l8 : len ≤ 8 := by have := ok.l8; dsimp only at this; omega
 have p8 : np ≤ 8 := by have := ok.p8; dsimp only at this; omega
 have e0 : w.cell? ⟨q, 0, none⟩ = some (.int .i64 nd) := cU (i := 0) Hs.row rfl; have e1 : w.cell? ⟨q, 1, none⟩ = some (.int .i64 nx) := cU (i := 1) Hs.row rfl; have e2 : w.cell? ⟨q, 2, none⟩ = some va := cU (i := 2) Hs.row rfl; have e3 : w.cell? ⟨q, 3, none⟩ = some vp := cU (i := 3) Hs.row rfl; dsimp only at evp; rw [eva, hl] at e2; rw [evp, hnp] at e3; have hkW := kA w (.cells #[fk, fn, fs, fr, fe, fp, fq, fo, fd, fa, ft, fh, fc, fx] 82); have rW := (mH w (.cells #[fk, fn, fs, fr, fe, fp, fq, fo, fd, fa, ft, fh, fc, fx] 82))
 obtain ⟨W, hW⟩ : ∃ W, w.alloc (.cells #[fk, fn, fs, fr, fe, fp, fq, fo, fd, fa, ft, fh, fc, fx] 82) = W := ⟨_, rfl⟩
 rw [hW] at hkW rW; obtain ⟨f0, f1, f2, f3, f4, f5, f6, f7, f8, f9, f10, f11, f12, f13⟩ := cZ rW; obtain ⟨e0, e1, e2, e3⟩ := kZ4 hkW e0 e1 e2 e3; have hwf : FX.wf (⟨fk, fn, fs, fr, fe, fp, fq, fo, fd, fa, ft, fh, fc, fx⟩ : FX) := right_wf hR; have hri := fun w1 => refRight14_any (⟨fk, fn, fs, fr, fe, fp, fq, fo, fd, fa, ft, fh, fc, fx⟩ : FX) hwf w1
 dsimp only [FX.cells] at hri; rw [hR] at hri; obtain ⟨HRI, HRR⟩ := hD2 hri hR; obtain ⟨L, hL⟩ : ∃ L : Int, (len : Int) = L := ⟨_, rfl⟩
 obtain ⟨NP, hNP⟩ : ∃ N : Int, (np : Int) = N := ⟨_, rfl⟩
 obtain ⟨HS, OK, HL, HLA, HNP, HLL, HNN, KW⟩ := hD8 Hs ok hl hlA hnp hL hNP hkW; obtain ⟨RW, EVA, EVP⟩ := hD3 rW eva evp; have L8 := hD (And.intro l8 p8); have hsf := sF; have hfi := fun w1 (h : Kp w w1) => refFind15 (Hs.kp h) (by rw [hl]; exact l8) fn fs
 try dsimp only at hfi
 obtain ⟨I, hI⟩ : ∃ x, findS A fn fs = x := ⟨_, rfl⟩
 rw [hI] at hfi
 cases I with
 | none =>
  rw [aZ hR (doS_act0 (m := ⟨nd, nx, A, PL⟩) hk hI)]; have HFI := hD hfi; have hn : placeQ none = -1 := rfl; rw [hn] at HFI; clear hn hI hfi HRR Hs ok hR hl hnp hlA l8 p8 hkW rW eva evp hwf hri
  rcases hk with rfl | rfl | rfl | rfl <;> (
   go_enter Tryz.func28, Tryz.ntmps28; go_wp2_with (first | (go_at_call 72; (with_reducible refine (HRI.out _).mono ?_); rintro e' w1 ⟨rfl, hk1⟩; have K1 := hD hk1; obtain ⟨e0, e1, e2, e3, f0, f1, f2, f3, f4, f5, f6, f7, f8, f9, f10, f11, f12, f13⟩ := kZ18 hk1 e0 e1 e2 e3 f0 f1 f2 f3 f4 f5 f6 f7 f8 f9 f10 f11 f12 f13; clear hk1) | (go_at_call 75; (with_reducible refine (HFI.out _ (kT KW.out K1.out)).mono ?_); rintro e' w2 ⟨rfl, hk2⟩; have K2 := hD (kT KW.out (kT K1.out hk2)); clear hk2))
   go_ret; exact ⟨rfl, gs, va, vp, HS.out.kp K2.out, Asd.of_kp _ K2.out⟩)
 | some i =>
  have hi : ∃ a, A[i]? = some a := by
   obtain ⟨a, h1, -⟩ := fS hI; exact ⟨a, h1⟩
  obtain ⟨⟨⟨xn, xs, xo, xd, xx⟩, xp, xc, xr⟩, ha⟩ := hi; obtain ⟨⟨ga, xb, xk⟩, hg, hga⟩ := Hs.at (i := i) ha
  try dsimp only at hga
  subst hga; have hdo := doS_act1 (m := ⟨nd, nx, A, PL⟩) (f := (⟨fk, fn, fs, fr, fe, fp, fq, fo, fd, fa, ft, fh, fc, fx⟩ : FX)) hk hI ha; have hoa := ok.a _ (List.mem_of_getElem? ha); have h6 : xr.length ≤ 6 := hoa.l; have hac := fun w1 (h : Kp w w1) => refActA (Hs.kp h) (by rw [hl]; exact l8) (rfl : (i : Int) = (i : Int)) hg h6 fk fn fs fr fe fp fq fo fd fa ft fh fc fx hk hR
  try dsimp only at hac
  obtain ⟨R, hRR⟩ : ∃ x, actS ⟨nd, nx, A, PL⟩ i ⟨⟨xn, xs, xo, xd, xx⟩, xp, xc, xr⟩ (⟨fk, fn, fs, fr, fe, fp, fq, fo, fd, fa, ft, fh, fc, fx⟩ : FX) = x := ⟨_, rfl⟩
  rw [hRR] at hac hdo; obtain ⟨ii, hii⟩ : ∃ ii : Int, (i : Int) = ii := ⟨_, rfl⟩
  have hpl : placeQ (some i) = ii := hii; have g0 : decide (ii < 0) = false := dF (by omega); rw [hii] at hac; rw [hpl] at hfi; obtain ⟨HFI, HAC⟩ := hD2 hfi hac
  cases R with
  | none =>
   rw [aZ hR hdo]; rw [show (none : Option StM).isSome = false from rfl, Option.getD_none] at HAC; clear HRR hac hpl hii hRR h6 hoa hg ha hdo hI hfi Hs ok hR hl hnp hlA l8 p8 hkW rW eva evp hwf hri
   rcases hk with rfl | rfl | rfl | rfl <;> (
    go_enter Tryz.func28, Tryz.ntmps28; go_wp2_with (first | (go_at_call 72; (with_reducible refine (HRI.out _).mono ?_); rintro e' w1 ⟨rfl, hk1⟩; have K1 := hD hk1; obtain ⟨e0, e1, e2, e3, f0, f1, f2, f3, f4, f5, f6, f7, f8, f9, f10, f11, f12, f13⟩ := kZ18 hk1 e0 e1 e2 e3 f0 f1 f2 f3 f4 f5 f6 f7 f8 f9 f10 f11 f12 f13; clear hk1) | (go_at_call 75; (with_reducible refine (HFI.out _ (kT KW.out K1.out)).mono ?_); rintro e' w2 ⟨rfl, hk2⟩; have K2 := hD (kT KW.out (kT K1.out hk2)); obtain ⟨f0, f1, f2, f3, f4, f5, f6, f7, f8, f9, f10, f11, f12, f13⟩ := kZ14 hk2 f0 f1 f2 f3 f4 f5 f6 f7 f8 f9 f10 f11 f12 f13; clear hk2) | (go_at_call 76; (with_reducible refine (HAC.out _ K2.out).mono ?_); rintro e' w3 ⟨rfl, gs3, va3, h3, hA3⟩; obtain ⟨H3, A3⟩ := hD2 h3 hA3; clear h3 hA3))
    go_ret; exact ⟨rfl, gs3, va3, vp, H3.out, (Asd.of_kp _ K2.out).trans A3.out⟩)
  | some m2 =>
   rw [aS hR hdo]; rw [show (some m2 : Option StM).isSome = true from rfl, Option.getD_some] at HAC; clear HRR hac hpl hii hRR h6 hoa hg ha hdo hI hfi Hs ok hR hl hnp hlA l8 p8 hkW rW eva evp hwf hri
   rcases hk with rfl | rfl | rfl | rfl <;> (
    go_enter Tryz.func28, Tryz.ntmps28; go_wp2_with (first | (go_at_call 72; (with_reducible refine (HRI.out _).mono ?_); rintro e' w1 ⟨rfl, hk1⟩; have K1 := hD hk1; obtain ⟨e0, e1, e2, e3, f0, f1, f2, f3, f4, f5, f6, f7, f8, f9, f10, f11, f12, f13⟩ := kZ18 hk1 e0 e1 e2 e3 f0 f1 f2 f3 f4 f5 f6 f7 f8 f9 f10 f11 f12 f13; clear hk1) | (go_at_call 75; (with_reducible refine (HFI.out _ (kT KW.out K1.out)).mono ?_); rintro e' w2 ⟨rfl, hk2⟩; have K2 := hD (kT KW.out (kT K1.out hk2)); obtain ⟨f0, f1, f2, f3, f4, f5, f6, f7, f8, f9, f10, f11, f12, f13⟩ := kZ14 hk2 f0 f1 f2 f3 f4 f5 f6 f7 f8 f9 f10 f11 f12 f13; clear hk2) | (go_at_call 76; (with_reducible refine (HAC.out _ K2.out).mono ?_); rintro e' w3 ⟨rfl, gs3, va3, h3, hA3⟩; obtain ⟨H3, A3⟩ := hD2 h3 hA3; clear h3 hA3))
    go_ret; exact ⟨rfl, gs3, va3, vp, H3.out, (Asd.of_kp _ K2.out).trans A3.out⟩)
theorem refApply2 (Hs : GS tyD B q m gs va vp w) (ok : OkS m) (fn fs fr fe fp fq fo fd fa ft fh fc : Int) (fx : Nat) (hR : rightF (⟨2, fn, fs, fr, fe, fp, fq, fo, fd, fa, ft, fh, fc, fx⟩ : FX) = true) : Calls Tryz.prog 28 #[.pointer (some ⟨q, 0, none⟩), .agg #[(2:Int), fn, fs, fr, fe, fp, fq, fo, fd, fa, ft, fh, fc, fx]] w fun r w' => r = .returned (.int .i64 (applyQ m (⟨2, fn, fs, fr, fe, fp, fq, fo, fd, fa, ft, fh, fc, fx⟩ : FX)).1) ∧ ∃ gs' va' vp', GS tyD B q (applyQ m (⟨2, fn, fs, fr, fe, fp, fq, fo, fd, fa, ft, fh, fc, fx⟩ : FX)).2 gs' va' vp' w' ∧ Asd (Ow q gs va vp) (Ow q gs' va' vp') w w' := refApplyA Hs ok 2 fn fs fr fe fp fq fo fd fa ft fh fc fx (by omega) hR
theorem refApply3 (Hs : GS tyD B q m gs va vp w) (ok : OkS m) (fn fs fr fe fp fq fo fd fa ft fh fc : Int) (fx : Nat) (hR : rightF (⟨3, fn, fs, fr, fe, fp, fq, fo, fd, fa, ft, fh, fc, fx⟩ : FX) = true) : Calls Tryz.prog 28 #[.pointer (some ⟨q, 0, none⟩), .agg #[(3:Int), fn, fs, fr, fe, fp, fq, fo, fd, fa, ft, fh, fc, fx]] w fun r w' => r = .returned (.int .i64 (applyQ m (⟨3, fn, fs, fr, fe, fp, fq, fo, fd, fa, ft, fh, fc, fx⟩ : FX)).1) ∧ ∃ gs' va' vp', GS tyD B q (applyQ m (⟨3, fn, fs, fr, fe, fp, fq, fo, fd, fa, ft, fh, fc, fx⟩ : FX)).2 gs' va' vp' w' ∧ Asd (Ow q gs va vp) (Ow q gs' va' vp') w w' := refApplyA Hs ok 3 fn fs fr fe fp fq fo fd fa ft fh fc fx (by omega) hR
theorem refApply4 (Hs : GS tyD B q m gs va vp w) (ok : OkS m) (fn fs fr fe fp fq fo fd fa ft fh fc : Int) (fx : Nat) (hR : rightF (⟨4, fn, fs, fr, fe, fp, fq, fo, fd, fa, ft, fh, fc, fx⟩ : FX) = true) : Calls Tryz.prog 28 #[.pointer (some ⟨q, 0, none⟩), .agg #[(4:Int), fn, fs, fr, fe, fp, fq, fo, fd, fa, ft, fh, fc, fx]] w fun r w' => r = .returned (.int .i64 (applyQ m (⟨4, fn, fs, fr, fe, fp, fq, fo, fd, fa, ft, fh, fc, fx⟩ : FX)).1) ∧ ∃ gs' va' vp', GS tyD B q (applyQ m (⟨4, fn, fs, fr, fe, fp, fq, fo, fd, fa, ft, fh, fc, fx⟩ : FX)).2 gs' va' vp' w' ∧ Asd (Ow q gs va vp) (Ow q gs' va' vp') w w' := refApplyA Hs ok 4 fn fs fr fe fp fq fo fd fa ft fh fc fx (by omega) hR
theorem refApply5 (Hs : GS tyD B q m gs va vp w) (ok : OkS m) (fn fs fr fe fp fq fo fd fa ft fh fc : Int) (fx : Nat) (hR : rightF (⟨5, fn, fs, fr, fe, fp, fq, fo, fd, fa, ft, fh, fc, fx⟩ : FX) = true) : Calls Tryz.prog 28 #[.pointer (some ⟨q, 0, none⟩), .agg #[(5:Int), fn, fs, fr, fe, fp, fq, fo, fd, fa, ft, fh, fc, fx]] w fun r w' => r = .returned (.int .i64 (applyQ m (⟨5, fn, fs, fr, fe, fp, fq, fo, fd, fa, ft, fh, fc, fx⟩ : FX)).1) ∧ ∃ gs' va' vp', GS tyD B q (applyQ m (⟨5, fn, fs, fr, fe, fp, fq, fo, fd, fa, ft, fh, fc, fx⟩ : FX)).2 gs' va' vp' w' ∧ Asd (Ow q gs va vp) (Ow q gs' va' vp') w w' := refApplyA Hs ok 5 fn fs fr fe fp fq fo fd fa ft fh fc fx (by omega) hR
theorem refApply7 (Hs : GS tyD B q m gs va vp w) (ok : OkS m) (fn fs fr fe fp fq fo fd fa ft fh fc : Int) (fx : Nat) (hR : rightF (⟨7, fn, fs, fr, fe, fp, fq, fo, fd, fa, ft, fh, fc, fx⟩ : FX) = true) : Calls Tryz.prog 28 #[.pointer (some ⟨q, 0, none⟩), .agg #[(7:Int), fn, fs, fr, fe, fp, fq, fo, fd, fa, ft, fh, fc, fx]] w fun r w' => r = .returned (.int .i64 (applyQ m (⟨7, fn, fs, fr, fe, fp, fq, fo, fd, fa, ft, fh, fc, fx⟩ : FX)).1) ∧ ∃ gs' va' vp', GS tyD B q (applyQ m (⟨7, fn, fs, fr, fe, fp, fq, fo, fd, fa, ft, fh, fc, fx⟩ : FX)).2 gs' va' vp' w' ∧ Asd (Ow q gs va vp) (Ow q gs' va' vp') w w' := by
 obtain ⟨a0, c0, eva⟩ := Hs.vForm; obtain ⟨b0, d0, evp⟩ := Hs.pForm; obtain ⟨nd, nx, A, PL⟩ := m; obtain ⟨len, hl⟩ : ∃ x, gs.length = x := ⟨_, rfl⟩
 obtain ⟨np, hnp⟩ : ∃ x, PL.length = x := ⟨_, rfl⟩
 have hlA : A.length = len := by have := Hs.len; dsimp only at this; omega
 have l8 : len ≤ 8 := by have := ok.l8; dsimp only at this; omega
 have p8 : np ≤ 8 := by have := ok.p8; dsimp only at this; omega
 have e0 : w.cell? ⟨q, 0, none⟩ = some (.int .i64 nd) := cU (i := 0) Hs.row rfl; have e1 : w.cell? ⟨q, 1, none⟩ = some (.int .i64 nx) := cU (i := 1) Hs.row rfl; have e2 : w.cell? ⟨q, 2, none⟩ = some va := cU (i := 2) Hs.row rfl; have e3 : w.cell? ⟨q, 3, none⟩ = some vp := cU (i := 3) Hs.row rfl; dsimp only at evp; rw [eva, hl] at e2; rw [evp, hnp] at e3; have hkW := kA w (.cells #[(7:Int), fn, fs, fr, fe, fp, fq, fo, fd, fa, ft, fh, fc, fx] 82); have rW := (mH w (.cells #[(7:Int), fn, fs, fr, fe, fp, fq, fo, fd, fa, ft, fh, fc, fx] 82))
 obtain ⟨W, hW⟩ : ∃ W, w.alloc (.cells #[(7:Int), fn, fs, fr, fe, fp, fq, fo, fd, fa, ft, fh, fc, fx] 82) = W := ⟨_, rfl⟩
 rw [hW] at hkW rW; obtain ⟨f0, f1, f2, f3, f4, f5, f6, f7, f8, f9, f10, f11, f12, f13⟩ := cZ rW; obtain ⟨e0, e1, e2, e3⟩ := kZ4 hkW e0 e1 e2 e3; have hwf : FX.wf (⟨7, fn, fs, fr, fe, fp, fq, fo, fd, fa, ft, fh, fc, fx⟩ : FX) := right_wf hR; have hri := fun w1 => refRight14_any (⟨7, fn, fs, fr, fe, fp, fq, fo, fd, fa, ft, fh, fc, fx⟩ : FX) hwf w1
 dsimp only [FX.cells] at hri; rw [hR] at hri; obtain ⟨HRI, HRR⟩ := hD2 hri hR; obtain ⟨L, hL⟩ : ∃ L : Int, (len : Int) = L := ⟨_, rfl⟩
 obtain ⟨NP, hNP⟩ : ∃ N : Int, (np : Int) = N := ⟨_, rfl⟩
 obtain ⟨HS, OK, HL, HLA, HNP, HLL, HNN, KW⟩ := hD8 Hs ok hl hlA hnp hL hNP hkW; obtain ⟨RW, EVA, EVP⟩ := hD3 rW eva evp; have L8 := hD (And.intro l8 p8); have hsf := sF; have hp0 : 0 ≤ fp := (by have := okF_of hR; simp [okF] at this; omega)
 by_cases h1 : fp < NP
 rotate_left
 ·have hno : PL[fp.toNat]? = none := List.getElem?_eq_none (by omega); have hdo : doS ⟨nd, nx, A, PL⟩ (⟨7, fn, fs, fr, fe, fp, fq, fo, fd, fa, ft, fh, fc, fx⟩ : FX) = none := by unfold doS; simp [hno]
  rw [aZ hR hdo]; have g1 : decide (fp ≥ NP) = true := dT (by omega); clear hdo hno h1 Hs ok hR hl hnp hlA l8 p8 hkW rW eva evp hwf hri; go_enter Tryz.func28, Tryz.ntmps28; go_wp2_with (go_at_call 72; (with_reducible refine (HRI.out _).mono ?_); rintro e' w1 ⟨rfl, hk1⟩; have K1 := hD hk1; obtain ⟨e0, e1, e2, e3, f0, f1, f2, f3, f4, f5, f6, f7, f8, f9, f10, f11, f12, f13⟩ := kZ18 hk1 e0 e1 e2 e3 f0 f1 f2 f3 f4 f5 f6 f7 f8 f9 f10 f11 f12 f13; clear hk1)
  go_region
  go_wp2; go_ret; exact ⟨rfl, gs, va, vp, HS.out.kp (kT KW.out (dQ K1.out)), Asd.of_kp _ (kT KW.out (dQ K1.out))⟩
 ·have g1 : decide (fp ≥ NP) = false := dF (by omega); have hpn : fp.toNat < PL.length := by omega
  obtain ⟨⟨yn, ys, yr, ⟨zp, ze, zt, zh⟩⟩, hx⟩ : ∃ x, PL[fp.toNat]? = some x := ⟨_, List.getElem?_eq_getElem hpn⟩
  obtain ⟨gp, ck, evp2, hck, hgpB, hgpl, hfzp, hcp⟩ := cQ (E := paE) Hs.op rfl hpn; have hcp2 : ∀ (i : Nat) (u : Value), i < paE.k → (paE.enc (PL[fp.toNat]'hpn))[i]? = some u → w.cell? ⟨gp, fp.toNat * paE.k + i, none⟩ = some u := hcp; rw [(List.getElem?_eq_some_iff.1 hx).2, show paE.k = 7 from rfl] at hcp2; have evp3 := evp2.symm.trans evp; injection evp3 with evp3 _ evp4
  subst evp3; have y2 := kZ hkW (hcp2 2 _ (by decide) rfl); have y3 := kZ hkW (hcp2 3 _ (by decide) rfl); have y4 := kZ hkW (hcp2 4 _ (by decide) rfl); have y5 := kZ hkW (hcp2 5 _ (by decide) rfl); have y6 := kZ hkW (hcp2 6 _ (by decide) rfl); have HZP := hD (show ∀ w', Kp w w' → ∀ j, w'.frozen? ⟨gp, j, none⟩ = false from fun w' h j => by rw [Below.frozen h hgpl]; exact hfzp j); have HX := hD hx; dsimp only at evp2; subst evp2
  by_cases h2 : 0 ≤ yr
  ·have hdo : doS ⟨nd, nx, A, PL⟩ (⟨7, fn, fs, fr, fe, fp, fq, fo, fd, fa, ft, fh, fc, fx⟩ : FX) = none := by unfold doS; simp [hx, h2]
   rw [aZ hR hdo]; have g2 : decide (yr ≥ 0) = true := dT h2; clear hdo h2 Hs ok hR hl hnp hlA l8 p8 hkW rW eva hwf hri hpn hx hck hgpB hgpl hfzp hcp hcp2 evp4; go_enter Tryz.func28, Tryz.ntmps28; go_wp2_with (go_at_call 72; (with_reducible refine (HRI.out _).mono ?_); rintro e' w1 ⟨rfl, hk1⟩; have K1 := hD hk1; obtain ⟨e0, e1, e2, e3, f0, f1, f2, f3, f4, f5, f6, f7, f8, f9, f10, f11, f12, f13⟩ := kZ18 hk1 e0 e1 e2 e3 f0 f1 f2 f3 f4 f5 f6 f7 f8 f9 f10 f11 f12 f13; obtain ⟨y2, y3, y4, y5, y6⟩ := kZ5 hk1 y2 y3 y4 y5 y6; clear hk1)
   go_region
   go_wp2; go_ret; exact ⟨rfl, gs, va, _, HS.out.kp (kT KW.out (dQ K1.out)), Asd.of_kp _ (kT KW.out (dQ K1.out))⟩
  ·have hdo : doS ⟨nd, nx, A, PL⟩ (⟨7, fn, fs, fr, fe, fp, fq, fo, fd, fa, ft, fh, fc, fx⟩ : FX) = some ⟨nd, nx, A, PL.set fp.toNat ⟨yn, ys, fr, ⟨zp, ze, zt, zh⟩⟩⟩ := by unfold doS; simp [hx, h2]
   rw [aS hR hdo]; have g2 : decide (yr ≥ 0) = false := dF (by omega); clear hdo h2 Hs ok hR hl hnp hlA l8 p8 hkW rW eva hwf hri hpn hx hck hgpB hgpl hfzp hcp hcp2 evp4; go_enter Tryz.func28, Tryz.ntmps28; go_wp2_with (go_at_call 72; (with_reducible refine (HRI.out _).mono ?_); rintro e' w1 ⟨rfl, hk1⟩; have K1 := hD hk1; obtain ⟨e0, e1, e2, e3, f0, f1, f2, f3, f4, f5, f6, f7, f8, f9, f10, f11, f12, f13⟩ := kZ18 hk1 e0 e1 e2 e3 f0 f1 f2 f3 f4 f5 f6 f7 f8 f9 f10 f11 f12 f13; obtain ⟨y2, y3, y4, y5, y6⟩ := kZ5 hk1 y2 y3 y4 y5 y6; clear hk1)
   go_region
   go_wp2_with fail
   obtain ⟨w2, hw2⟩ : ∃ x, w1.drew = x := ⟨_, rfl⟩
   have k2 : Kp w1 w2 := by rw [← hw2]; exact dQ (Kp.refl _)
   rw [hw2]; obtain ⟨e3, f3, f5, y2⟩ := kZ4 k2 e3 f3 f5 y2; have z2 := HZP.out w2 (kT KW.out (kT K1.out k2)) (fp.toNat * 7 + 2); have K2 := hD (kT K1.out k2); clear k2 hw2; go_still_tail 8, (by kernel_rfl)
   change wpList _ _ _ _ _ w2.drew
   go_wp2; have FIN := (HS.out.kp (kT KW.out (dQ K2.out))).setP tyD_ok HX.out (i := 2) (x' := ⟨yn, ys, fr, ⟨zp, ze, zt, zh⟩⟩) (y := .int .i64 fr) (by decide) rfl; go_ret; exact ⟨rfl, gs, va, _, FIN.1, (Asd.of_kp _ (kT KW.out (dQ K2.out))).trans FIN.2⟩
theorem refApply8 (Hs : GS tyD B q m gs va vp w) (ok : OkS m) (fn fs fr fe fp fq fo fd fa ft fh fc : Int) (fx : Nat) (hR : rightF (⟨8, fn, fs, fr, fe, fp, fq, fo, fd, fa, ft, fh, fc, fx⟩ : FX) = true) : Calls Tryz.prog 28 #[.pointer (some ⟨q, 0, none⟩), .agg #[(8:Int), fn, fs, fr, fe, fp, fq, fo, fd, fa, ft, fh, fc, fx]] w fun r w' => r = .returned (.int .i64 (applyQ m (⟨8, fn, fs, fr, fe, fp, fq, fo, fd, fa, ft, fh, fc, fx⟩ : FX)).1) ∧ ∃ gs' va' vp', GS tyD B q (applyQ m (⟨8, fn, fs, fr, fe, fp, fq, fo, fd, fa, ft, fh, fc, fx⟩ : FX)).2 gs' va' vp' w' ∧ Asd (Ow q gs va vp) (Ow q gs' va' vp') w w' := by
 obtain ⟨a0, c0, eva⟩ := Hs.vForm; obtain ⟨b0, d0, evp⟩ := Hs.pForm; obtain ⟨nd, nx, A, PL⟩ := m; obtain ⟨len, hl⟩ : ∃ x, gs.length = x := ⟨_, rfl⟩
 obtain ⟨np, hnp⟩ : ∃ x, PL.length = x := ⟨_, rfl⟩
 have hlA : A.length = len := by have := Hs.len; dsimp only at this; omega
 have l8 : len ≤ 8 := by have := ok.l8; dsimp only at this; omega
 have p8 : np ≤ 8 := by have := ok.p8; dsimp only at this; omega
 have e0 : w.cell? ⟨q, 0, none⟩ = some (.int .i64 nd) := cU (i := 0) Hs.row rfl; have e1 : w.cell? ⟨q, 1, none⟩ = some (.int .i64 nx) := cU (i := 1) Hs.row rfl; have e2 : w.cell? ⟨q, 2, none⟩ = some va := cU (i := 2) Hs.row rfl; have e3 : w.cell? ⟨q, 3, none⟩ = some vp := cU (i := 3) Hs.row rfl; dsimp only at evp; rw [eva, hl] at e2; rw [evp, hnp] at e3; have hkW := kA w (.cells #[(8:Int), fn, fs, fr, fe, fp, fq, fo, fd, fa, ft, fh, fc, fx] 82); have rW := (mH w (.cells #[(8:Int), fn, fs, fr, fe, fp, fq, fo, fd, fa, ft, fh, fc, fx] 82))
 obtain ⟨W, hW⟩ : ∃ W, w.alloc (.cells #[(8:Int), fn, fs, fr, fe, fp, fq, fo, fd, fa, ft, fh, fc, fx] 82) = W := ⟨_, rfl⟩
 rw [hW] at hkW rW; obtain ⟨f0, f1, f2, f3, f4, f5, f6, f7, f8, f9, f10, f11, f12, f13⟩ := cZ rW; obtain ⟨e0, e1, e2, e3⟩ := kZ4 hkW e0 e1 e2 e3; have hwf : FX.wf (⟨8, fn, fs, fr, fe, fp, fq, fo, fd, fa, ft, fh, fc, fx⟩ : FX) := right_wf hR; have hri := fun w1 => refRight14_any (⟨8, fn, fs, fr, fe, fp, fq, fo, fd, fa, ft, fh, fc, fx⟩ : FX) hwf w1
 dsimp only [FX.cells] at hri; rw [hR] at hri; obtain ⟨HRI, HRR⟩ := hD2 hri hR; obtain ⟨L, hL⟩ : ∃ L : Int, (len : Int) = L := ⟨_, rfl⟩
 obtain ⟨NP, hNP⟩ : ∃ N : Int, (np : Int) = N := ⟨_, rfl⟩
 obtain ⟨HS, OK, HL, HLA, HNP, HLL, HNN, KW⟩ := hD8 Hs ok hl hlA hnp hL hNP hkW; obtain ⟨RW, EVA, EVP⟩ := hD3 rW eva evp; have L8 := hD (And.intro l8 p8); have hsf := sF; have hp0 : 0 ≤ fp := (by have := okF_of hR; simp [okF] at this; omega)
 by_cases h1 : fp < NP
 rotate_left
 ·have hno : PL[fp.toNat]? = none := List.getElem?_eq_none (by omega); have hdo : doS ⟨nd, nx, A, PL⟩ (⟨8, fn, fs, fr, fe, fp, fq, fo, fd, fa, ft, fh, fc, fx⟩ : FX) = none := by unfold doS; simp [hno]
  rw [aZ hR hdo]; have g1 : decide (fp ≥ NP) = true := dT (by omega); clear hdo hno h1 Hs ok hR hl hnp hlA l8 p8 hkW rW eva evp hwf hri; go_enter Tryz.func28, Tryz.ntmps28; go_wp2_with (go_at_call 72; (with_reducible refine (HRI.out _).mono ?_); rintro e' w1 ⟨rfl, hk1⟩; have K1 := hD hk1; obtain ⟨e0, e1, e2, e3, f0, f1, f2, f3, f4, f5, f6, f7, f8, f9, f10, f11, f12, f13⟩ := kZ18 hk1 e0 e1 e2 e3 f0 f1 f2 f3 f4 f5 f6 f7 f8 f9 f10 f11 f12 f13; clear hk1)
  go_region
  go_wp2; go_ret; exact ⟨rfl, gs, va, vp, HS.out.kp (kT KW.out (dQ K1.out)), Asd.of_kp _ (kT KW.out (dQ K1.out))⟩
 ·have g1 : decide (fp ≥ NP) = false := dF (by omega); have hpn : fp.toNat < PL.length := by omega
  obtain ⟨⟨yn, ys, yr, ⟨zp, ze, zt, zh⟩⟩, hx⟩ : ∃ x, PL[fp.toNat]? = some x := ⟨_, List.getElem?_eq_getElem hpn⟩
  obtain ⟨gp, ck, evp2, hck, hgpB, hgpl, hfzp, hcp⟩ := cQ (E := paE) Hs.op rfl hpn; have hcp2 : ∀ (i : Nat) (u : Value), i < paE.k → (paE.enc (PL[fp.toNat]'hpn))[i]? = some u → w.cell? ⟨gp, fp.toNat * paE.k + i, none⟩ = some u := hcp; rw [(List.getElem?_eq_some_iff.1 hx).2, show paE.k = 7 from rfl] at hcp2; have evp3 := evp2.symm.trans evp; injection evp3 with evp3 _ evp4
  subst evp3; have y2 := kZ hkW (hcp2 2 _ (by decide) rfl); have y3 := kZ hkW (hcp2 3 _ (by decide) rfl); have y4 := kZ hkW (hcp2 4 _ (by decide) rfl); have y5 := kZ hkW (hcp2 5 _ (by decide) rfl); have y6 := kZ hkW (hcp2 6 _ (by decide) rfl); have HZP := hD (show ∀ w', Kp w w' → ∀ j, w'.frozen? ⟨gp, j, none⟩ = false from fun w' h j => by rw [Below.frozen h hgpl]; exact hfzp j); have HX := hD hx; dsimp only at evp2; subst evp2; have HT := hD (fun w1 : World => refTurned15 ⟨zp, ze, zt, zh⟩ (⟨8, fn, fs, fr, fe, fp, fq, fo, fd, fa, ft, fh, fc, fx⟩ : FX) w1); dsimp only [seatV, FX.cells] at HT; have hdo : doS ⟨nd, nx, A, PL⟩ (⟨8, fn, fs, fr, fe, fp, fq, fo, fd, fa, ft, fh, fc, fx⟩ : FX) = if turnOk ⟨zp, ze, zt, zh⟩ ft fh = true then some ⟨nd, nx, A, PL.set fp.toNat ⟨yn, ys, yr, ⟨zp, ze, ft, fh⟩⟩⟩ else none := by
   unfold doS; dsimp only; rw [if_neg (by decide), if_neg (by decide), if_neg (by decide), if_pos rfl, hx]; dsimp only; rw [turnS_eq]
   by_cases ht : turnOk ⟨zp, ze, zt, zh⟩ ft fh = true
   ·rw [if_pos ht, if_pos ht]
    rfl
   ·rw [if_neg ht, if_neg ht]
    rfl
  obtain ⟨tk, htk⟩ : ∃ b, turnOk ⟨zp, ze, zt, zh⟩ ft fh = b := ⟨_, rfl⟩
  rw [htk] at HT hdo; have hap : applyQ ⟨nd, nx, A, PL⟩ (⟨8, fn, fs, fr, fe, fp, fq, fo, fd, fa, ft, fh, fc, fx⟩ : FX) = if tk = true then (0, ⟨nd, nx, A, PL.set fp.toNat ⟨yn, ys, yr, ⟨zp, ze, ft, fh⟩⟩⟩) else (9, ⟨nd, nx, A, PL⟩) := by
   cases tk with
   | false => exact aZ hR hdo
   | true => exact aS hR hdo
  rw [hap]; clear hap hdo htk Hs ok hR hl hnp hlA l8 p8 hkW rW eva hwf hri hpn hx hck hgpB hgpl hfzp hcp hcp2 evp4; go_enter Tryz.func28, Tryz.ntmps28; go_wp2_with (go_at_call 72; (with_reducible refine (HRI.out _).mono ?_); rintro e' w1 ⟨rfl, hk1⟩; have K1 := hD hk1; obtain ⟨e0, e1, e2, e3, f0, f1, f2, f3, f4, f5, f6, f7, f8, f9, f10, f11, f12, f13⟩ := kZ18 hk1 e0 e1 e2 e3 f0 f1 f2 f3 f4 f5 f6 f7 f8 f9 f10 f11 f12 f13; obtain ⟨y2, y3, y4, y5, y6⟩ := kZ5 hk1 y2 y3 y4 y5 y6; clear hk1)
  go_region
  go_wp2_with fail
  obtain ⟨WD, hWD⟩ : ∃ x, w1.drew.drew = x := ⟨_, rfl⟩
  have kD : Kp w1 WD := by rw [← hWD]; exact dQ (dQ (Kp.refl w1))
  have HWD := hD hWD; clear hWD; refine rgW (fun w' => Kp w1 w') ?_ fun hH => ?_
  ·exact by rw [HWD.out]; exact kD
  rw [HWD.out] at hH ⊢; have hDD : Kp w1 WD := hH; refine tkP 0 ?_
  go_simp; refine tkP 1 ?_
  go_simp; refine tkP 2 ?_
  go_simp; refine tkP 3 ?_ (y := by intro w hZ; have g7 := kZ hZ e3; go_simp; try rfl)
  go_simp; refine tkP 4 ?_
  go_simp; refine tkP 5 ?_ (y := by intro w hZ; have gf := kZ hZ f5; go_simp; try rfl)
  go_simp; refine tkP 6 ?_
  go_simp; refine tkP 7 ?_
  go_simp; refine tkP 8 ?_ (y := by intro w hZ; obtain ⟨a3, a4, a5, a6⟩ := kZ4 hZ y3 y4 y5 y6; go_simp; try rfl)
  go_simp; refine tkP 9 ?_ (y := by intro w hZ; obtain ⟨a0, a1, a2, a3, a4, a5, a6, a7, a8, a9, a10, a11, a12, a13⟩ := kZ14 hZ f0 f1 f2 f3 f4 f5 f6 f7 f8 f9 f10 f11 f12 f13; go_simp; try rfl)
  go_simp; refine wpAnyH_ready (rs := [10, 14]) (by kernel_rfl) (by simp) ?_
  refine aC (fun K hK => ?_) (aC (fun K hK => ?_) aN0)
  ·go_simp; go_wp2_with (go_at_call 74; (with_reducible refine (HT.out _).mono ?_); rintro e' w5 ⟨rfl, hk5⟩)
   refine hK.out _ _ (kT hH hk5) fun hH => ?_
   clear hK K; have h55 : Kp w1 w5 := hH; refine tkP 11 ?_
   go_simp; refine tkP 12 ?_
   go_simp; refine tkP 13 ?_
   go_simp; refine rdW 14 fun K hK => ?_
   go_simp; refine hK.out _ _ (kT hH (kA _ _)) fun hH => ?_
   clear hK K; obtain ⟨Y14, hY14⟩ : ∃ x, w5.alloc (.cells #[(0:Int), (0:Int), (0:Int), (0:Int)] 93) = x := ⟨_, rfl⟩
   have r14 : Y14.heap[w5.heap.size]? = some (.cells #[(0:Int), (0:Int), (0:Int), (0:Int)] 93) := by rw [← hY14]; exact (mH w5 (.cells #[(0:Int), (0:Int), (0:Int), (0:Int)] 93))
   have b14 : w1.heap.size ≤ w5.heap.size := kS (show Kp w1 w5 from by assumption); obtain ⟨p14, hp14⟩ : ∃ x, w5.heap.size = x := ⟨_, rfl⟩
   rw [hp14] at r14 b14; rw [hY14] at hH ⊢
   try rw [hp14]
   clear hY14 hp14; have hYY : Kp w1 Y14 := hH; refine rdW 15 fun K hK => ?_
   obtain ⟨v0, v1, v2, v3⟩ := cells_4 r14; have fz5 := fQ r14; go_simp; refine hK.out _ _ (set_4_kp hH b14 _ _ _ _) fun hH => ?_
   clear hK K; obtain ⟨w6, hw6⟩ : ∃ x, (((Y14.setCell ⟨p14, 0, none⟩ (.int .i64 zp)).setCell ⟨p14, 1, none⟩ (.int .i64 ze)).setCell ⟨p14, 2, none⟩ (.int .i64 ft)).setCell ⟨p14, 3, none⟩ (.int .i64 fh) = x := ⟨_, rfl⟩
   have r10 : w6.heap[p14]? = some (.cells #[zp, ze, ft, fh] 93) := by rw [← hw6]; exact set_4 _ _ _ _ r14
   rw [hw6] at hH ⊢; have kw6 : Kp w1 w6 := hH; clear hw6 v0 v1 v2 v3 fz5; refine tkP 16 ?_
   go_simp; refine dnW ?_ _
   obtain ⟨g0, gf, h3, h4, h5⟩ := kZ5 kw6 e3 f5 y3 y4 y5; have h6 := kZ kw6 y6; obtain ⟨s0, s1, s2, s3⟩ := cells_4 r10; have zz := HZP.out w6 (kT KW.out (kT K1.out kw6)); have KW6 := hD (kT KW.out (kT K1.out kw6))
   cases tk with
   | false =>
    clear kw6 hH; go_wp2; go_ret; exact ⟨rfl, gs, va, _, HS.out.kp KW6.out, Asd.of_kp _ KW6.out⟩
   | true =>
    clear kw6 hH; go_wp2_with fail
    go_still_tail 7, (by kernel_rfl)
    change wpList _ _ _ _ _ w6.drew
    go_wp2; have FIN := (HS.out.kp KW6.out.drew).seatP tyD_ok HX.out ⟨zp, ze, ft, fh⟩; go_ret; exact ⟨rfl, gs, va, _, FIN.1, (Asd.of_kp _ KW6.out.drew).trans FIN.2⟩
  ·go_simp; refine hK.out _ _ (kT hH (kA _ _)) fun hH => ?_
   clear hK K; obtain ⟨Y14, hY14⟩ : ∃ x, WD.alloc (.cells #[(0:Int), (0:Int), (0:Int), (0:Int)] 93) = x := ⟨_, rfl⟩
   have r14 : Y14.heap[WD.heap.size]? = some (.cells #[(0:Int), (0:Int), (0:Int), (0:Int)] 93) := by rw [← hY14]; exact (mH WD (.cells #[(0:Int), (0:Int), (0:Int), (0:Int)] 93))
   have b14 : w1.heap.size ≤ WD.heap.size := kS (show Kp w1 WD from by assumption); obtain ⟨p14, hp14⟩ : ∃ x, WD.heap.size = x := ⟨_, rfl⟩
   rw [hp14] at r14 b14; rw [hY14] at hH ⊢
   try rw [hp14]
   clear hY14 hp14; have hYY : Kp w1 Y14 := hH; refine rdW 10 fun K hK => ?_
   go_simp; go_wp2_with (go_at_call 74; (with_reducible refine (HT.out _).mono ?_); rintro e' w5 ⟨rfl, hk5⟩)
   refine hK.out _ _ (kT hH hk5) fun hH => ?_
   clear hK K; have h55 : Kp w1 w5 := hH; have r14 := rZ hk5 r14; refine tkP 11 ?_
   go_simp; refine tkP 12 ?_
   go_simp; refine tkP 13 ?_
   go_simp; refine rdW 15 fun K hK => ?_
   obtain ⟨v0, v1, v2, v3⟩ := cells_4 r14; have fz5 := fQ r14; go_simp; refine hK.out _ _ (set_4_kp hH b14 _ _ _ _) fun hH => ?_
   clear hK K; obtain ⟨w6, hw6⟩ : ∃ x, (((w5.setCell ⟨p14, 0, none⟩ (.int .i64 zp)).setCell ⟨p14, 1, none⟩ (.int .i64 ze)).setCell ⟨p14, 2, none⟩ (.int .i64 ft)).setCell ⟨p14, 3, none⟩ (.int .i64 fh) = x := ⟨_, rfl⟩
   have r10 : w6.heap[p14]? = some (.cells #[zp, ze, ft, fh] 93) := by rw [← hw6]; exact set_4 _ _ _ _ r14
   rw [hw6] at hH ⊢; have kw6 : Kp w1 w6 := hH; clear hw6 v0 v1 v2 v3 fz5; refine tkP 16 ?_
   go_simp; refine dnW ?_ _
   obtain ⟨g0, gf, h3, h4, h5⟩ := kZ5 kw6 e3 f5 y3 y4 y5; have h6 := kZ kw6 y6; obtain ⟨s0, s1, s2, s3⟩ := cells_4 r10; have zz := HZP.out w6 (kT KW.out (kT K1.out kw6)); have KW6 := hD (kT KW.out (kT K1.out kw6))
   cases tk with
   | false =>
    clear kw6 hH; go_wp2; go_ret; exact ⟨rfl, gs, va, _, HS.out.kp KW6.out, Asd.of_kp _ KW6.out⟩
   | true =>
    clear kw6 hH; go_wp2_with fail
    go_still_tail 7, (by kernel_rfl)
    change wpList _ _ _ _ _ w6.drew
    go_wp2; have FIN := (HS.out.kp KW6.out.drew).seatP tyD_ok HX.out ⟨zp, ze, ft, fh⟩; go_ret; exact ⟨rfl, gs, va, _, FIN.1, (Asd.of_kp _ KW6.out.drew).trans FIN.2⟩
end Go.Proofs.YtncoofnhifcnhaaGreatDoor
