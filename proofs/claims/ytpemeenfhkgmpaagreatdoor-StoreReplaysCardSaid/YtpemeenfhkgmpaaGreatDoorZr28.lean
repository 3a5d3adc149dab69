/- Parts of this proof (own work). -/
import Derived.Test.YtpemeenfhkgmpaaGreatDoorZr25
import Derived.Test.YtpemeenfhkgmpaaGreatDoorZr27
set_option maxRecDepth 100000
set_option maxHeartbeats 40000000
namespace Go.Proofs.YtpemeenfhkgmpaaGreatDoor
open Go.RowKit Go.ChangeShapes Go.WideShapes
def applyQ (m : StM) (f : FX) : Int × StM :=
 if rightF f = false then (4, m) else match doS m f with
  | none => (9, m)
  | some m2 => (0, m2)
theorem aS {m m2 : StM} {f : FX} (hr : rightF f = true) (h : doS m f = some m2) : applyQ m f = (0, m2) := by unfold applyQ; rw [if_neg (by rw [hr]; decide), h]
theorem aZ {m : StM} {f : FX} (hr : rightF f = true) (h : doS m f = none) : applyQ m f = (9, m) := by unfold applyQ; rw [if_neg (by rw [hr]; decide), h]
theorem applyQ_bad {m : StM} {f : FX} (hr : rightF f = false) : applyQ m f = (4, m) := by unfold applyQ; rw [if_pos hr]
theorem applyQ_ok {m : StM} {f : FX} (h : OkS m) : OkS (applyQ m f).2 := by
 cases hr : rightF f with
 | false => rw [applyQ_bad hr]; exact h
 | true =>
  cases hd : doS m f with
  | none => rw [aZ hr hd]; exact h
  | some m2 => rw [aS hr hd]; exact keepS h hr hd
theorem doS_act0 {m : StM} {f : FX} (hk : f.k = 2 ∨ f.k = 3 ∨ f.k = 4 ∨ f.k = 5) (h : findS m.acts f.n f.s = none) : doS m f = none := by
 unfold doS; rw [if_neg (by omega), if_neg (by omega), if_neg (by omega), if_neg (by omega), h]
theorem doS_act1 {m : StM} {f : FX} {i : Nat} {a : AcM} (hk : f.k = 2 ∨ f.k = 3 ∨ f.k = 4 ∨ f.k = 5) (h : findS m.acts f.n f.s = some i) (ha : m.acts[i]? = some a) : doS m f = actS m i a f := by
 unfold doS; rw [if_neg (by omega), if_neg (by omega), if_neg (by omega), if_neg (by omega), h]; dsimp only; rw [ha]
theorem right_wf {f : FX} (h : rightF f = true) : f.wf := by
 have h2 := h; unfold rightF at h2; simp only [Bool.and_eq_true, decide_eq_true_eq] at h2
 unfold FX.wf
 rcases h2.2.2 with q | q
 ·have := (inv_open h q).1; unfold rightX at this; simp only [Bool.and_eq_true] at this
  have := tmX_le this.2.2.2; have e : (ctxF f).x = f.x := rfl; omega
 ·omega
variable {w0 w w' W w3 : World} {B q : Nat} {m : StM} {gs : List AcG} {va vp : Value}
theorem refApply_no (Hs : GS tyD B q m gs va vp w) (f : FX) (hwf : f.wf) (hR : rightF f = false) : Calls Tryz.prog 12 #[.pointer (some ⟨q, 0, none⟩), .agg f.cells] w fun r w' => r = .returned (.int .i64 (applyQ m f).1) ∧ ∃ gs' va' vp', GS tyD B q (applyQ m f).2 gs' va' vp' w' ∧ Asd (Ow q gs va vp) (Ow q gs' va' vp') w w' := by
 have hri := fun w1 => refRight14_any f hwf w1
 rw [applyQ_bad hR]; rw [hR] at hri; obtain ⟨fk, fn, fs, fr, fe, fp, fq, fo, fd, fa, ft, fh, fc, fx⟩ := f; dsimp only [FX.cells] at hri ⊢; have HRI := hD hri; have HS := hD Hs; have hkW := kA w (.cells #[fk, fn, fs, fr, fe, fp, fq, fo, fd, fa, ft, fh, fc, .float .f64 fx] 42); obtain ⟨f0, f1, f2, f3, f4, f5, f6, f7, f8, f9, f10, f11, f12, f13⟩ := cZ (mH w (.cells #[fk, fn, fs, fr, fe, fp, fq, fo, fd, fa, ft, fh, fc, .float .f64 fx] 42)); obtain ⟨W, hW⟩ : ∃ W, w.alloc (.cells #[fk, fn, fs, fr, fe, fp, fq, fo, fd, fa, ft, fh, fc, .float .f64 fx] 42) = W := ⟨_, rfl⟩
 rw [hW] at hkW f0 f1 f2 f3 f4 f5 f6 f7 f8 f9 f10 f11 f12 f13; have KW := hD hkW; clear Hs hwf hR hri hkW; go_enter Tryz.func12, Tryz.ntmps12; go_wp2_with (go_at_call 29; (with_reducible refine (HRI.out _).mono ?_); rintro e' w1 ⟨rfl, hk1⟩; have K1 := hD hk1; clear hk1)
 go_ret; exact ⟨rfl, gs, va, vp, HS.out.kp (kT KW.out K1.out), Asd.of_kp _ (kT KW.out K1.out)⟩
theorem refApply2 (Hs : GS tyD B q m gs va vp w) (ok : OkS m) (fn fs fr fe fp fq fo fd fa ft fh fc : Int) (fx : Nat) (hR : rightF (⟨2, fn, fs, fr, fe, fp, fq, fo, fd, fa, ft, fh, fc, fx⟩ : FX) = true) : Calls Tryz.prog 12 #[.pointer (some ⟨q, 0, none⟩), .agg #[.int .i64 2, fn, fs, fr, fe, fp, fq, fo, fd, fa, ft, fh, fc, .float .f64 fx]] w fun r w' => r = .returned (.int .i64 (applyQ m (⟨2, fn, fs, fr, fe, fp, fq, fo, fd, fa, ft, fh, fc, fx⟩ : FX)).1) ∧ ∃ gs' va' vp', GS tyD B q (applyQ m (⟨2, fn, fs, fr, fe, fp, fq, fo, fd, fa, ft, fh, fc, fx⟩ : FX)).2 gs' va' vp' w' ∧ Asd (Ow q gs va vp) (Ow q gs' va' vp') w w' := by
 obtain ⟨a0, c0, eva⟩ := Hs.vForm; obtain ⟨b0, d0, evp⟩ := Hs.pForm; obtain ⟨nd, nx, A, PL⟩ := m; obtain ⟨len, hl⟩ : ∃ x, gs.length = x := ⟨_, rfl⟩
 obtain ⟨np, hnp⟩ : ∃ x, PL.length = x := ⟨_, rfl⟩
 have hlA : A.length = len := by have := Hs.len; dsimp only at this; omega
 have l8 : len ≤ 8 := by have := ok.l8; dsimp only at this; omega
 have p8 : np ≤ 8 := by have := ok.p8; dsimp only at this; omega
 have e0 : w.cell? ⟨q, 0, none⟩ = some (.int .i64 nd) := cU (i := 0) Hs.row rfl; have e1 : w.cell? ⟨q, 1, none⟩ = some (.int .i64 nx) := cU (i := 1) Hs.row rfl; have e2 : w.cell? ⟨q, 2, none⟩ = some va := cU (i := 2) Hs.row rfl; have e3 : w.cell? ⟨q, 3, none⟩ = some vp := cU (i := 3) Hs.row rfl; dsimp only at evp; rw [eva, hl] at e2; rw [evp, hnp] at e3; have hkW := kA w (.cells #[.int .i64 2, fn, fs, fr, fe, fp, fq, fo, fd, fa, ft, fh, fc, .float .f64 fx] 42); have rW := (mH w (.cells #[.int .i64 2, fn, fs, fr, fe, fp, fq, fo, fd, fa, ft, fh, fc, .float .f64 fx] 42))
 obtain ⟨W, hW⟩ : ∃ W, w.alloc (.cells #[.int .i64 2, fn, fs, fr, fe, fp, fq, fo, fd, fa, ft, fh, fc, .float .f64 fx] 42) = W := ⟨_, rfl⟩
 rw [hW] at hkW rW; obtain ⟨f0, f1, f2, f3, f4, f5, f6, f7, f8, f9, f10, f11, f12, f13⟩ := cZ rW; have e0 := kZ hkW e0; have e1 := kZ hkW e1; have e2 := kZ hkW e2; have e3 := kZ hkW e3; have hwf : FX.wf (⟨2, fn, fs, fr, fe, fp, fq, fo, fd, fa, ft, fh, fc, fx⟩ : FX) := right_wf hR; have hri := fun w1 => refRight14_any (⟨2, fn, fs, fr, fe, fp, fq, fo, fd, fa, ft, fh, fc, fx⟩ : FX) hwf w1
 dsimp only [FX.cells] at hri; rw [hR] at hri; have HRI := hD hri; have HRR := hD hR; obtain ⟨L, hL⟩ : ∃ L : Int, (len : Int) = L := ⟨_, rfl⟩
 obtain ⟨NP, hNP⟩ : ∃ N : Int, (np : Int) = N := ⟨_, rfl⟩
 have HS := hD Hs; have OK := hD ok; have HL := hD hl; have HLA := hD hlA; have HNP := hD hnp; have HLL := hD hL; have HNN := hD hNP; have KW := hD hkW; have RW := hD rW; have EVA := hD eva; have EVP := hD evp; have L8 := hD (And.intro l8 p8); have hsf := sF; have hfi := fun w1 (h : Kp w w1) => refFind15 (Hs.kp h) (by rw [hl]; exact l8) fn fs
 try dsimp only at hfi
 obtain ⟨I, hI⟩ : ∃ x, findS A fn fs = x := ⟨_, rfl⟩
 rw [hI] at hfi
 cases I with
 | none =>
  rw [aZ hR (doS_act0 (m := ⟨nd, nx, A, PL⟩) (by simp) hI)]; have HFI := hD hfi; have hn : placeQ none = -1 := rfl; rw [hn] at HFI; clear hn hI hfi Hs ok hR hl hnp hlA l8 p8 hkW rW eva evp hwf hri; go_enter Tryz.func12, Tryz.ntmps12; go_wp2_with (first | (go_at_call 29; (with_reducible refine (HRI.out _).mono ?_); rintro e' w1 ⟨rfl, hk1⟩; have K1 := hD hk1; have e0 := kZ hk1 e0; have e1 := kZ hk1 e1; have e2 := kZ hk1 e2; have e3 := kZ hk1 e3; have f0 := kZ hk1 f0; have f1 := kZ hk1 f1; have f2 := kZ hk1 f2; have f3 := kZ hk1 f3; have f4 := kZ hk1 f4; have f5 := kZ hk1 f5; have f6 := kZ hk1 f6; have f7 := kZ hk1 f7; have f8 := kZ hk1 f8; have f9 := kZ hk1 f9; have f10 := kZ hk1 f10; have f11 := kZ hk1 f11; have f12 := kZ hk1 f12; have f13 := kZ hk1 f13; clear hk1) | (go_at_call 32; (with_reducible refine (HFI.out _ (kT KW.out K1.out)).mono ?_); rintro e' w2 ⟨rfl, hk2⟩; have K2 := hD (kT KW.out (kT K1.out hk2)); clear hk2))
  go_ret; exact ⟨rfl, gs, va, vp, HS.out.kp K2.out, Asd.of_kp _ K2.out⟩
 | some i =>
  have hi : ∃ a, A[i]? = some a := by
   obtain ⟨a, h1, -⟩ := fS hI; exact ⟨a, h1⟩
  obtain ⟨⟨⟨xn, xs, xo, xd, xx⟩, xp, xc, xr⟩, ha⟩ := hi; obtain ⟨⟨ga, xb, xk⟩, hg, hga⟩ := Hs.at (i := i) ha
  try dsimp only at hga
  subst hga; have hdo := doS_act1 (m := ⟨nd, nx, A, PL⟩) (f := (⟨2, fn, fs, fr, fe, fp, fq, fo, fd, fa, ft, fh, fc, fx⟩ : FX)) (by simp) hI ha; have hoa := ok.a _ (List.mem_of_getElem? ha); have h6 : xr.length ≤ 6 := hoa.l; have hac := fun w1 (h : Kp w w1) => refAct2 (Hs.kp h) (by rw [hl]; exact l8) (rfl : (i : Int) = (i : Int)) hg h6 fn fs fr fe fp fq fo fd fa ft fh fc fx
  try dsimp only at hac
  obtain ⟨R, hRR⟩ : ∃ x, actS ⟨nd, nx, A, PL⟩ i ⟨⟨xn, xs, xo, xd, xx⟩, xp, xc, xr⟩ (⟨2, fn, fs, fr, fe, fp, fq, fo, fd, fa, ft, fh, fc, fx⟩ : FX) = x := ⟨_, rfl⟩
  rw [hRR] at hac hdo; obtain ⟨ii, hii⟩ : ∃ ii : Int, (i : Int) = ii := ⟨_, rfl⟩
  have hpl : placeQ (some i) = ii := hii; have g0 : decide (ii < 0) = false := dF (by omega); rw [hii] at hac; rw [hpl] at hfi; have HFI := hD hfi; have HAC := hD hac
  cases R with
  | none =>
   rw [aZ hR hdo]; rw [show (none : Option StM).isSome = false from rfl, Option.getD_none] at HAC; clear hac hpl hii hRR h6 hoa hg ha hdo hI hfi Hs ok hR hl hnp hlA l8 p8 hkW rW eva evp hwf hri; go_enter Tryz.func12, Tryz.ntmps12; go_wp2_with (first | (go_at_call 29; (with_reducible refine (HRI.out _).mono ?_); rintro e' w1 ⟨rfl, hk1⟩; have K1 := hD hk1; have e0 := kZ hk1 e0; have e1 := kZ hk1 e1; have e2 := kZ hk1 e2; have e3 := kZ hk1 e3; have f0 := kZ hk1 f0; have f1 := kZ hk1 f1; have f2 := kZ hk1 f2; have f3 := kZ hk1 f3; have f4 := kZ hk1 f4; have f5 := kZ hk1 f5; have f6 := kZ hk1 f6; have f7 := kZ hk1 f7; have f8 := kZ hk1 f8; have f9 := kZ hk1 f9; have f10 := kZ hk1 f10; have f11 := kZ hk1 f11; have f12 := kZ hk1 f12; have f13 := kZ hk1 f13; clear hk1) | (go_at_call 32; (with_reducible refine (HFI.out _ (kT KW.out K1.out)).mono ?_); rintro e' w2 ⟨rfl, hk2⟩; have K2 := hD (kT KW.out (kT K1.out hk2)); have f0 := kZ hk2 f0; have f1 := kZ hk2 f1; have f2 := kZ hk2 f2; have f3 := kZ hk2 f3; have f4 := kZ hk2 f4; have f5 := kZ hk2 f5; have f6 := kZ hk2 f6; have f7 := kZ hk2 f7; have f8 := kZ hk2 f8; have f9 := kZ hk2 f9; have f10 := kZ hk2 f10; have f11 := kZ hk2 f11; have f12 := kZ hk2 f12; have f13 := kZ hk2 f13; clear hk2) | (go_at_call 33; (with_reducible refine (HAC.out _ K2.out).mono ?_); rintro e' w3 ⟨rfl, gs3, va3, h3, hA3⟩; have H3 := hD h3; have A3 := hD hA3; clear h3 hA3))
   go_ret; exact ⟨rfl, gs3, va3, vp, H3.out, (Asd.of_kp _ K2.out).trans A3.out⟩
  | some m2 =>
   rw [aS hR hdo]; rw [show (some m2 : Option StM).isSome = true from rfl, Option.getD_some] at HAC; clear hac hpl hii hRR h6 hoa hg ha hdo hI hfi Hs ok hR hl hnp hlA l8 p8 hkW rW eva evp hwf hri; go_enter Tryz.func12, Tryz.ntmps12; go_wp2_with (first | (go_at_call 29; (with_reducible refine (HRI.out _).mono ?_); rintro e' w1 ⟨rfl, hk1⟩; have K1 := hD hk1; have e0 := kZ hk1 e0; have e1 := kZ hk1 e1; have e2 := kZ hk1 e2; have e3 := kZ hk1 e3; have f0 := kZ hk1 f0; have f1 := kZ hk1 f1; have f2 := kZ hk1 f2; have f3 := kZ hk1 f3; have f4 := kZ hk1 f4; have f5 := kZ hk1 f5; have f6 := kZ hk1 f6; have f7 := kZ hk1 f7; have f8 := kZ hk1 f8; have f9 := kZ hk1 f9; have f10 := kZ hk1 f10; have f11 := kZ hk1 f11; have f12 := kZ hk1 f12; have f13 := kZ hk1 f13; clear hk1) | (go_at_call 32; (with_reducible refine (HFI.out _ (kT KW.out K1.out)).mono ?_); rintro e' w2 ⟨rfl, hk2⟩; have K2 := hD (kT KW.out (kT K1.out hk2)); have f0 := kZ hk2 f0; have f1 := kZ hk2 f1; have f2 := kZ hk2 f2; have f3 := kZ hk2 f3; have f4 := kZ hk2 f4; have f5 := kZ hk2 f5; have f6 := kZ hk2 f6; have f7 := kZ hk2 f7; have f8 := kZ hk2 f8; have f9 := kZ hk2 f9; have f10 := kZ hk2 f10; have f11 := kZ hk2 f11; have f12 := kZ hk2 f12; have f13 := kZ hk2 f13; clear hk2) | (go_at_call 33; (with_reducible refine (HAC.out _ K2.out).mono ?_); rintro e' w3 ⟨rfl, gs3, va3, h3, hA3⟩; have H3 := hD h3; have A3 := hD hA3; clear h3 hA3))
   go_ret; exact ⟨rfl, gs3, va3, vp, H3.out, (Asd.of_kp _ K2.out).trans A3.out⟩
theorem refApply3 (Hs : GS tyD B q m gs va vp w) (ok : OkS m) (fn fs fr fe fp fq fo fd fa ft fh fc : Int) (fx : Nat) (hR : rightF (⟨3, fn, fs, fr, fe, fp, fq, fo, fd, fa, ft, fh, fc, fx⟩ : FX) = true) : Calls Tryz.prog 12 #[.pointer (some ⟨q, 0, none⟩), .agg #[.int .i64 3, fn, fs, fr, fe, fp, fq, fo, fd, fa, ft, fh, fc, .float .f64 fx]] w fun r w' => r = .returned (.int .i64 (applyQ m (⟨3, fn, fs, fr, fe, fp, fq, fo, fd, fa, ft, fh, fc, fx⟩ : FX)).1) ∧ ∃ gs' va' vp', GS tyD B q (applyQ m (⟨3, fn, fs, fr, fe, fp, fq, fo, fd, fa, ft, fh, fc, fx⟩ : FX)).2 gs' va' vp' w' ∧ Asd (Ow q gs va vp) (Ow q gs' va' vp') w w' := by
 obtain ⟨a0, c0, eva⟩ := Hs.vForm; obtain ⟨b0, d0, evp⟩ := Hs.pForm; obtain ⟨nd, nx, A, PL⟩ := m; obtain ⟨len, hl⟩ : ∃ x, gs.length = x := ⟨_, rfl⟩
 obtain ⟨np, hnp⟩ : ∃ x, PL.length = x := ⟨_, rfl⟩
 have hlA : A.length = len := by have := Hs.len; dsimp only at this; omega
 have l8 : len ≤ 8 := by have := ok.l8; dsimp only at this; omega
 have p8 : np ≤ 8 := by have := ok.p8; dsimp only at this; omega
 have e0 : w.cell? ⟨q, 0, none⟩ = some (.int .i64 nd) := cU (i := 0) Hs.row rfl; have e1 : w.cell? ⟨q, 1, none⟩ = some (.int .i64 nx) := cU (i := 1) Hs.row rfl; have e2 : w.cell? ⟨q, 2, none⟩ = some va := cU (i := 2) Hs.row rfl; have e3 : w.cell? ⟨q, 3, none⟩ = some vp := cU (i := 3) Hs.row rfl; dsimp only at evp; rw [eva, hl] at e2; rw [evp, hnp] at e3; have hkW := kA w (.cells #[.int .i64 3, fn, fs, fr, fe, fp, fq, fo, fd, fa, ft, fh, fc, .float .f64 fx] 42); have rW := (mH w (.cells #[.int .i64 3, fn, fs, fr, fe, fp, fq, fo, fd, fa, ft, fh, fc, .float .f64 fx] 42))
 obtain ⟨W, hW⟩ : ∃ W, w.alloc (.cells #[.int .i64 3, fn, fs, fr, fe, fp, fq, fo, fd, fa, ft, fh, fc, .float .f64 fx] 42) = W := ⟨_, rfl⟩
 rw [hW] at hkW rW; obtain ⟨f0, f1, f2, f3, f4, f5, f6, f7, f8, f9, f10, f11, f12, f13⟩ := cZ rW; have e0 := kZ hkW e0; have e1 := kZ hkW e1; have e2 := kZ hkW e2; have e3 := kZ hkW e3; have hwf : FX.wf (⟨3, fn, fs, fr, fe, fp, fq, fo, fd, fa, ft, fh, fc, fx⟩ : FX) := right_wf hR; have hri := fun w1 => refRight14_any (⟨3, fn, fs, fr, fe, fp, fq, fo, fd, fa, ft, fh, fc, fx⟩ : FX) hwf w1
 dsimp only [FX.cells] at hri; rw [hR] at hri; have HRI := hD hri; have HRR := hD hR; obtain ⟨L, hL⟩ : ∃ L : Int, (len : Int) = L := ⟨_, rfl⟩
 obtain ⟨NP, hNP⟩ : ∃ N : Int, (np : Int) = N := ⟨_, rfl⟩
 have HS := hD Hs; have OK := hD ok; have HL := hD hl; have HLA := hD hlA; have HNP := hD hnp; have HLL := hD hL; have HNN := hD hNP; have KW := hD hkW; have RW := hD rW; have EVA := hD eva; have EVP := hD evp; have L8 := hD (And.intro l8 p8); have hsf := sF; have hfi := fun w1 (h : Kp w w1) => refFind15 (Hs.kp h) (by rw [hl]; exact l8) fn fs
 try dsimp only at hfi
 obtain ⟨I, hI⟩ : ∃ x, findS A fn fs = x := ⟨_, rfl⟩
 rw [hI] at hfi
 cases I with
 | none =>
  rw [aZ hR (doS_act0 (m := ⟨nd, nx, A, PL⟩) (by simp) hI)]; have HFI := hD hfi; have hn : placeQ none = -1 := rfl; rw [hn] at HFI; clear hn hI hfi Hs ok hR hl hnp hlA l8 p8 hkW rW eva evp hwf hri; go_enter Tryz.func12, Tryz.ntmps12; go_wp2_with (first | (go_at_call 29; (with_reducible refine (HRI.out _).mono ?_); rintro e' w1 ⟨rfl, hk1⟩; have K1 := hD hk1; have e0 := kZ hk1 e0; have e1 := kZ hk1 e1; have e2 := kZ hk1 e2; have e3 := kZ hk1 e3; have f0 := kZ hk1 f0; have f1 := kZ hk1 f1; have f2 := kZ hk1 f2; have f3 := kZ hk1 f3; have f4 := kZ hk1 f4; have f5 := kZ hk1 f5; have f6 := kZ hk1 f6; have f7 := kZ hk1 f7; have f8 := kZ hk1 f8; have f9 := kZ hk1 f9; have f10 := kZ hk1 f10; have f11 := kZ hk1 f11; have f12 := kZ hk1 f12; have f13 := kZ hk1 f13; clear hk1) | (go_at_call 32; (with_reducible refine (HFI.out _ (kT KW.out K1.out)).mono ?_); rintro e' w2 ⟨rfl, hk2⟩; have K2 := hD (kT KW.out (kT K1.out hk2)); clear hk2))
  go_ret; exact ⟨rfl, gs, va, vp, HS.out.kp K2.out, Asd.of_kp _ K2.out⟩
 | some i =>
  have hi : ∃ a, A[i]? = some a := by
   obtain ⟨a, h1, -⟩ := fS hI; exact ⟨a, h1⟩
  obtain ⟨⟨⟨xn, xs, xo, xd, xx⟩, xp, xc, xr⟩, ha⟩ := hi; obtain ⟨⟨ga, xb, xk⟩, hg, hga⟩ := Hs.at (i := i) ha
  try dsimp only at hga
  subst hga; have hdo := doS_act1 (m := ⟨nd, nx, A, PL⟩) (f := (⟨3, fn, fs, fr, fe, fp, fq, fo, fd, fa, ft, fh, fc, fx⟩ : FX)) (by simp) hI ha; have hoa := ok.a _ (List.mem_of_getElem? ha); have h6 : xr.length ≤ 6 := hoa.l; have hac := fun w1 (h : Kp w w1) => refAct3 (Hs.kp h) (by rw [hl]; exact l8) (rfl : (i : Int) = (i : Int)) hg h6 fn fs fr fe fp fq fo fd fa ft fh fc fx (by have := okF_of hR; simp [okF] at this; omega)
  try dsimp only at hac
  obtain ⟨R, hRR⟩ : ∃ x, actS ⟨nd, nx, A, PL⟩ i ⟨⟨xn, xs, xo, xd, xx⟩, xp, xc, xr⟩ (⟨3, fn, fs, fr, fe, fp, fq, fo, fd, fa, ft, fh, fc, fx⟩ : FX) = x := ⟨_, rfl⟩
  rw [hRR] at hac hdo; obtain ⟨ii, hii⟩ : ∃ ii : Int, (i : Int) = ii := ⟨_, rfl⟩
  have hpl : placeQ (some i) = ii := hii; have g0 : decide (ii < 0) = false := dF (by omega); rw [hii] at hac; rw [hpl] at hfi; have HFI := hD hfi; have HAC := hD hac
  cases R with
  | none =>
   rw [aZ hR hdo]; rw [show (none : Option StM).isSome = false from rfl, Option.getD_none] at HAC; clear hac hpl hii hRR h6 hoa hg ha hdo hI hfi Hs ok hR hl hnp hlA l8 p8 hkW rW eva evp hwf hri; go_enter Tryz.func12, Tryz.ntmps12; go_wp2_with (first | (go_at_call 29; (with_reducible refine (HRI.out _).mono ?_); rintro e' w1 ⟨rfl, hk1⟩; have K1 := hD hk1; have e0 := kZ hk1 e0; have e1 := kZ hk1 e1; have e2 := kZ hk1 e2; have e3 := kZ hk1 e3; have f0 := kZ hk1 f0; have f1 := kZ hk1 f1; have f2 := kZ hk1 f2; have f3 := kZ hk1 f3; have f4 := kZ hk1 f4; have f5 := kZ hk1 f5; have f6 := kZ hk1 f6; have f7 := kZ hk1 f7; have f8 := kZ hk1 f8; have f9 := kZ hk1 f9; have f10 := kZ hk1 f10; have f11 := kZ hk1 f11; have f12 := kZ hk1 f12; have f13 := kZ hk1 f13; clear hk1) | (go_at_call 32; (with_reducible refine (HFI.out _ (kT KW.out K1.out)).mono ?_); rintro e' w2 ⟨rfl, hk2⟩; have K2 := hD (kT KW.out (kT K1.out hk2)); have f0 := kZ hk2 f0; have f1 := kZ hk2 f1; have f2 := kZ hk2 f2; have f3 := kZ hk2 f3; have f4 := kZ hk2 f4; have f5 := kZ hk2 f5; have f6 := kZ hk2 f6; have f7 := kZ hk2 f7; have f8 := kZ hk2 f8; have f9 := kZ hk2 f9; have f10 := kZ hk2 f10; have f11 := kZ hk2 f11; have f12 := kZ hk2 f12; have f13 := kZ hk2 f13; clear hk2) | (go_at_call 33; (with_reducible refine (HAC.out _ K2.out).mono ?_); rintro e' w3 ⟨rfl, gs3, va3, h3, hA3⟩; have H3 := hD h3; have A3 := hD hA3; clear h3 hA3))
   go_ret; exact ⟨rfl, gs3, va3, vp, H3.out, (Asd.of_kp _ K2.out).trans A3.out⟩
  | some m2 =>
   rw [aS hR hdo]; rw [show (some m2 : Option StM).isSome = true from rfl, Option.getD_some] at HAC; clear hac hpl hii hRR h6 hoa hg ha hdo hI hfi Hs ok hR hl hnp hlA l8 p8 hkW rW eva evp hwf hri; go_enter Tryz.func12, Tryz.ntmps12; go_wp2_with (first | (go_at_call 29; (with_reducible refine (HRI.out _).mono ?_); rintro e' w1 ⟨rfl, hk1⟩; have K1 := hD hk1; have e0 := kZ hk1 e0; have e1 := kZ hk1 e1; have e2 := kZ hk1 e2; have e3 := kZ hk1 e3; have f0 := kZ hk1 f0; have f1 := kZ hk1 f1; have f2 := kZ hk1 f2; have f3 := kZ hk1 f3; have f4 := kZ hk1 f4; have f5 := kZ hk1 f5; have f6 := kZ hk1 f6; have f7 := kZ hk1 f7; have f8 := kZ hk1 f8; have f9 := kZ hk1 f9; have f10 := kZ hk1 f10; have f11 := kZ hk1 f11; have f12 := kZ hk1 f12; have f13 := kZ hk1 f13; clear hk1) | (go_at_call 32; (with_reducible refine (HFI.out _ (kT KW.out K1.out)).mono ?_); rintro e' w2 ⟨rfl, hk2⟩; have K2 := hD (kT KW.out (kT K1.out hk2)); have f0 := kZ hk2 f0; have f1 := kZ hk2 f1; have f2 := kZ hk2 f2; have f3 := kZ hk2 f3; have f4 := kZ hk2 f4; have f5 := kZ hk2 f5; have f6 := kZ hk2 f6; have f7 := kZ hk2 f7; have f8 := kZ hk2 f8; have f9 := kZ hk2 f9; have f10 := kZ hk2 f10; have f11 := kZ hk2 f11; have f12 := kZ hk2 f12; have f13 := kZ hk2 f13; clear hk2) | (go_at_call 33; (with_reducible refine (HAC.out _ K2.out).mono ?_); rintro e' w3 ⟨rfl, gs3, va3, h3, hA3⟩; have H3 := hD h3; have A3 := hD hA3; clear h3 hA3))
   go_ret; exact ⟨rfl, gs3, va3, vp, H3.out, (Asd.of_kp _ K2.out).trans A3.out⟩
theorem refApply4 (Hs : GS tyD B q m gs va vp w) (ok : OkS m) (fn fs fr fe fp fq fo fd fa ft fh fc : Int) (fx : Nat) (hR : rightF (⟨4, fn, fs, fr, fe, fp, fq, fo, fd, fa, ft, fh, fc, fx⟩ : FX) = true) : Calls Tryz.prog 12 #[.pointer (some ⟨q, 0, none⟩), .agg #[.int .i64 4, fn, fs, fr, fe, fp, fq, fo, fd, fa, ft, fh, fc, .float .f64 fx]] w fun r w' => r = .returned (.int .i64 (applyQ m (⟨4, fn, fs, fr, fe, fp, fq, fo, fd, fa, ft, fh, fc, fx⟩ : FX)).1) ∧ ∃ gs' va' vp', GS tyD B q (applyQ m (⟨4, fn, fs, fr, fe, fp, fq, fo, fd, fa, ft, fh, fc, fx⟩ : FX)).2 gs' va' vp' w' ∧ Asd (Ow q gs va vp) (Ow q gs' va' vp') w w' := by
 obtain ⟨a0, c0, eva⟩ := Hs.vForm; obtain ⟨b0, d0, evp⟩ := Hs.pForm; obtain ⟨nd, nx, A, PL⟩ := m; obtain ⟨len, hl⟩ : ∃ x, gs.length = x := ⟨_, rfl⟩
 obtain ⟨np, hnp⟩ : ∃ x, PL.length = x := ⟨_, rfl⟩
 have hlA : A.length = len := by have := Hs.len; dsimp only at this; omega
 have l8 : len ≤ 8 := by have := ok.l8; dsimp only at this; omega
 have p8 : np ≤ 8 := by have := ok.p8; dsimp only at this; omega
 have e0 : w.cell? ⟨q, 0, none⟩ = some (.int .i64 nd) := cU (i := 0) Hs.row rfl; have e1 : w.cell? ⟨q, 1, none⟩ = some (.int .i64 nx) := cU (i := 1) Hs.row rfl; have e2 : w.cell? ⟨q, 2, none⟩ = some va := cU (i := 2) Hs.row rfl; have e3 : w.cell? ⟨q, 3, none⟩ = some vp := cU (i := 3) Hs.row rfl; dsimp only at evp; rw [eva, hl] at e2; rw [evp, hnp] at e3; have hkW := kA w (.cells #[.int .i64 4, fn, fs, fr, fe, fp, fq, fo, fd, fa, ft, fh, fc, .float .f64 fx] 42); have rW := (mH w (.cells #[.int .i64 4, fn, fs, fr, fe, fp, fq, fo, fd, fa, ft, fh, fc, .float .f64 fx] 42))
 obtain ⟨W, hW⟩ : ∃ W, w.alloc (.cells #[.int .i64 4, fn, fs, fr, fe, fp, fq, fo, fd, fa, ft, fh, fc, .float .f64 fx] 42) = W := ⟨_, rfl⟩
 rw [hW] at hkW rW; obtain ⟨f0, f1, f2, f3, f4, f5, f6, f7, f8, f9, f10, f11, f12, f13⟩ := cZ rW; have e0 := kZ hkW e0; have e1 := kZ hkW e1; have e2 := kZ hkW e2; have e3 := kZ hkW e3; have hwf : FX.wf (⟨4, fn, fs, fr, fe, fp, fq, fo, fd, fa, ft, fh, fc, fx⟩ : FX) := right_wf hR; have hri := fun w1 => refRight14_any (⟨4, fn, fs, fr, fe, fp, fq, fo, fd, fa, ft, fh, fc, fx⟩ : FX) hwf w1
 dsimp only [FX.cells] at hri; rw [hR] at hri; have HRI := hD hri; have HRR := hD hR; obtain ⟨L, hL⟩ : ∃ L : Int, (len : Int) = L := ⟨_, rfl⟩
 obtain ⟨NP, hNP⟩ : ∃ N : Int, (np : Int) = N := ⟨_, rfl⟩
 have HS := hD Hs; have OK := hD ok; have HL := hD hl; have HLA := hD hlA; have HNP := hD hnp; have HLL := hD hL; have HNN := hD hNP; have KW := hD hkW; have RW := hD rW; have EVA := hD eva; have EVP := hD evp; have L8 := hD (And.intro l8 p8); have hsf := sF; have hfi := fun w1 (h : Kp w w1) => refFind15 (Hs.kp h) (by rw [hl]; exact l8) fn fs
 try dsimp only at hfi
 obtain ⟨I, hI⟩ : ∃ x, findS A fn fs = x := ⟨_, rfl⟩
 rw [hI] at hfi
 cases I with
 | none =>
  rw [aZ hR (doS_act0 (m := ⟨nd, nx, A, PL⟩) (by simp) hI)]; have HFI := hD hfi; have hn : placeQ none = -1 := rfl; rw [hn] at HFI; clear hn hI hfi Hs ok hR hl hnp hlA l8 p8 hkW rW eva evp hwf hri; go_enter Tryz.func12, Tryz.ntmps12; go_wp2_with (first | (go_at_call 29; (with_reducible refine (HRI.out _).mono ?_); rintro e' w1 ⟨rfl, hk1⟩; have K1 := hD hk1; have e0 := kZ hk1 e0; have e1 := kZ hk1 e1; have e2 := kZ hk1 e2; have e3 := kZ hk1 e3; have f0 := kZ hk1 f0; have f1 := kZ hk1 f1; have f2 := kZ hk1 f2; have f3 := kZ hk1 f3; have f4 := kZ hk1 f4; have f5 := kZ hk1 f5; have f6 := kZ hk1 f6; have f7 := kZ hk1 f7; have f8 := kZ hk1 f8; have f9 := kZ hk1 f9; have f10 := kZ hk1 f10; have f11 := kZ hk1 f11; have f12 := kZ hk1 f12; have f13 := kZ hk1 f13; clear hk1) | (go_at_call 32; (with_reducible refine (HFI.out _ (kT KW.out K1.out)).mono ?_); rintro e' w2 ⟨rfl, hk2⟩; have K2 := hD (kT KW.out (kT K1.out hk2)); clear hk2))
  go_ret; exact ⟨rfl, gs, va, vp, HS.out.kp K2.out, Asd.of_kp _ K2.out⟩
 | some i =>
  have hi : ∃ a, A[i]? = some a := by
   obtain ⟨a, h1, -⟩ := fS hI; exact ⟨a, h1⟩
  obtain ⟨⟨⟨xn, xs, xo, xd, xx⟩, xp, xc, xr⟩, ha⟩ := hi; obtain ⟨⟨ga, xb, xk⟩, hg, hga⟩ := Hs.at (i := i) ha
  try dsimp only at hga
  subst hga; have hdo := doS_act1 (m := ⟨nd, nx, A, PL⟩) (f := (⟨4, fn, fs, fr, fe, fp, fq, fo, fd, fa, ft, fh, fc, fx⟩ : FX)) (by simp) hI ha; have hoa := ok.a _ (List.mem_of_getElem? ha); have h6 : xr.length ≤ 6 := hoa.l; have hac := fun w1 (h : Kp w w1) => refAct4 (Hs.kp h) (by rw [hl]; exact l8) (rfl : (i : Int) = (i : Int)) hg h6 fn fs fr fe fp fq fo fd fa ft fh fc fx
  try dsimp only at hac
  obtain ⟨R, hRR⟩ : ∃ x, actS ⟨nd, nx, A, PL⟩ i ⟨⟨xn, xs, xo, xd, xx⟩, xp, xc, xr⟩ (⟨4, fn, fs, fr, fe, fp, fq, fo, fd, fa, ft, fh, fc, fx⟩ : FX) = x := ⟨_, rfl⟩
  rw [hRR] at hac hdo; obtain ⟨ii, hii⟩ : ∃ ii : Int, (i : Int) = ii := ⟨_, rfl⟩
  have hpl : placeQ (some i) = ii := hii; have g0 : decide (ii < 0) = false := dF (by omega); rw [hii] at hac; rw [hpl] at hfi; have HFI := hD hfi; have HAC := hD hac
  cases R with
  | none =>
   rw [aZ hR hdo]; rw [show (none : Option StM).isSome = false from rfl, Option.getD_none] at HAC; clear hac hpl hii hRR h6 hoa hg ha hdo hI hfi Hs ok hR hl hnp hlA l8 p8 hkW rW eva evp hwf hri; go_enter Tryz.func12, Tryz.ntmps12; go_wp2_with (first | (go_at_call 29; (with_reducible refine (HRI.out _).mono ?_); rintro e' w1 ⟨rfl, hk1⟩; have K1 := hD hk1; have e0 := kZ hk1 e0; have e1 := kZ hk1 e1; have e2 := kZ hk1 e2; have e3 := kZ hk1 e3; have f0 := kZ hk1 f0; have f1 := kZ hk1 f1; have f2 := kZ hk1 f2; have f3 := kZ hk1 f3; have f4 := kZ hk1 f4; have f5 := kZ hk1 f5; have f6 := kZ hk1 f6; have f7 := kZ hk1 f7; have f8 := kZ hk1 f8; have f9 := kZ hk1 f9; have f10 := kZ hk1 f10; have f11 := kZ hk1 f11; have f12 := kZ hk1 f12; have f13 := kZ hk1 f13; clear hk1) | (go_at_call 32; (with_reducible refine (HFI.out _ (kT KW.out K1.out)).mono ?_); rintro e' w2 ⟨rfl, hk2⟩; have K2 := hD (kT KW.out (kT K1.out hk2)); have f0 := kZ hk2 f0; have f1 := kZ hk2 f1; have f2 := kZ hk2 f2; have f3 := kZ hk2 f3; have f4 := kZ hk2 f4; have f5 := kZ hk2 f5; have f6 := kZ hk2 f6; have f7 := kZ hk2 f7; have f8 := kZ hk2 f8; have f9 := kZ hk2 f9; have f10 := kZ hk2 f10; have f11 := kZ hk2 f11; have f12 := kZ hk2 f12; have f13 := kZ hk2 f13; clear hk2) | (go_at_call 33; (with_reducible refine (HAC.out _ K2.out).mono ?_); rintro e' w3 ⟨rfl, gs3, va3, h3, hA3⟩; have H3 := hD h3; have A3 := hD hA3; clear h3 hA3))
   go_ret; exact ⟨rfl, gs3, va3, vp, H3.out, (Asd.of_kp _ K2.out).trans A3.out⟩
  | some m2 =>
   rw [aS hR hdo]; rw [show (some m2 : Option StM).isSome = true from rfl, Option.getD_some] at HAC; clear hac hpl hii hRR h6 hoa hg ha hdo hI hfi Hs ok hR hl hnp hlA l8 p8 hkW rW eva evp hwf hri; go_enter Tryz.func12, Tryz.ntmps12; go_wp2_with (first | (go_at_call 29; (with_reducible refine (HRI.out _).mono ?_); rintro e' w1 ⟨rfl, hk1⟩; have K1 := hD hk1; have e0 := kZ hk1 e0; have e1 := kZ hk1 e1; have e2 := kZ hk1 e2; have e3 := kZ hk1 e3; have f0 := kZ hk1 f0; have f1 := kZ hk1 f1; have f2 := kZ hk1 f2; have f3 := kZ hk1 f3; have f4 := kZ hk1 f4; have f5 := kZ hk1 f5; have f6 := kZ hk1 f6; have f7 := kZ hk1 f7; have f8 := kZ hk1 f8; have f9 := kZ hk1 f9; have f10 := kZ hk1 f10; have f11 := kZ hk1 f11; have f12 := kZ hk1 f12; have f13 := kZ hk1 f13; clear hk1) | (go_at_call 32; (with_reducible refine (HFI.out _ (kT KW.out K1.out)).mono ?_); rintro e' w2 ⟨rfl, hk2⟩; have K2 := hD (kT KW.out (kT K1.out hk2)); have f0 := kZ hk2 f0; have f1 := kZ hk2 f1; have f2 := kZ hk2 f2; have f3 := kZ hk2 f3; have f4 := kZ hk2 f4; have f5 := kZ hk2 f5; have f6 := kZ hk2 f6; have f7 := kZ hk2 f7; have f8 := kZ hk2 f8; have f9 := kZ hk2 f9; have f10 := kZ hk2 f10; have f11 := kZ hk2 f11; have f12 := kZ hk2 f12; have f13 := kZ hk2 f13; clear hk2) | (go_at_call 33; (with_reducible refine (HAC.out _ K2.out).mono ?_); rintro e' w3 ⟨rfl, gs3, va3, h3, hA3⟩; have H3 := hD h3; have A3 := hD hA3; clear h3 hA3))
   go_ret; exact ⟨rfl, gs3, va3, vp, H3.out, (Asd.of_kp _ K2.out).trans A3.out⟩
theorem refApply5 (Hs : GS tyD B q m gs va vp w) (ok : OkS m) (fn fs fr fe fp fq fo fd fa ft fh fc : Int) (fx : Nat) (hR : rightF (⟨5, fn, fs, fr, fe, fp, fq, fo, fd, fa, ft, fh, fc, fx⟩ : FX) = true) : Calls Tryz.prog 12 #[.pointer (some ⟨q, 0, none⟩), .agg #[.int .i64 5, fn, fs, fr, fe, fp, fq, fo, fd, fa, ft, fh, fc, .float .f64 fx]] w fun r w' => r = .returned (.int .i64 (applyQ m (⟨5, fn, fs, fr, fe, fp, fq, fo, fd, fa, ft, fh, fc, fx⟩ : FX)).1) ∧ ∃ gs' va' vp', GS tyD B q (applyQ m (⟨5, fn, fs, fr, fe, fp, fq, fo, fd, fa, ft, fh, fc, fx⟩ : FX)).2 gs' va' vp' w' ∧ Asd (Ow q gs va vp) (Ow q gs' va' vp') w w' := by
 obtain ⟨a0, c0, eva⟩ := Hs.vForm; obtain ⟨b0, d0, evp⟩ := Hs.pForm; obtain ⟨nd, nx, A, PL⟩ := m; obtain ⟨len, hl⟩ : ∃ x, gs.length = x := ⟨_, rfl⟩
 obtain ⟨np, hnp⟩ : ∃ x, PL.length = x := ⟨_, rfl⟩
 have hlA : A.length = len := by have := Hs.len; dsimp only at this; omega
 have l8 : len ≤ 8 := by have := ok.l8; dsimp only at this; omega
 have p8 : np ≤ 8 := by have := ok.p8; dsimp only at this; omega
 have e0 : w.cell? ⟨q, 0, none⟩ = some (.int .i64 nd) := cU (i := 0) Hs.row rfl; have e1 : w.cell? ⟨q, 1, none⟩ = some (.int .i64 nx) := cU (i := 1) Hs.row rfl; have e2 : w.cell? ⟨q, 2, none⟩ = some va := cU (i := 2) Hs.row rfl; have e3 : w.cell? ⟨q, 3, none⟩ = some vp := cU (i := 3) Hs.row rfl; dsimp only at evp; rw [eva, hl] at e2; rw [evp, hnp] at e3; have hkW := kA w (.cells #[.int .i64 5, fn, fs, fr, fe, fp, fq, fo, fd, fa, ft, fh, fc, .float .f64 fx] 42); have rW := (mH w (.cells #[.int .i64 5, fn, fs, fr, fe, fp, fq, fo, fd, fa, ft, fh, fc, .float .f64 fx] 42))
 obtain ⟨W, hW⟩ : ∃ W, w.alloc (.cells #[.int .i64 5, fn, fs, fr, fe, fp, fq, fo, fd, fa, ft, fh, fc, .float .f64 fx] 42) = W := ⟨_, rfl⟩
 rw [hW] at hkW rW; obtain ⟨f0, f1, f2, f3, f4, f5, f6, f7, f8, f9, f10, f11, f12, f13⟩ := cZ rW; have e0 := kZ hkW e0; have e1 := kZ hkW e1; have e2 := kZ hkW e2; have e3 := kZ hkW e3; have hwf : FX.wf (⟨5, fn, fs, fr, fe, fp, fq, fo, fd, fa, ft, fh, fc, fx⟩ : FX) := right_wf hR; have hri := fun w1 => refRight14_any (⟨5, fn, fs, fr, fe, fp, fq, fo, fd, fa, ft, fh, fc, fx⟩ : FX) hwf w1
 dsimp only [FX.cells] at hri; rw [hR] at hri; have HRI := hD hri; have HRR := hD hR; obtain ⟨L, hL⟩ : ∃ L : Int, (len : Int) = L := ⟨_, rfl⟩
 obtain ⟨NP, hNP⟩ : ∃ N : Int, (np : Int) = N := ⟨_, rfl⟩
 have HS := hD Hs; have OK := hD ok; have HL := hD hl; have HLA := hD hlA; have HNP := hD hnp; have HLL := hD hL; have HNN := hD hNP; have KW := hD hkW; have RW := hD rW; have EVA := hD eva; have EVP := hD evp; have L8 := hD (And.intro l8 p8); have hsf := sF; have hfi := fun w1 (h : Kp w w1) => refFind15 (Hs.kp h) (by rw [hl]; exact l8) fn fs
 try dsimp only at hfi
 obtain ⟨I, hI⟩ : ∃ x, findS A fn fs = x := ⟨_, rfl⟩
 rw [hI] at hfi
 cases I with
 | none =>
  rw [aZ hR (doS_act0 (m := ⟨nd, nx, A, PL⟩) (by simp) hI)]; have HFI := hD hfi; have hn : placeQ none = -1 := rfl; rw [hn] at HFI; clear hn hI hfi Hs ok hR hl hnp hlA l8 p8 hkW rW eva evp hwf hri; go_enter Tryz.func12, Tryz.ntmps12; go_wp2_with (first | (go_at_call 29; (with_reducible refine (HRI.out _).mono ?_); rintro e' w1 ⟨rfl, hk1⟩; have K1 := hD hk1; have e0 := kZ hk1 e0; have e1 := kZ hk1 e1; have e2 := kZ hk1 e2; have e3 := kZ hk1 e3; have f0 := kZ hk1 f0; have f1 := kZ hk1 f1; have f2 := kZ hk1 f2; have f3 := kZ hk1 f3; have f4 := kZ hk1 f4; have f5 := kZ hk1 f5; have f6 := kZ hk1 f6; have f7 := kZ hk1 f7; have f8 := kZ hk1 f8; have f9 := kZ hk1 f9; have f10 := kZ hk1 f10; have f11 := kZ hk1 f11; have f12 := kZ hk1 f12; have f13 := kZ hk1 f13; clear hk1) | (go_at_call 32; (with_reducible refine (HFI.out _ (kT KW.out K1.out)).mono ?_); rintro e' w2 ⟨rfl, hk2⟩; have K2 := hD (kT KW.out (kT K1.out hk2)); clear hk2))
  go_ret; exact ⟨rfl, gs, va, vp, HS.out.kp K2.out, Asd.of_kp _ K2.out⟩
 | some i =>
  have hi : ∃ a, A[i]? = some a := by
   obtain ⟨a, h1, -⟩ := fS hI; exact ⟨a, h1⟩
  obtain ⟨⟨⟨xn, xs, xo, xd, xx⟩, xp, xc, xr⟩, ha⟩ := hi; obtain ⟨⟨ga, xb, xk⟩, hg, hga⟩ := Hs.at (i := i) ha
  try dsimp only at hga
  subst hga; have hdo := doS_act1 (m := ⟨nd, nx, A, PL⟩) (f := (⟨5, fn, fs, fr, fe, fp, fq, fo, fd, fa, ft, fh, fc, fx⟩ : FX)) (by simp) hI ha; have hoa := ok.a _ (List.mem_of_getElem? ha); have h6 : xr.length ≤ 6 := hoa.l; have hac := fun w1 (h : Kp w w1) => refAct5 (Hs.kp h) (by rw [hl]; exact l8) (rfl : (i : Int) = (i : Int)) hg h6 fn fs fr fe fp fq fo fd fa ft fh fc fx
  try dsimp only at hac
  obtain ⟨R, hRR⟩ : ∃ x, actS ⟨nd, nx, A, PL⟩ i ⟨⟨xn, xs, xo, xd, xx⟩, xp, xc, xr⟩ (⟨5, fn, fs, fr, fe, fp, fq, fo, fd, fa, ft, fh, fc, fx⟩ : FX) = x := ⟨_, rfl⟩
  rw [hRR] at hac hdo; obtain ⟨ii, hii⟩ : ∃ ii : Int, (i : Int) = ii := ⟨_, rfl⟩
  have hpl : placeQ (some i) = ii := hii; have g0 : decide (ii < 0) = false := dF (by omega); rw [hii] at hac; rw [hpl] at hfi; have HFI := hD hfi; have HAC := hD hac
  cases R with
  | none =>
   rw [aZ hR hdo]; rw [show (none : Option StM).isSome = false from rfl, Option.getD_none] at HAC; clear hac hpl hii hRR h6 hoa hg ha hdo hI hfi Hs ok hR hl hnp hlA l8 p8 hkW rW eva evp hwf hri; go_enter Tryz.func12, Tryz.ntmps12; go_wp2_with (first | (go_at_call 29; (with_reducible refine (HRI.out _).mono ?_); rintro e' w1 ⟨rfl, hk1⟩; have K1 := hD hk1; have e0 := kZ hk1 e0; have e1 := kZ hk1 e1; have e2 := kZ hk1 e2; have e3 := kZ hk1 e3; have f0 := kZ hk1 f0; have f1 := kZ hk1 f1; have f2 := kZ hk1 f2; have f3 := kZ hk1 f3; have f4 := kZ hk1 f4; have f5 := kZ hk1 f5; have f6 := kZ hk1 f6; have f7 := kZ hk1 f7; have f8 := kZ hk1 f8; have f9 := kZ hk1 f9; have f10 := kZ hk1 f10; have f11 := kZ hk1 f11; have f12 := kZ hk1 f12; have f13 := kZ hk1 f13; clear hk1) | (go_at_call 32; (with_reducible refine (HFI.out _ (kT KW.out K1.out)).mono ?_); rintro e' w2 ⟨rfl, hk2⟩; have K2 := hD (kT KW.out (kT K1.out hk2)); have f0 := kZ hk2 f0; have f1 := kZ hk2 f1; have f2 := kZ hk2 f2; have f3 := kZ hk2 f3; have f4 := kZ hk2 f4; have f5 := kZ hk2 f5; have f6 := kZ hk2 f6; have f7 := kZ hk2 f7; have f8 := kZ hk2 f8; have f9 := kZ hk2 f9; have f10 := kZ hk2 f10; have f11 := kZ hk2 f11; have f12 := kZ hk2 f12; have f13 := kZ hk2 f13; clear hk2) | (go_at_call 33; (with_reducible refine (HAC.out _ K2.out).mono ?_); rintro e' w3 ⟨rfl, gs3, va3, h3, hA3⟩; have H3 := hD h3; have A3 := hD hA3; clear h3 hA3))
   go_ret; exact ⟨rfl, gs3, va3, vp, H3.out, (Asd.of_kp _ K2.out).trans A3.out⟩
  | some m2 =>
   rw [aS hR hdo]; rw [show (some m2 : Option StM).isSome = true from rfl, Option.getD_some] at HAC; clear hac hpl hii hRR h6 hoa hg ha hdo hI hfi Hs ok hR hl hnp hlA l8 p8 hkW rW eva evp hwf hri; go_enter Tryz.func12, Tryz.ntmps12; go_wp2_with (first | (go_at_call 29; (with_reducible refine (HRI.out _).mono ?_); rintro e' w1 ⟨rfl, hk1⟩; have K1 := hD hk1; have e0 := kZ hk1 e0; have e1 := kZ hk1 e1; have e2 := kZ hk1 e2; have e3 := kZ hk1 e3; have f0 := kZ hk1 f0; have f1 := kZ hk1 f1; have f2 := kZ hk1 f2; have f3 := kZ hk1 f3; have f4 := kZ hk1 f4; have f5 := kZ hk1 f5; have f6 := kZ hk1 f6; have f7 := kZ hk1 f7; have f8 := kZ hk1 f8; have f9 := kZ hk1 f9; have f10 := kZ hk1 f10; have f11 := kZ hk1 f11; have f12 := kZ hk1 f12; have f13 := kZ hk1 f13; clear hk1) | (go_at_call 32; (with_reducible refine (HFI.out _ (kT KW.out K1.out)).mono ?_); rintro e' w2 ⟨rfl, hk2⟩; have K2 := hD (kT KW.out (kT K1.out hk2)); have f0 := kZ hk2 f0; have f1 := kZ hk2 f1; have f2 := kZ hk2 f2; have f3 := kZ hk2 f3; have f4 := kZ hk2 f4; have f5 := kZ hk2 f5; have f6 := kZ hk2 f6; have f7 := kZ hk2 f7; have f8 := kZ hk2 f8; have f9 := kZ hk2 f9; have f10 := kZ hk2 f10; have f11 := kZ hk2 f11; have f12 := kZ hk2 f12; have f13 := kZ hk2 f13; clear hk2) | (go_at_call 33; (with_reducible refine (HAC.out _ K2.out).mono ?_); rintro e' w3 ⟨rfl, gs3, va3, h3, hA3⟩; have H3 := hD h3; have A3 := hD hA3; clear h3 hA3))
   go_ret; exact ⟨rfl, gs3, va3, vp, H3.out, (Asd.of_kp _ K2.out).trans A3.out⟩
end Go.Proofs.YtpemeenfhkgmpaaGreatDoor
