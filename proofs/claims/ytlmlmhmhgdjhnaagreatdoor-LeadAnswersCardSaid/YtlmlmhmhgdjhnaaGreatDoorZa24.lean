/- Parts of this proof (own work). -/
import Derived.Test.YtlmlmhmhgdjhnaaGreatDoorZa23
import Derived.Test.YtlmlmhmhgdjhnaaGreatDoorLen
import Derived.Lib.ItoaNum
import Derived.Lib.SlBytesConst
import Derived.Laws.Strings
set_option maxRecDepth 100000
set_option maxHeartbeats 40000000
namespace Go.Proofs.YtlmlmhmhgdjhnaaGreatDoor
open Go.RowKit Go.ChangeShapes Go.WideShapes
variable {w0 w w' W w3 : World} {B q : Nat} {m : StM} {gs : List AcG} {va vp : Value}
theorem refApply_no (Hs : GS tyD B q m gs va vp w) (f : FX) (hwf : f.wf) (hR : rightF f = false) : Calls Tryz.prog 35 #[.pointer (some ⟨q, 0, none⟩), .agg f.cells] w fun r w' => r = .returned (.int .i64 (applyQ m f).1) ∧ ∃ gs' va' vp', GS tyD B q (applyQ m f).2 gs' va' vp' w' ∧ Asd (Ow q gs va vp) (Ow q gs' va' vp') w w' := by
 have hri := fun w1 => refRight14_any f hwf w1
 rw [applyQ_bad hR]; rw [hR] at hri; obtain ⟨fk, fn, fs, fr, fe, fp, fq, fo, fd, fa, ft, fh, fc, fx⟩ := f; dsimp only [FX.cells] at hri ⊢; obtain ⟨HRI, HS⟩ := hD2 hri Hs; have hkW := kA w (.cells #[fk, fn, fs, fr, fe, fp, fq, fo, fd, fa, ft, fh, fc, fx] 102); obtain ⟨f0, f1, f2, f3, f4, f5, f6, f7, f8, f9, f10, f11, f12, f13⟩ := cZ (mH w (.cells #[fk, fn, fs, fr, fe, fp, fq, fo, fd, fa, ft, fh, fc, fx] 102)); obtain ⟨W, hW⟩ : ∃ W, w.alloc (.cells #[fk, fn, fs, fr, fe, fp, fq, fo, fd, fa, ft, fh, fc, fx] 102) = W := ⟨_, rfl⟩
 rw [hW] at hkW f0 f1 f2 f3 f4 f5 f6 f7 f8 f9 f10 f11 f12 f13; have KW := hD hkW; clear Hs hwf hR hri hkW; go_enter Tryz.func35, Tryz.ntmps35; go_wp2_with (go_at_call 87; (with_reducible refine (HRI.out _).mono ?_); rintro e' w1 ⟨rfl, hk1⟩; have K1 := hD hk1; clear hk1)
 go_ret; exact ⟨rfl, gs, va, vp, HS.out.kp (kT KW.out K1.out), Asd.of_kp _ (kT KW.out K1.out)⟩
theorem refActA {i : Nat} {ii : Int} {xn xs xo xd : Int} {xx : Nat} {xp xc : Int} {xr : List RgM} {xb : Option Addr} {xk : Nat} (Hs : GS tyD B q m gs va vp w) (h8 : gs.length ≤ 8) (hii : (i : Int) = ii) (hg : gs[i]? = some ⟨⟨⟨xn, xs, xo, xd, xx⟩, xp, xc, xr⟩, xb, xk⟩) (h6 : xr.length ≤ 6) (fk : Int) (fn fs fr fe fp fq fo fd fa ft fh fc : Int) (fx : Nat) (hk : fk = 2 ∨ fk = 3 ∨ fk = 4 ∨ fk = 5) (hR : rightF (⟨fk, fn, fs, fr, fe, fp, fq, fo, fd, fa, ft, fh, fc, fx⟩ : FX) = true) : Calls Tryz.prog 89 #[.pointer (some ⟨q, 0, none⟩), .int .i64 ii, .agg #[fk, fn, fs, fr, fe, fp, fq, fo, fd, fa, ft, fh, fc, fx]] w fun r w' => r = .returned (.bool (actS m i ⟨⟨xn, xs, xo, xd, xx⟩, xp, xc, xr⟩ (⟨fk, fn, fs, fr, fe, fp, fq, fo, fd, fa, ft, fh, fc, fx⟩ : FX)).isSome) ∧ ∃ gs' va', GS tyD B q ((actS m i ⟨⟨xn, xs, xo, xd, xx⟩, xp, xc, xr⟩ (⟨fk, fn, fs, fr, fe, fp, fq, fo, fd, fa, ft, fh, fc, fx⟩ : FX)).getD m) gs' va' vp w' ∧ Asd (Ow q gs va vp) (Ow q gs' va' vp) w w' := by
 rcases hk with rfl | rfl | rfl | rfl
 ·exact refAct2 Hs h8 hii hg h6 fn fs fr fe fp fq fo fd fa ft fh fc fx
 ·exact refAct3 Hs h8 hii hg h6 fn fs fr fe fp fq fo fd fa ft fh fc fx (by have := okF_of hR; simp [okF] at this; omega)
 ·exact refAct4 Hs h8 hii hg h6 fn fs fr fe fp fq fo fd fa ft fh fc fx
 ·exact refAct5 Hs h8 hii hg h6 fn fs fr fe fp fq fo fd fa ft fh fc fx
theorem refApplyA (Hs : GS tyD B q m gs va vp w) (ok : OkS m) (fk : Int) (fn fs fr fe fp fq fo fd fa ft fh fc : Int) (fx : Nat) (hk : fk = 2 ∨ fk = 3 ∨ fk = 4 ∨ fk = 5) (hR : rightF (⟨fk, fn, fs, fr, fe, fp, fq, fo, fd, fa, ft, fh, fc, fx⟩ : FX) = true) : Calls Tryz.prog 35 #[.pointer (some ⟨q, 0, none⟩), .agg #[fk, fn, fs, fr, fe, fp, fq, fo, fd, fa, ft, fh, fc, fx]] w fun r w' => r = .returned (.int .i64 (applyQ m (⟨fk, fn, fs, fr, fe, fp, fq, fo, fd, fa, ft, fh, fc, fx⟩ : FX)).1) ∧ ∃ gs' va' vp', GS tyD B q (applyQ m (⟨fk, fn, fs, fr, fe, fp, fq, fo, fd, fa, ft, fh, fc, fx⟩ : FX)).2 gs' va' vp' w' ∧ Asd (Ow q gs va vp) (Ow q gs' va' vp') w w' := by
 obtain ⟨a0, c0, eva⟩ := Hs.vForm; obtain ⟨b0, d0, evp⟩ := Hs.pForm; obtain ⟨nd, nx, A, PL⟩ := m; obtain ⟨len, hl⟩ : ∃ x, gs.length = x := ⟨_, rfl⟩
 obtain ⟨np, hnp⟩ : ∃ x, PL.length = x := ⟨_, rfl⟩
 have hlA : A.length = len := by have := Hs.len; dsimp only at this; omega
 have l8 : len ≤ 8 := by have := ok.l8; dsimp only at this; omega
 have p8 : np ≤ 8 := by have := ok.p8; dsimp only at this; omega
 have e0 : w.cell? ⟨q, 0, none⟩ = some (.int .i64 nd) := cU (i := 0) Hs.row rfl; have e1 : w.cell? ⟨q, 1, none⟩ = some (.int .i64 nx) := cU (i := 1) Hs.row rfl; have e2 : w.cell? ⟨q, 2, none⟩ = some va := cU (i := 2) Hs.row rfl; have e3 : w.cell? ⟨q, 3, none⟩ = some vp := cU (i := 3) Hs.row rfl; dsimp only at evp; rw [eva, hl] at e2; rw [evp, hnp] at e3; have hkW := kA w (.cells #[fk, fn, fs, fr, fe, fp, fq, fo, fd, fa, ft, fh, fc, fx] 102); have rW := (mH w (.cells #[fk, fn, fs, fr, fe, fp, fq, fo, fd, fa, ft, fh, fc, fx] 102))
 obtain ⟨W, hW⟩ : ∃ W, w.alloc (.cells #[fk, fn, fs, fr, fe, fp, fq, fo, fd, fa, ft, fh, fc, fx] 102) = W := ⟨_, rfl⟩
 rw [hW] at hkW rW; obtain ⟨f0, f1, f2, f3, f4, f5, f6, f7, f8, f9, f10, f11, f12, f13⟩ := cZ rW; obtain ⟨e0, e1, e2, e3⟩ := kZ4 hkW e0 e1 e2 e3; have hwf : FX.wf (⟨fk, fn, fs, fr, fe, fp, fq, fo, fd, fa, ft, fh, fc, fx⟩ : FX) := right_wf hR; have hri := fun w1 => refRight14_any (⟨fk, fn, fs, fr, fe, fp, fq, fo, fd, fa, ft, fh, fc, fx⟩ : FX) hwf w1
 dsimp only [FX.cells] at hri; rw [hR] at hri; obtain ⟨HRI, HRR⟩ := hD2 hri hR; obtain ⟨L, hL⟩ : ∃ L : Int, (len : Int) = L := ⟨_, rfl⟩
 obtain ⟨NP, hNP⟩ : ∃ N : Int, (np : Int) = N := ⟨_, rfl⟩
 obtain ⟨HS, OK, HL, HLA, HNP, HLL, HNN, KW⟩ := hD8 Hs ok hl hlA hnp hL hNP hkW; obtain ⟨RW, EVA, EVP⟩ := hD3 rW eva evp; have L8 := hD (And.intro l8 p8); have hsf := sF; have hfi := fun w1 (h : Kp w w1) => refFind15 (Hs.kp h) (by rw [hl]; exact l8) fn fs
 try dsimp only at hfi
 obtain ⟨I, hI⟩ : ∃ x, findS A fn fs = x := ⟨_, rfl⟩
 rw [hI] at hfi
 cases I with
 | none =>
  rw [aZ hR (doS_act0 (m := ⟨nd, nx, A, PL⟩) hk hI)]; have HFI := hD hfi; have hn : placeQ none = -1 := rfl; rw [hn] at HFI; clear hn hI hfi HRR Hs ok hR hl hnp hlA l8 p8 hkW rW eva evp hwf hri
  rcases hk with rfl | rfl | rfl | rfl <;> (
   go_enter Tryz.func35, Tryz.ntmps35; go_wp2_with (first | (go_at_call 87; (with_reducible refine (HRI.out _).mono ?_); rintro e' w1 ⟨rfl, hk1⟩; have K1 := hD hk1; obtain ⟨e0, e1, e2, e3, f0, f1, f2, f3, f4, f5, f6, f7, f8, f9, f10, f11, f12, f13⟩ := kZ18 hk1 e0 e1 e2 e3 f0 f1 f2 f3 f4 f5 f6 f7 f8 f9 f10 f11 f12 f13; clear hk1) | (go_at_call 20; (with_reducible refine (HFI.out _ (kT KW.out K1.out)).mono ?_); rintro e' w2 ⟨rfl, hk2⟩; have K2 := hD (kT KW.out (kT K1.out hk2)); clear hk2))
   go_ret; exact ⟨rfl, gs, va, vp, HS.out.kp K2.out, Asd.of_kp _ K2.out⟩)
 | some i =>
  have hi : ∃ a, A[i]? = some a := by
   obtain ⟨a, h1, -⟩ := fS hI; exact ⟨a, h1⟩
  obtain ⟨⟨⟨xn, xs, xo, xd, xx⟩, xp, xc, xr⟩, ha⟩ := hi; obtain ⟨⟨ga, xb, xk⟩, hg, hga⟩ := Hs.at (i := i) ha
  try dsimp only at hga
  subst hga; have hdo := doS_act1 (m := ⟨nd, nx, A, PL⟩) (f := (⟨fk, fn, fs, fr, fe, fp, fq, fo, fd, fa, ft, fh, fc, fx⟩ : FX)) hk hI ha; have hoa := ok.a _ (List.mem_of_getElem? ha); have h6 : xr.length ≤ 6 := hoa.l; have hac := fun w1 (h : Kp w w1) => refActA (Hs.kp h) (by rw [hl]; exact l8) (rfl : (i : Int) = (i : Int)) hg h6 fk fn fs fr fe fp fq fo fd fa ft fh fc fx hk hR
  try dsimp only at hac
  obtain ⟨R, hRR⟩ : ∃ x, actS ⟨nd, nx, A, PL⟩ i ⟨⟨xn, xs, xo, xd, xx⟩, xp, xc, xr⟩ (⟨fk, fn, fs, fr, fe, fp, fq, fo, fd, fa, ft, fh, fc, fx⟩ : FX) = x := ⟨_, rfl⟩
  rw [hRR] at hac hdo; obtain ⟨ii, hii⟩ : ∃ ii : Int, (i : Int) = ii := ⟨_, rfl⟩
  have hpl : placeQ (some i) = ii := hii; have g0 : decide (ii < 0) = false := dF (by omega); rw [hii] at hac; rw [hpl] at hfi; obtain ⟨HFI, HAC⟩ := hD2 hfi hac
  cases R with
  | none =>
   rw [aZ hR hdo]; rw [show (none : Option StM).isSome = false from rfl, Option.getD_none] at HAC; clear HRR hac hpl hii hRR h6 hoa hg ha hdo hI hfi Hs ok hR hl hnp hlA l8 p8 hkW rW eva evp hwf hri
   rcases hk with rfl | rfl | rfl | rfl <;> (
    go_enter Tryz.func35, Tryz.ntmps35; go_wp2_with (first | (go_at_call 87; (with_reducible refine (HRI.out _).mono ?_); rintro e' w1 ⟨rfl, hk1⟩; have K1 := hD hk1; obtain ⟨e0, e1, e2, e3, f0, f1, f2, f3, f4, f5, f6, f7, f8, f9, f10, f11, f12, f13⟩ := kZ18 hk1 e0 e1 e2 e3 f0 f1 f2 f3 f4 f5 f6 f7 f8 f9 f10 f11 f12 f13; clear hk1) | (go_at_call 20; (with_reducible refine (HFI.out _ (kT KW.out K1.out)).mono ?_); rintro e' w2 ⟨rfl, hk2⟩; have K2 := hD (kT KW.out (kT K1.out hk2)); obtain ⟨f0, f1, f2, f3, f4, f5, f6, f7, f8, f9, f10, f11, f12, f13⟩ := kZ14 hk2 f0 f1 f2 f3 f4 f5 f6 f7 f8 f9 f10 f11 f12 f13; clear hk2) | (go_at_call 89; (with_reducible refine (HAC.out _ K2.out).mono ?_); rintro e' w3 ⟨rfl, gs3, va3, h3, hA3⟩; obtain ⟨H3, A3⟩ := hD2 h3 hA3; clear h3 hA3))
    go_ret; exact ⟨rfl, gs3, va3, vp, H3.out, (Asd.of_kp _ K2.out).trans A3.out⟩)
  | some m2 =>
   rw [aS hR hdo]; rw [show (some m2 : Option StM).isSome = true from rfl, Option.getD_some] at HAC; clear HRR hac hpl hii hRR h6 hoa hg ha hdo hI hfi Hs ok hR hl hnp hlA l8 p8 hkW rW eva evp hwf hri
   rcases hk with rfl | rfl | rfl | rfl <;> (
    go_enter Tryz.func35, Tryz.ntmps35; go_wp2_with (first | (go_at_call 87; (with_reducible refine (HRI.out _).mono ?_); rintro e' w1 ⟨rfl, hk1⟩; have K1 := hD hk1; obtain ⟨e0, e1, e2, e3, f0, f1, f2, f3, f4, f5, f6, f7, f8, f9, f10, f11, f12, f13⟩ := kZ18 hk1 e0 e1 e2 e3 f0 f1 f2 f3 f4 f5 f6 f7 f8 f9 f10 f11 f12 f13; clear hk1) | (go_at_call 20; (with_reducible refine (HFI.out _ (kT KW.out K1.out)).mono ?_); rintro e' w2 ⟨rfl, hk2⟩; have K2 := hD (kT KW.out (kT K1.out hk2)); obtain ⟨f0, f1, f2, f3, f4, f5, f6, f7, f8, f9, f10, f11, f12, f13⟩ := kZ14 hk2 f0 f1 f2 f3 f4 f5 f6 f7 f8 f9 f10 f11 f12 f13; clear hk2) | (go_at_call 89; (with_reducible refine (HAC.out _ K2.out).mono ?_); rintro e' w3 ⟨rfl, gs3, va3, h3, hA3⟩; obtain ⟨H3, A3⟩ := hD2 h3 hA3; clear h3 hA3))
    go_ret; exact ⟨rfl, gs3, va3, vp, H3.out, (Asd.of_kp _ K2.out).trans A3.out⟩)
theorem refApply2 (Hs : GS tyD B q m gs va vp w) (ok : OkS m) (fn fs fr fe fp fq fo fd fa ft fh fc : Int) (fx : Nat) (hR : rightF (⟨2, fn, fs, fr, fe, fp, fq, fo, fd, fa, ft, fh, fc, fx⟩ : FX) = true) : Calls Tryz.prog 35 #[.pointer (some ⟨q, 0, none⟩), .agg #[(2:Int), fn, fs, fr, fe, fp, fq, fo, fd, fa, ft, fh, fc, fx]] w fun r w' => r = .returned (.int .i64 (applyQ m (⟨2, fn, fs, fr, fe, fp, fq, fo, fd, fa, ft, fh, fc, fx⟩ : FX)).1) ∧ ∃ gs' va' vp', GS tyD B q (applyQ m (⟨2, fn, fs, fr, fe, fp, fq, fo, fd, fa, ft, fh, fc, fx⟩ : FX)).2 gs' va' vp' w' ∧ Asd (Ow q gs va vp) (Ow q gs' va' vp') w w' := refApplyA Hs ok 2 fn fs fr fe fp fq fo fd fa ft fh fc fx (by omega) hR
theorem refApply3 (Hs : GS tyD B q m gs va vp w) (ok : OkS m) (fn fs fr fe fp fq fo fd fa ft fh fc : Int) (fx : Nat) (hR : rightF (⟨3, fn, fs, fr, fe, fp, fq, fo, fd, fa, ft, fh, fc, fx⟩ : FX) = true) : Calls Tryz.prog 35 #[.pointer (some ⟨q, 0, none⟩), .agg #[(3:Int), fn, fs, fr, fe, fp, fq, fo, fd, fa, ft, fh, fc, fx]] w fun r w' => r = .returned (.int .i64 (applyQ m (⟨3, fn, fs, fr, fe, fp, fq, fo, fd, fa, ft, fh, fc, fx⟩ : FX)).1) ∧ ∃ gs' va' vp', GS tyD B q (applyQ m (⟨3, fn, fs, fr, fe, fp, fq, fo, fd, fa, ft, fh, fc, fx⟩ : FX)).2 gs' va' vp' w' ∧ Asd (Ow q gs va vp) (Ow q gs' va' vp') w w' := refApplyA Hs ok 3 fn fs fr fe fp fq fo fd fa ft fh fc fx (by omega) hR
theorem refApply4 (Hs : GS tyD B q m gs va vp w) (ok : OkS m) (fn fs fr fe fp fq fo fd fa ft fh fc : Int) (fx : Nat) (hR : rightF (⟨4, fn, fs, fr, fe, fp, fq, fo, fd, fa, ft, fh, fc, fx⟩ : FX) = true) : Calls Tryz.prog 35 #[.pointer (some ⟨q, 0, none⟩), .agg #[(4:Int), fn, fs, fr, fe, fp, fq, fo, fd, fa, ft, fh, fc, fx]] w fun r w' => r = .returned (.int .i64 (applyQ m (⟨4, fn, fs, fr, fe, fp, fq, fo, fd, fa, ft, fh, fc, fx⟩ : FX)).1) ∧ ∃ gs' va' vp', GS tyD B q (applyQ m (⟨4, fn, fs, fr, fe, fp, fq, fo, fd, fa, ft, fh, fc, fx⟩ : FX)).2 gs' va' vp' w' ∧ Asd (Ow q gs va vp) (Ow q gs' va' vp') w w' := refApplyA Hs ok 4 fn fs fr fe fp fq fo fd fa ft fh fc fx (by omega) hR
theorem refApply5 (Hs : GS tyD B q m gs va vp w) (ok : OkS m) (fn fs fr fe fp fq fo fd fa ft fh fc : Int) (fx : Nat) (hR : rightF (⟨5, fn, fs, fr, fe, fp, fq, fo, fd, fa, ft, fh, fc, fx⟩ : FX) = true) : Calls Tryz.prog 35 #[.pointer (some ⟨q, 0, none⟩), .agg #[(5:Int), fn, fs, fr, fe, fp, fq, fo, fd, fa, ft, fh, fc, fx]] w fun r w' => r = .returned (.int .i64 (applyQ m (⟨5, fn, fs, fr, fe, fp, fq, fo, fd, fa, ft, fh, fc, fx⟩ : FX)).1) ∧ ∃ gs' va' vp', GS tyD B q (applyQ m (⟨5, fn, fs, fr, fe, fp, fq, fo, fd, fa, ft, fh, fc, fx⟩ : FX)).2 gs' va' vp' w' ∧ Asd (Ow q gs va vp) (Ow q gs' va' vp') w w' := refApplyA Hs ok 5 fn fs fr fe fp fq fo fd fa ft fh fc fx (by omega) hR
theorem cells_2S {b : Nat} {t : TypeId} {w : World} {x0 x1 : Value} (h : w.heap[b]? = some (.cells #[x0, x1] t (0, 0))) : w.cell? ⟨b, 0, none⟩ = some x0 ∧ w.cell? ⟨b, 1, none⟩ = some x1 := by
 refine ⟨?_, ?_⟩ <;> (unfold World.cell?; dsimp only; rw [h]; rfl)
def fb (n i : Nat) : Int := ((n / 256 ^ i % 256 : Nat) : Int)
def f8 (n : Nat) : List Int := [fb n 7, fb n 6, fb n 5, fb n 4, fb n 3, fb n 2, fb n 1, fb n 0]
def nb (x : Nat) : Nat := (Lib.bitLen x + 7) / 8
def Kb (p : Nat) (w w' : World) : Prop := w.heap.size ≤ w'.heap.size ∧ ∀ b, b ≠ p → b < w.heap.size → w'.heap[b]? = w.heap[b]?
theorem three {cs : List Int} (h : ¬ cs.length < 3) : ∃ x0 x1 x2 rest, cs = x0 :: x1 :: x2 :: rest := by
 match cs, h with
 | x0 :: x1 :: x2 :: rest, _ => exact ⟨x0, x1, x2, rest, rfl⟩
 | [], h => exact absurd (by simp) h
 | [_], h => exact absurd (by simp) h
 | [_, _], h => exact absurd (by simp) h
structure FacC (ads : List Addr) (w : World) : Prop where
 right : ∀ w1, Kp w w1 → ∀ f : FX, f.wf → Calls Tryz.prog 85 #[.agg f.cells] w1 fun e w' => e = .returned (.bool (rightF f)) ∧ Kp w1 w'
theorem FacC.kp {ads : List Addr} {w w' : World} (C : FacC ads w) (hk : Kp w w') : FacC ads w' where
 right := fun w1 h => C.right w1 (kT hk h)
theorem errI_some14 (ads : List Addr) (k : Int) (h : k ≠ 0) : ∃ q, errI ads k = .iface 283 (.pointer q) := ⟨_, if_neg h⟩
theorem run_right : ∀ (l : List FX) (m m' : StM), runS m l = some m' → ∀ f ∈ l, rightF f = true
 | [], _, _, _, f, hf => by cases hf
 | f :: l, m, m', h, g, hg => by
  unfold runS at h
  cases hs : stepS m f with
  | none => rw [hs] at h; simp at h
  | some m2 =>
   rw [hs] at h; have h : runS m2 l = some m' := h
   rcases List.mem_cons.1 hg with rfl | hg
   ·unfold stepS at hs
    cases hr : rightF g with
    | true => rfl
    | false => rw [hr] at hs; simp at hs
   ·exact run_right l m2 m' h g hg
variable {ads : List Addr}
end Go.Proofs.YtlmlmhmhgdjhnaaGreatDoor
