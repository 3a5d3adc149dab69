/- Parts of this proof (own work). -/
import Derived.Test.YtlmlmhmhgdjhnaaGreatDoorZa29
set_option maxRecDepth 100000
set_option maxHeartbeats 40000000
namespace Go.Proofs.YtlmlmhmhgdjhnaaGreatDoor
open Go.RowKit Go.ChangeShapes Go.WideShapes
variable {w0 w w' W w3 : World} {B q : Nat} {m : StM} {gs : List AcG} {va vp : Value}
theorem refApply1 (Hs : GS tyD B q m gs va vp w) (ok : OkS m) (fn fs fr fe fp fq fo fd fa ft fh fc : Int) (fx : Nat) (hR : rightF (⟨1, fn, fs, fr, fe, fp, fq, fo, fd, fa, ft, fh, fc, fx⟩ : FX) = true) : Calls Tryz.prog 35 #[.pointer (some ⟨q, 0, none⟩), .agg #[(1:Int), fn, fs, fr, fe, fp, fq, fo, fd, fa, ft, fh, fc, fx]] w fun r w' => r = .returned (.int .i64 (applyQ m (⟨1, fn, fs, fr, fe, fp, fq, fo, fd, fa, ft, fh, fc, fx⟩ : FX)).1) ∧ ∃ gs' va' vp', GS tyD B q (applyQ m (⟨1, fn, fs, fr, fe, fp, fq, fo, fd, fa, ft, fh, fc, fx⟩ : FX)).2 gs' va' vp' w' ∧ Asd (Ow q gs va vp) (Ow q gs' va' vp') w w' := by
 obtain ⟨a0, c0, eva⟩ := Hs.vForm; obtain ⟨b0, d0, evp⟩ := Hs.pForm; obtain ⟨nd, nx, A, PL⟩ := m; obtain ⟨len, hl⟩ : ∃ x, gs.length = x := ⟨_, rfl⟩
 obtain ⟨np, hnp⟩ : ∃ x, PL.length = x := ⟨_, rfl⟩
 have hlA : A.length = len := by have := Hs.len; dsimp only at this; omega
 have l8 : len ≤ 8 := by have := ok.l8; dsimp only at this; omega
 have p8 : np ≤ 8 := by have := ok.p8; dsimp only at this; omega
 have e0 : w.cell? ⟨q, 0, none⟩ = some (.int .i64 nd) := cU (i := 0) Hs.row rfl; have e1 : w.cell? ⟨q, 1, none⟩ = some (.int .i64 nx) := cU (i := 1) Hs.row rfl; have e2 : w.cell? ⟨q, 2, none⟩ = some va := cU (i := 2) Hs.row rfl; have e3 : w.cell? ⟨q, 3, none⟩ = some vp := cU (i := 3) Hs.row rfl; dsimp only at evp; rw [eva, hl] at e2; rw [evp, hnp] at e3; have hkW := kA w (.cells #[(1:Int), fn, fs, fr, fe, fp, fq, fo, fd, fa, ft, fh, fc, fx] 102); have rW := (mH w (.cells #[(1:Int), fn, fs, fr, fe, fp, fq, fo, fd, fa, ft, fh, fc, fx] 102))
 obtain ⟨W, hW⟩ : ∃ W, w.alloc (.cells #[(1:Int), fn, fs, fr, fe, fp, fq, fo, fd, fa, ft, fh, fc, fx] 102) = W := ⟨_, rfl⟩
 rw [hW] at hkW rW; obtain ⟨f0, f1, f2, f3, f4, f5, f6, f7, f8, f9, f10, f11, f12, f13⟩ := cZ rW; obtain ⟨e0, e1, e2, e3⟩ := kZ4 hkW e0 e1 e2 e3; have hwf : FX.wf (⟨1, fn, fs, fr, fe, fp, fq, fo, fd, fa, ft, fh, fc, fx⟩ : FX) := right_wf hR; have hri := fun w1 => refRight14_any (⟨1, fn, fs, fr, fe, fp, fq, fo, fd, fa, ft, fh, fc, fx⟩ : FX) hwf w1
 dsimp only [FX.cells] at hri; rw [hR] at hri; obtain ⟨HRI, HRR⟩ := hD2 hri hR; obtain ⟨L, hL⟩ : ∃ L : Int, (len : Int) = L := ⟨_, rfl⟩
 obtain ⟨NP, hNP⟩ : ∃ N : Int, (np : Int) = N := ⟨_, rfl⟩
 obtain ⟨HS, OK, HL, HLA, HNP, HLL, HNN, KW⟩ := hD8 Hs ok hl hlA hnp hL hNP hkW; obtain ⟨RW, EVA, EVP⟩ := hD3 rW eva evp; have L8 := hD (And.intro l8 p8); have hsf := sF; have hO : w.ownsRow B 72 8 (.slice a0 len c0) len (acE.row gs) := by have := Hs.oa; rw [eva, hl] at this; exact this
 have OA := hD hO; clear hO; have hfa : 0 ≤ fa ∧ fa ≤ 8 := (inv_open hR rfl).2; have hse : 0 ≤ fs ∧ fs < 1000000 := by
  have h0 := rightX_act (inv_open hR rfl).1; unfold rightA at h0; have h1 := of_decide_eq_true h0; dsimp only [ctxF] at h1; omega
 have hw : wrap64 (fs + 1) = fs + 1 := IntWalk.wrap64_in _ (by omega)
 by_cases h1 : nd = fn
 rotate_left
 ·have g1 : (fn == nd) = false := by simpa using fun e => h1 e.symm
  have g2 : (fn != nd) = true := by simpa using fun e => h1 e.symm
  have hdo : doS ⟨nd, nx, A, PL⟩ (⟨1, fn, fs, fr, fe, fp, fq, fo, fd, fa, ft, fh, fc, fx⟩ : FX) = none := by unfold doS; dsimp only; rw [if_pos rfl, if_pos (.inl fun e => h1 e.symm)]
  rw [aZ hR hdo]; clear hdo h1 Hs ok hR hl hnp hlA l8 p8 hkW rW eva evp hwf hri; go_enter Tryz.func35, Tryz.ntmps35; go_wp2_with (go_at_call 87; (with_reducible refine (HRI.out _).mono ?_); rintro e' w1 ⟨rfl, hk1⟩; have K1 := hD hk1; obtain ⟨e0, e1, e2, e3, f0, f1, f2, f3, f4, f5, f6, f7, f8, f9, f10, f11, f12, f13⟩ := kZ18 hk1 e0 e1 e2 e3 f0 f1 f2 f3 f4 f5 f6 f7 f8 f9 f10 f11 f12 f13; clear hk1)
  obtain ⟨WD, hWD⟩ : ∃ x, w1.drew = x := ⟨_, rfl⟩
  have kD : Kp w1 WD := by rw [← hWD]; exact dQ (Kp.refl w1)
  have HWD := hD hWD; clear hWD; refine rgW (fun w' => Kp w1 w') ?_ fun hH => ?_
  ·exact by rw [HWD.out]; exact kD
  rw [HWD.out] at hH ⊢; refine tkP 0 ?_
  go_simp; refine tkP 1 ?_
  go_simp; refine tkP 2 ?_ (y := by intro w hZ; obtain ⟨q0, q1, q2, q3, a1, a2, a9⟩ := kZ7 hZ e0 e1 e2 e3 f1 f2 f9; go_simp; try rfl)
  go_simp; refine tkP 3 ?_
  go_simp; refine tkP 4 ?_
  go_simp; refine tkP 5 ?_
  go_simp; refine tkP 6 ?_ (y := by intro w hZ; obtain ⟨q0, q1, q2, q3, a1, a2, a9⟩ := kZ7 hZ e0 e1 e2 e3 f1 f2 f9; go_simp; try rfl)
  go_simp; refine tkP 7 ?_
  go_simp; refine tkP 8 ?_
  go_simp; refine skW 9 ?_
  go_simp; refine skW 10 ?_
  go_simp; refine skW 11 ?_
  go_simp; refine skW 12 ?_
  go_simp; refine skW 13 ?_
  go_simp; refine skW 14 ?_
  go_simp; refine skW 15 ?_
  go_simp; refine skW 16 ?_
  go_simp; refine tkP 17 ?_
  go_simp; refine tkP 18 ?_
  go_simp; refine skW 19 ?_
  go_simp; refine skW 20 ?_
  go_simp; refine skW 21 ?_
  go_simp; refine skW 22 ?_
  go_simp; refine skW 23 ?_
  go_simp; refine skW 24 ?_
  go_simp; refine tkP 25 ?_
  go_simp; refine tkP 26 ?_
  go_simp; refine skW 27 ?_
  go_simp; refine skW 28 ?_
  go_simp; refine skW 29 ?_
  go_simp; refine skW 30 ?_
  go_simp; refine skW 31 ?_
  go_simp; refine skW 32 ?_
  go_simp; refine skW 33 ?_
  go_simp; refine skW 34 ?_
  go_simp; refine skW 35 ?_
  go_simp; refine skW 36 ?_
  go_simp; refine skW 37 ?_
  go_simp; refine skW 38 ?_
  go_simp; refine skW 39 ?_
  go_simp; refine skW 40 ?_
  go_simp; refine skW 41 ?_
  go_simp; refine skW 42 ?_
  go_simp; refine skW 43 ?_
  go_simp; refine skW 44 ?_
  go_simp; refine skW 45 ?_
  go_simp; refine skW 46 ?_
  go_simp; refine skW 47 ?_
  go_simp; refine tkP 48 ?_
  go_simp; refine dnW ?_ _
  have KF := hD (show Kp w1 _ from hH); clear hH; go_wp2; go_ret; exact ⟨rfl, gs, va, vp, HS.out.kp (kT KW.out (kT K1.out KF.out)), Asd.of_kp _ (kT KW.out (kT K1.out KF.out))⟩
 subst h1; have HMA := hD (show A ++ [⟨⟨nd, fs, fo, fd, fx⟩, fa, 0, []⟩] = (gs ++ [(⟨⟨⟨nd, fs, fo, fd, fx⟩, fa, 0, []⟩, none, 0⟩ : AcG)]).map AcG.a by have := Hs.acts; dsimp only at this; rw [this]; simp)
 by_cases h2 : fs < nx
 ·have g2 : decide (fs < nx) = true := dT h2; have hdo : doS ⟨nd, nx, A, PL⟩ (⟨1, nd, fs, fr, fe, fp, fq, fo, fd, fa, ft, fh, fc, fx⟩ : FX) = none := by unfold doS; dsimp only; rw [if_pos rfl, if_pos (.inr (.inl h2))]
  rw [aZ hR hdo]; clear hdo h2 Hs ok hR hl hnp hlA l8 p8 hkW rW eva evp hwf hri; go_enter Tryz.func35, Tryz.ntmps35; go_wp2_with (go_at_call 87; (with_reducible refine (HRI.out _).mono ?_); rintro e' w1 ⟨rfl, hk1⟩; have K1 := hD hk1; obtain ⟨e0, e1, e2, e3, f0, f1, f2, f3, f4, f5, f6, f7, f8, f9, f10, f11, f12, f13⟩ := kZ18 hk1 e0 e1 e2 e3 f0 f1 f2 f3 f4 f5 f6 f7 f8 f9 f10 f11 f12 f13; clear hk1)
  obtain ⟨WD, hWD⟩ : ∃ x, w1.drew = x := ⟨_, rfl⟩
  have kD : Kp w1 WD := by rw [← hWD]; exact dQ (Kp.refl w1)
  have HWD := hD hWD; clear hWD; refine rgW (fun w' => Kp w1 w') ?_ fun hH => ?_
  ·exact by rw [HWD.out]; exact kD
  rw [HWD.out] at hH ⊢; refine tkP 0 ?_
  go_simp; refine tkP 1 ?_
  go_simp; refine tkP 2 ?_ (y := by intro w hZ; obtain ⟨q0, q1, q2, q3, a1, a2, a9⟩ := kZ7 hZ e0 e1 e2 e3 f1 f2 f9; go_simp; try rfl)
  go_simp; refine tkP 3 ?_
  go_simp; refine tkP 4 ?_
  go_simp; refine tkP 5 ?_
  go_simp; refine tkP 6 ?_ (y := by intro w hZ; obtain ⟨q0, q1, q2, q3, a1, a2, a9⟩ := kZ7 hZ e0 e1 e2 e3 f1 f2 f9; go_simp; try rfl)
  go_simp; refine tkP 7 ?_
  go_simp; refine tkP 8 ?_
  go_simp; refine tkP 9 ?_
  go_simp; refine tkP 10 ?_
  go_simp; refine tkP 11 ?_ (y := by intro w hZ; obtain ⟨q0, q1, q2, q3, a1, a2, a9⟩ := kZ7 hZ e0 e1 e2 e3 f1 f2 f9; go_simp; try rfl)
  go_simp; refine tkP 12 ?_
  go_simp; refine tkP 13 ?_
  go_simp; refine tkP 14 ?_
  go_simp; refine tkP 15 ?_ (y := by intro w hZ; obtain ⟨q0, q1, q2, q3, a1, a2, a9⟩ := kZ7 hZ e0 e1 e2 e3 f1 f2 f9; go_simp; try rfl)
  go_simp; refine tkP 16 ?_
  go_simp; refine tkP 17 ?_
  go_simp; refine tkP 18 ?_
  go_simp; refine skW 19 ?_
  go_simp; refine skW 20 ?_
  go_simp; refine skW 21 ?_
  go_simp; refine skW 22 ?_
  go_simp; refine skW 23 ?_
  go_simp; refine skW 24 ?_
  go_simp; refine tkP 25 ?_
  go_simp; refine tkP 26 ?_
  go_simp; refine skW 27 ?_
  go_simp; refine skW 28 ?_
  go_simp; refine skW 29 ?_
  go_simp; refine skW 30 ?_
  go_simp; refine skW 31 ?_
  go_simp; refine skW 32 ?_
  go_simp; refine skW 33 ?_
  go_simp; refine skW 34 ?_
  go_simp; refine skW 35 ?_
  go_simp; refine skW 36 ?_
  go_simp; refine skW 37 ?_
  go_simp; refine skW 38 ?_
  go_simp; refine skW 39 ?_
  go_simp; refine skW 40 ?_
  go_simp; refine skW 41 ?_
  go_simp; refine skW 42 ?_
  go_simp; refine skW 43 ?_
  go_simp; refine skW 44 ?_
  go_simp; refine skW 45 ?_
  go_simp; refine skW 46 ?_
  go_simp; refine skW 47 ?_
  go_simp; refine tkP 48 ?_
  go_simp; refine dnW ?_ _
  have KF := hD (show Kp w1 _ from hH); clear hH; go_wp2; go_ret; exact ⟨rfl, gs, va, vp, HS.out.kp (kT KW.out (kT K1.out KF.out)), Asd.of_kp _ (kT KW.out (kT K1.out KF.out))⟩
 have g2 : decide (fs < nx) = false := dF h2
 by_cases h3 : L ≥ 8
 ·have g3 : decide (L ≥ 8) = true := dT h3; have hdo : doS ⟨nd, nx, A, PL⟩ (⟨1, nd, fs, fr, fe, fp, fq, fo, fd, fa, ft, fh, fc, fx⟩ : FX) = none := by unfold doS; dsimp only; rw [if_pos rfl, if_pos (.inr (.inr (.inl (by omega))))]
  rw [aZ hR hdo]; clear hdo h2 h3 Hs ok hR hl hnp hlA l8 p8 hkW rW eva evp hwf hri; go_enter Tryz.func35, Tryz.ntmps35; go_wp2_with (go_at_call 87; (with_reducible refine (HRI.out _).mono ?_); rintro e' w1 ⟨rfl, hk1⟩; have K1 := hD hk1; obtain ⟨e0, e1, e2, e3, f0, f1, f2, f3, f4, f5, f6, f7, f8, f9, f10, f11, f12, f13⟩ := kZ18 hk1 e0 e1 e2 e3 f0 f1 f2 f3 f4 f5 f6 f7 f8 f9 f10 f11 f12 f13; clear hk1)
  obtain ⟨WD, hWD⟩ : ∃ x, w1.drew = x := ⟨_, rfl⟩
  have kD : Kp w1 WD := by rw [← hWD]; exact dQ (Kp.refl w1)
  have HWD := hD hWD; clear hWD; refine rgW (fun w' => Kp w1 w') ?_ fun hH => ?_
  ·exact by rw [HWD.out]; exact kD
  rw [HWD.out] at hH ⊢; refine tkP 0 ?_
  go_simp; refine tkP 1 ?_
  go_simp; refine tkP 2 ?_ (y := by intro w hZ; obtain ⟨q0, q1, q2, q3, a1, a2, a9⟩ := kZ7 hZ e0 e1 e2 e3 f1 f2 f9; go_simp; try rfl)
  go_simp; refine tkP 3 ?_
  go_simp; refine tkP 4 ?_
  go_simp; refine tkP 5 ?_
  go_simp; refine tkP 6 ?_ (y := by intro w hZ; obtain ⟨q0, q1, q2, q3, a1, a2, a9⟩ := kZ7 hZ e0 e1 e2 e3 f1 f2 f9; go_simp; try rfl)
  go_simp; refine tkP 7 ?_
  go_simp; refine tkP 8 ?_
  go_simp; refine tkP 9 ?_
  go_simp; refine tkP 10 ?_
  go_simp; refine tkP 11 ?_ (y := by intro w hZ; obtain ⟨q0, q1, q2, q3, a1, a2, a9⟩ := kZ7 hZ e0 e1 e2 e3 f1 f2 f9; go_simp; try rfl)
  go_simp; refine tkP 12 ?_
  go_simp; refine tkP 13 ?_
  go_simp; refine tkP 14 ?_
  go_simp; refine tkP 15 ?_ (y := by intro w hZ; obtain ⟨q0, q1, q2, q3, a1, a2, a9⟩ := kZ7 hZ e0 e1 e2 e3 f1 f2 f9; go_simp; try rfl)
  go_simp; refine tkP 16 ?_
  go_simp; refine tkP 17 ?_
  go_simp; refine tkP 18 ?_
  go_simp; refine tkP 19 ?_
  go_simp; refine tkP 20 ?_
  go_simp; refine tkP 21 ?_
  go_simp; refine tkP 22 ?_ (y := by intro w hZ; obtain ⟨q0, q1, q2, q3, a1, a2, a9⟩ := kZ7 hZ e0 e1 e2 e3 f1 f2 f9; go_simp; try rfl)
  go_simp; refine tkP 23 ?_
  go_simp; refine tkP 24 ?_
  go_simp; refine tkP 25 ?_
  go_simp; refine tkP 26 ?_
  go_simp; refine skW 27 ?_
  go_simp; refine skW 28 ?_
  go_simp; refine skW 29 ?_
  go_simp; refine skW 30 ?_
  go_simp; refine skW 31 ?_
  go_simp; refine skW 32 ?_
  go_simp; refine skW 33 ?_
  go_simp; refine skW 34 ?_
  go_simp; refine skW 35 ?_
  go_simp; refine skW 36 ?_
  go_simp; refine skW 37 ?_
  go_simp; refine skW 38 ?_
  go_simp; refine skW 39 ?_
  go_simp; refine skW 40 ?_
  go_simp; refine skW 41 ?_
  go_simp; refine skW 42 ?_
  go_simp; refine skW 43 ?_
  go_simp; refine skW 44 ?_
  go_simp; refine skW 45 ?_
  go_simp; refine skW 46 ?_
  go_simp; refine skW 47 ?_
  go_simp; refine tkP 48 ?_
  go_simp; refine dnW ?_ _
  have KF := hD (show Kp w1 _ from hH); clear hH; go_wp2; go_ret; exact ⟨rfl, gs, va, vp, HS.out.kp (kT KW.out (kT K1.out KF.out)), Asd.of_kp _ (kT KW.out (kT K1.out KF.out))⟩
 have g3 : decide (L ≥ 8) = false := dF h3
 by_cases h4 : fa > 0
 rotate_left
 ·have g4 : decide (fa > 0) = false := dF h4; have hdo : doS ⟨nd, nx, A, PL⟩ (⟨1, nd, fs, fr, fe, fp, fq, fo, fd, fa, ft, fh, fc, fx⟩ : FX) = some ⟨nd, fs + 1, A ++ [⟨⟨nd, fs, fo, fd, fx⟩, fa, 0, []⟩], PL⟩ := by
   unfold doS; dsimp only; rw [if_pos rfl, if_neg (by rintro (q | q | q | ⟨q, -⟩); exact q rfl; exact h2 q; omega; omega)]; rfl
  rw [aS hR hdo]; clear hdo h2 h3 h4 hfa hse Hs ok hR hl hnp hlA l8 p8 hkW rW eva evp hwf hri; go_enter Tryz.func35, Tryz.ntmps35; go_wp2_with (go_at_call 87; (with_reducible refine (HRI.out _).mono ?_); rintro e' w1 ⟨rfl, hk1⟩; have K1 := hD hk1; obtain ⟨e0, e1, e2, e3, f0, f1, f2, f3, f4, f5, f6, f7, f8, f9, f10, f11, f12, f13⟩ := kZ18 hk1 e0 e1 e2 e3 f0 f1 f2 f3 f4 f5 f6 f7 f8 f9 f10 f11 f12 f13; clear hk1)
  obtain ⟨WD, hWD⟩ : ∃ x, w1.drew = x := ⟨_, rfl⟩
  have kD : Kp w1 WD := by rw [← hWD]; exact dQ (Kp.refl w1)
  have HWD := hD hWD; clear hWD; refine rgW (fun w' => Kp w1 w') ?_ fun hH => ?_
  ·exact by rw [HWD.out]; exact kD
  rw [HWD.out] at hH ⊢; refine tkP 0 ?_
  go_simp; refine tkP 1 ?_
  go_simp; refine tkP 2 ?_ (y := by intro w hZ; obtain ⟨q0, q1, q2, q3, a1, a2, a9⟩ := kZ7 hZ e0 e1 e2 e3 f1 f2 f9; go_simp; try rfl)
  go_simp; refine tkP 3 ?_
  go_simp; refine tkP 4 ?_
  go_simp; refine tkP 5 ?_
  go_simp; refine tkP 6 ?_ (y := by intro w hZ; obtain ⟨q0, q1, q2, q3, a1, a2, a9⟩ := kZ7 hZ e0 e1 e2 e3 f1 f2 f9; go_simp; try rfl)
  go_simp; refine tkP 7 ?_
  go_simp; refine tkP 8 ?_
  go_simp; refine tkP 9 ?_
  go_simp; refine tkP 10 ?_
  go_simp; refine tkP 11 ?_ (y := by intro w hZ; obtain ⟨q0, q1, q2, q3, a1, a2, a9⟩ := kZ7 hZ e0 e1 e2 e3 f1 f2 f9; go_simp; try rfl)
  go_simp; refine tkP 12 ?_
  go_simp; refine tkP 13 ?_
  go_simp; refine tkP 14 ?_
  go_simp; refine tkP 15 ?_ (y := by intro w hZ; obtain ⟨q0, q1, q2, q3, a1, a2, a9⟩ := kZ7 hZ e0 e1 e2 e3 f1 f2 f9; go_simp; try rfl)
  go_simp; refine tkP 16 ?_
  go_simp; refine tkP 17 ?_
  go_simp; refine tkP 18 ?_
  go_simp; refine tkP 19 ?_
  go_simp; refine tkP 20 ?_
  go_simp; refine tkP 21 ?_
  go_simp; refine tkP 22 ?_ (y := by intro w hZ; obtain ⟨q0, q1, q2, q3, a1, a2, a9⟩ := kZ7 hZ e0 e1 e2 e3 f1 f2 f9; go_simp; try rfl)
  go_simp; refine tkP 23 ?_
  go_simp; refine tkP 24 ?_
  go_simp; refine tkP 25 ?_
  go_simp; refine tkP 26 ?_
  go_simp; refine tkP 27 ?_
  go_simp; refine tkP 28 ?_ (y := by intro w hZ; obtain ⟨q0, q1, q2, q3, a1, a2, a9⟩ := kZ7 hZ e0 e1 e2 e3 f1 f2 f9; go_simp; try rfl)
  go_simp; refine tkP 29 ?_
  go_simp; refine tkP 30 ?_
  go_simp; refine skW 31 ?_
  go_simp; refine skW 32 ?_
  go_simp; refine skW 33 ?_
  go_simp; refine skW 34 ?_
  go_simp; refine skW 35 ?_
  go_simp; refine skW 36 ?_
  go_simp; refine skW 37 ?_
  go_simp; refine skW 38 ?_
  go_simp; refine skW 39 ?_
  go_simp; refine skW 40 ?_
  go_simp; refine skW 41 ?_
  go_simp; refine skW 42 ?_
  go_simp; refine skW 43 ?_
  go_simp; refine skW 44 ?_
  go_simp; refine skW 45 ?_
  go_simp; refine skW 46 ?_
  go_simp; refine tkP 47 ?_
  go_simp; refine tkP 48 ?_
  go_simp; refine dnW ?_ _
  have kX : Kp w1 WD := hH; obtain ⟨f1, f2, f7, f8, f13⟩ := kZ5 kX f1 f2 f7 f8 f13; obtain ⟨Xc, hXc⟩ : ∃ x, WD.alloc (.cells #[nd, fs, fo, fd, fx] 27) = x := ⟨_, rfl⟩
  have kc : Kp WD Xc := by rw [← hXc]; exact kA _ _
  have RC := hD (show Xc.heap[WD.heap.size]? = some (.cells #[nd, fs, fo, fd, fx] 27) by rw [← hXc]; exact (mH WD _)); obtain ⟨WR, hWR⟩ : ∃ x, Xc.drew = x := ⟨_, rfl⟩
  have kc' : Kp Xc WR := by rw [← hWR]; exact dQ (Kp.refl Xc)
  have kR : Kp w1 WR := kT kX (kT kc kc'); have kR' := kR; have FX1 := hD (rZ K1.out RW.out); have HWR := hD hWR; have KCC := hD kc'; obtain ⟨KRR, KXX⟩ := hD2 kR kX; clear hWR kc' kR kR' kX hH kc; go_wp2_with fail
  have kR := KRR.out; have kR' := KRR.out; have kc' := KCC.out; have kX := KXX.out; refine rgW (fun w' => w'.heap[w.heap.size]? = some (.cells #[(1:Int), nd, fs, fr, fe, fp, fq, fo, fd, fa, ft, fh, fc, fx] 102) ∧ w'.heap[WD.heap.size]? = some (.cells #[nd, fs, fo, fd, fx] 27)) ?_ fun hH => ?_
  ·exact by rw [HWR.out]; exact ⟨rZ kR' FX1.out, rZ kc' RC.out⟩
  rw [HWR.out] at hH ⊢; refine tkP 0 ?_
  go_simp; refine tkP 1 ?_
  go_simp; refine tkP 2 ?_
  go_simp; refine tkP 3 ?_
  go_simp; refine tkP 5 ?_ (y := by intro w hZ; obtain ⟨x0, x1, x2, x3, x4⟩ := cells_5 hZ.2; go_simp; try rfl)
  go_simp; refine tkP 6 ?_
  go_simp; refine tkP 7 ?_ (y := by intro w hZ; obtain ⟨x0, x1, x2, x3, x4, x5, x6, x7, x8, x9, x10, x11, x12, x13⟩ := cZ hZ.1; go_simp; try rfl)
  go_simp; refine tkP 8 ?_
  go_simp; refine wpAnyH_ready (rs := [4, 9]) (by kernel_rfl) (by simp) ?_
  refine aC (fun K hK => ?_) (aC (fun K hK => ?_) aN0)
  ·have g2 := kZ kR e2; go_simp; refine hK.out _ _ (hH) fun hH => ?_
   clear hK K; refine rdW 9 fun K hK => ?_
   go_simp; refine hK.out _ _ (⟨rZ (kA _ _) hH.1, rZ (kA _ _) hH.2⟩) fun hH => ?_
   clear hK K; obtain ⟨Y9, hY9⟩ : ∃ x, WR.alloc (.cells #[nd, fs, fo, fd, fx, fa, (0:Int), .slice none 0 0] 72) = x := ⟨_, rfl⟩
   have c9 : Kp WR Y9 := by rw [← hY9]; exact kA _ _
   have r9 : Y9.heap[WR.heap.size]? = some (.cells #[nd, fs, fo, fd, fx, fa, (0:Int), .slice none 0 0] 72) := by rw [← hY9]; exact (mH WR _)
   obtain ⟨p9, hp9⟩ : ∃ x, WR.heap.size = x := ⟨_, rfl⟩
   have k9 := kT kR c9; rw [hp9] at r9; rw [hY9] at hH ⊢
   try rw [hp9]
   clear hY9 hp9 c9; refine wpAnyH_ready (rs := [10]) (by kernel_rfl) (by simp) ?_
   refine AllReadyH.consLG rfl (fun K hK => ?_) aN0
   have P2 : PartG acE (.slice (some ⟨p9, 0, none⟩) 1 1) [(⟨⟨⟨nd, fs, fo, fd, fx⟩, fa, 0, []⟩, none, 0⟩ : AcG)] Y9 := pG r9 rfl; have K9 := kT KW.out (kT K1.out k9); have OX := oK OA.out K9; go_simp; refine aG (E := acE) ty_acD (by decide) _ rfl _ _ rfl B _ _ gs rfl OX _ _ rfl P2 ?f3 ?f4 ?_
   case f3 => have := L8.out; simp; omega
   case f4 => have := HS.out.bq; have := oZ HS.out.row; have := kS K9; omega
   rintro v10 Y10 o10 hg hb; obtain ⟨a10', c10', rfl⟩ := fG o10; have o10 : Y10.ownsRow B 72 8 (.slice a10' (len + 1) c10') (len + 1) (acE.row (gs ++ [(⟨⟨⟨nd, fs, fo, fd, fx⟩, fa, 0, []⟩, none, 0⟩ : AcG)])) := o10; have nb : ∀ b, w.heap.size ≤ b → some b ≠ (Value.slice a0 len c0).ownBlock := fun b hb e => by have := (OA.out.lt b e.symm).2; omega
   have szX : w.heap.size ≤ WD.heap.size := kS (kT KW.out (kT K1.out kX)); refine hK.out _ _ (⟨(hg.block _ (oZ hH.1) (nb _ (Nat.le_refl _))).trans hH.1, (hg.block _ (oZ hH.2) (nb _ szX)).trans hH.2⟩) fun hH => ?_
   clear hK K; have RF := HS.out.repA tyD_ok K9 (w3 := Y10) (by rw [EVA.out, HL.out]; exact hg) (L := len + 1) (gs' := gs ++ [(⟨⟨⟨nd, fs, fo, fd, fx⟩, fa, 0, []⟩, none, 0⟩ : AcG)]) (by rw [List.length_append, HL.out]; rfl) o10 (fun b e => by rw [EVA.out, HL.out]; exact (hb b e).imp id (fun e => by have := kS K9; omega)) (mem_app ⟨rfl, rfl, rfl⟩) (dis_app HS.out.dis rfl); have rq : Y10.heap[q]? = _ := (hg.block q (oZ (rZ K9 HS.out.row)) (fun e => HS.out.qa tyD_ok (by rw [EVA.out, HL.out]; exact e.symm))).trans (rZ K9 HS.out.row); have RFH := hD RF; clear RF hg hb P2 OX nb; refine tkP 11 ?_
   go_simp; refine tkP 12 ?_
   go_simp; refine rdW 13 fun K hK => ?_
   have q10 : Y10.cell? ⟨q, 2, none⟩ = some va := cU (i := 2) rq rfl; have z10 := fQ rq 2; go_simp; refine hK.out _ _ (⟨(bS _ _ _ _ (fun e => by have := oZ HS.out.row; dsimp only at e; omega)).trans hH.1, (bS _ _ _ _ (fun e => by have := oZ HS.out.row; dsimp only at e; omega)).trans hH.2⟩) fun hH => ?_
   clear hK K; obtain ⟨Z, hZ⟩ : ∃ x, Y10.setCell ⟨q, 2, none⟩ (.slice a10' (len + 1) c10') = x := ⟨_, rfl⟩
   have RZ := RFH.out; rw [hZ] at RZ hH ⊢; refine dnW ?_ _
   obtain ⟨u0, u1, u2, u3, u4, u5, u6, u7, u8, u9, u10, u11, u12, u13⟩ := cZ hH.1; have qz : Z.cell? ⟨q, 1, none⟩ = some (.int .i64 nx) := cU (i := 1) RZ.1.row rfl; have zz := fQ RZ.1.row 1; have R2 := hD (RZ.1.setNext tyD_ok (fs + 1)); have RZH := hD RZ; clear RZ hH; go_wp2; go_ret; exact ⟨rfl, _, _, vp, by have := R2.out.1; rw [HMA.out]; exact this, RZH.out.2.trans R2.out.2⟩
  ·go_simp; refine hK.out _ _ (⟨rZ (kA _ _) hH.1, rZ (kA _ _) hH.2⟩) fun hH => ?_
   clear hK K; obtain ⟨Y9, hY9⟩ : ∃ x, WR.alloc (.cells #[nd, fs, fo, fd, fx, fa, (0:Int), .slice none 0 0] 72) = x := ⟨_, rfl⟩
   have c9 : Kp WR Y9 := by rw [← hY9]; exact kA _ _
   have r9 : Y9.heap[WR.heap.size]? = some (.cells #[nd, fs, fo, fd, fx, fa, (0:Int), .slice none 0 0] 72) := by rw [← hY9]; exact (mH WR _)
   obtain ⟨p9, hp9⟩ : ∃ x, WR.heap.size = x := ⟨_, rfl⟩
   have k9 := kT kR c9; rw [hp9] at r9; rw [hY9] at hH ⊢
   try rw [hp9]
   clear hY9 hp9 c9; refine rdW 4 fun K hK => ?_
   have g2 := kZ k9 e2; go_simp; refine hK.out _ _ (hH) fun hH => ?_
   clear hK K; refine wpAnyH_ready (rs := [10]) (by kernel_rfl) (by simp) ?_
   refine AllReadyH.consLG rfl (fun K hK => ?_) aN0
   have P2 : PartG acE (.slice (some ⟨p9, 0, none⟩) 1 1) [(⟨⟨⟨nd, fs, fo, fd, fx⟩, fa, 0, []⟩, none, 0⟩ : AcG)] Y9 := pG r9 rfl; have K9 := kT KW.out (kT K1.out k9); have OX := oK OA.out K9; go_simp; refine aG (E := acE) ty_acD (by decide) _ rfl _ _ rfl B _ _ gs rfl OX _ _ rfl P2 ?f3 ?f4 ?_
   case f3 => have := L8.out; simp; omega
   case f4 => have := HS.out.bq; have := oZ HS.out.row; have := kS K9; omega
   rintro v10 Y10 o10 hg hb; obtain ⟨a10', c10', rfl⟩ := fG o10; have o10 : Y10.ownsRow B 72 8 (.slice a10' (len + 1) c10') (len + 1) (acE.row (gs ++ [(⟨⟨⟨nd, fs, fo, fd, fx⟩, fa, 0, []⟩, none, 0⟩ : AcG)])) := o10; have nb : ∀ b, w.heap.size ≤ b → some b ≠ (Value.slice a0 len c0).ownBlock := fun b hb e => by have := (OA.out.lt b e.symm).2; omega
   have szX : w.heap.size ≤ WD.heap.size := kS (kT KW.out (kT K1.out kX)); refine hK.out _ _ (⟨(hg.block _ (oZ hH.1) (nb _ (Nat.le_refl _))).trans hH.1, (hg.block _ (oZ hH.2) (nb _ szX)).trans hH.2⟩) fun hH => ?_
   clear hK K; have RF := HS.out.repA tyD_ok K9 (w3 := Y10) (by rw [EVA.out, HL.out]; exact hg) (L := len + 1) (gs' := gs ++ [(⟨⟨⟨nd, fs, fo, fd, fx⟩, fa, 0, []⟩, none, 0⟩ : AcG)]) (by rw [List.length_append, HL.out]; rfl) o10 (fun b e => by rw [EVA.out, HL.out]; exact (hb b e).imp id (fun e => by have := kS K9; omega)) (mem_app ⟨rfl, rfl, rfl⟩) (dis_app HS.out.dis rfl); have rq : Y10.heap[q]? = _ := (hg.block q (oZ (rZ K9 HS.out.row)) (fun e => HS.out.qa tyD_ok (by rw [EVA.out, HL.out]; exact e.symm))).trans (rZ K9 HS.out.row); have RFH := hD RF; clear RF hg hb P2 OX nb; refine tkP 11 ?_
   go_simp; refine tkP 12 ?_
   go_simp; refine rdW 13 fun K hK => ?_
   have q10 : Y10.cell? ⟨q, 2, none⟩ = some va := cU (i := 2) rq rfl; have z10 := fQ rq 2; go_simp; refine hK.out _ _ (⟨(bS _ _ _ _ (fun e => by have := oZ HS.out.row; dsimp only at e; omega)).trans hH.1, (bS _ _ _ _ (fun e => by have := oZ HS.out.row; dsimp only at e; omega)).trans hH.2⟩) fun hH => ?_
   clear hK K; obtain ⟨Z, hZ⟩ : ∃ x, Y10.setCell ⟨q, 2, none⟩ (.slice a10' (len + 1) c10') = x := ⟨_, rfl⟩
   have RZ := RFH.out; rw [hZ] at RZ hH ⊢; refine dnW ?_ _
   obtain ⟨u0, u1, u2, u3, u4, u5, u6, u7, u8, u9, u10, u11, u12, u13⟩ := cZ hH.1; have qz : Z.cell? ⟨q, 1, none⟩ = some (.int .i64 nx) := cU (i := 1) RZ.1.row rfl; have zz := fQ RZ.1.row 1; have R2 := hD (RZ.1.setNext tyD_ok (fs + 1)); have RZH := hD RZ; clear RZ hH; go_wp2; go_ret; exact ⟨rfl, _, _, vp, by have := R2.out.1; rw [HMA.out]; exact this, RZH.out.2.trans R2.out.2⟩
 have g4 : decide (fa > 0) = true := dT h4
 by_cases h5 : fa > NP
 ·have g5 : decide (fa > NP) = true := dT h5; have hdo : doS ⟨nd, nx, A, PL⟩ (⟨1, nd, fs, fr, fe, fp, fq, fo, fd, fa, ft, fh, fc, fx⟩ : FX) = none := by unfold doS; dsimp only; rw [if_pos rfl, if_pos (.inr (.inr (.inr ⟨by omega, .inl (by omega)⟩)))]
  rw [aZ hR hdo]; clear hdo h2 h3 h4 h5 hfa Hs ok hR hl hnp hlA l8 p8 hkW rW eva evp hwf hri; go_enter Tryz.func35, Tryz.ntmps35; go_wp2_with (go_at_call 87; (with_reducible refine (HRI.out _).mono ?_); rintro e' w1 ⟨rfl, hk1⟩; have K1 := hD hk1; obtain ⟨e0, e1, e2, e3, f0, f1, f2, f3, f4, f5, f6, f7, f8, f9, f10, f11, f12, f13⟩ := kZ18 hk1 e0 e1 e2 e3 f0 f1 f2 f3 f4 f5 f6 f7 f8 f9 f10 f11 f12 f13; clear hk1)
  obtain ⟨WD, hWD⟩ : ∃ x, w1.drew = x := ⟨_, rfl⟩
  have kD : Kp w1 WD := by rw [← hWD]; exact dQ (Kp.refl w1)
  have HWD := hD hWD; clear hWD; refine rgW (fun w' => Kp w1 w') ?_ fun hH => ?_
  ·exact by rw [HWD.out]; exact kD
  rw [HWD.out] at hH ⊢; refine tkP 0 ?_
  go_simp; refine tkP 1 ?_
  go_simp; refine tkP 2 ?_ (y := by intro w hZ; obtain ⟨q0, q1, q2, q3, a1, a2, a9⟩ := kZ7 hZ e0 e1 e2 e3 f1 f2 f9; go_simp; try rfl)
  go_simp; refine tkP 3 ?_
  go_simp; refine tkP 4 ?_
  go_simp; refine tkP 5 ?_
  go_simp; refine tkP 6 ?_ (y := by intro w hZ; obtain ⟨q0, q1, q2, q3, a1, a2, a9⟩ := kZ7 hZ e0 e1 e2 e3 f1 f2 f9; go_simp; try rfl)
  go_simp; refine tkP 7 ?_
  go_simp; refine tkP 8 ?_
  go_simp; refine tkP 9 ?_
  go_simp; refine tkP 10 ?_
  go_simp; refine tkP 11 ?_ (y := by intro w hZ; obtain ⟨q0, q1, q2, q3, a1, a2, a9⟩ := kZ7 hZ e0 e1 e2 e3 f1 f2 f9; go_simp; try rfl)
  go_simp; refine tkP 12 ?_
  go_simp; refine tkP 13 ?_
  go_simp; refine tkP 14 ?_
  go_simp; refine tkP 15 ?_ (y := by intro w hZ; obtain ⟨q0, q1, q2, q3, a1, a2, a9⟩ := kZ7 hZ e0 e1 e2 e3 f1 f2 f9; go_simp; try rfl)
  go_simp; refine tkP 16 ?_
  go_simp; refine tkP 17 ?_
  go_simp; refine tkP 18 ?_
  go_simp; refine tkP 19 ?_
  go_simp; refine tkP 20 ?_
  go_simp; refine tkP 21 ?_
  go_simp; refine tkP 22 ?_ (y := by intro w hZ; obtain ⟨q0, q1, q2, q3, a1, a2, a9⟩ := kZ7 hZ e0 e1 e2 e3 f1 f2 f9; go_simp; try rfl)
  go_simp; refine tkP 23 ?_
  go_simp; refine tkP 24 ?_
  go_simp; refine tkP 25 ?_
  go_simp; refine tkP 26 ?_
  go_simp; refine tkP 27 ?_
  go_simp; refine tkP 28 ?_ (y := by intro w hZ; obtain ⟨q0, q1, q2, q3, a1, a2, a9⟩ := kZ7 hZ e0 e1 e2 e3 f1 f2 f9; go_simp; try rfl)
  go_simp; refine tkP 29 ?_
  go_simp; refine tkP 30 ?_
  go_simp; refine tkP 31 ?_
  go_simp; refine tkP 32 ?_ (y := by intro w hZ; obtain ⟨q0, q1, q2, q3, a1, a2, a9⟩ := kZ7 hZ e0 e1 e2 e3 f1 f2 f9; go_simp; try rfl)
  go_simp; refine tkP 33 ?_
  go_simp; refine tkP 34 ?_
  go_simp; refine tkP 35 ?_
  go_simp; refine tkP 36 ?_ (y := by intro w hZ; obtain ⟨q0, q1, q2, q3, a1, a2, a9⟩ := kZ7 hZ e0 e1 e2 e3 f1 f2 f9; go_simp; try rfl)
  go_simp; refine tkP 37 ?_
  go_simp; refine tkP 38 ?_
  go_simp; refine tkP 39 ?_
  go_simp; refine skW 40 ?_
  go_simp; refine skW 41 ?_
  go_simp; refine skW 42 ?_
  go_simp; refine skW 43 ?_
  go_simp; refine skW 44 ?_
  go_simp; refine skW 45 ?_
  go_simp; refine tkP 46 ?_
  go_simp; refine tkP 47 ?_
  go_simp; refine tkP 48 ?_
  go_simp; refine dnW ?_ _
  have KF := hD (show Kp w1 _ from hH); clear hH; go_wp2; go_ret; exact ⟨rfl, gs, va, vp, HS.out.kp (kT KW.out (kT K1.out KF.out)), Asd.of_kp _ (kT KW.out (kT K1.out KF.out))⟩
 have g5 : decide (fa > NP) = false := dF h5; obtain ⟨p, hp⟩ : ∃ p, fa - 1 = p := ⟨_, rfl⟩
 have hch := fun w1 (h : Kp w w1) => refChild15 (Hs.kp h) (by rw [hl]; exact l8) p (by omega)
 try dsimp only at hch
 have hwp : IntKind.i64.wrap p = p := IntWalk.i64_in p (by omega); have hwq : wrap64 p = p := IntWalk.wrap64_in p (by omega)
 cases hc : childS A p with
 | some i =>
  obtain ⟨pq, hpq⟩ : ∃ x, placeQ (childS A p) = x := ⟨_, rfl⟩
  have g6 : decide (pq ≥ 0) = true := dT (by rw [← hpq, hc]; simp [placeQ]); rw [hpq] at hch; have HCH := hD hch; have hdo : doS ⟨nd, nx, A, PL⟩ (⟨1, nd, fs, fr, fe, fp, fq, fo, fd, fa, ft, fh, fc, fx⟩ : FX) = none := by unfold doS; dsimp only; rw [if_pos rfl, if_pos (.inr (.inr (.inr ⟨by omega, .inr (by rw [hp, hc]; rfl)⟩)))]
  rw [aZ hR hdo]; clear hdo h2 h3 h4 h5 hfa hch hc hpq Hs ok hR hl hnp hlA l8 p8 hkW rW eva evp hwf hri; go_enter Tryz.func35, Tryz.ntmps35; go_wp2_with (go_at_call 87; (with_reducible refine (HRI.out _).mono ?_); rintro e' w1 ⟨rfl, hk1⟩; have K1 := hD hk1; obtain ⟨e0, e1, e2, e3, f0, f1, f2, f3, f4, f5, f6, f7, f8, f9, f10, f11, f12, f13⟩ := kZ18 hk1 e0 e1 e2 e3 f0 f1 f2 f3 f4 f5 f6 f7 f8 f9 f10 f11 f12 f13; clear hk1)
  obtain ⟨WD, hWD⟩ : ∃ x, w1.drew = x := ⟨_, rfl⟩
  have kD : Kp w1 WD := by rw [← hWD]; exact dQ (Kp.refl w1)
  have HWD := hD hWD; clear hWD; refine rgW (fun w' => Kp w1 w') ?_ fun hH => ?_
  ·exact by rw [HWD.out]; exact kD
  rw [HWD.out] at hH ⊢; refine tkP 0 ?_
  go_simp; refine tkP 1 ?_
  go_simp; refine tkP 2 ?_ (y := by intro w hZ; obtain ⟨q0, q1, q2, q3, a1, a2, a9⟩ := kZ7 hZ e0 e1 e2 e3 f1 f2 f9; go_simp; try rfl)
  go_simp; refine tkP 3 ?_
  go_simp; refine tkP 4 ?_
  go_simp; refine tkP 5 ?_
  go_simp; refine tkP 6 ?_ (y := by intro w hZ; obtain ⟨q0, q1, q2, q3, a1, a2, a9⟩ := kZ7 hZ e0 e1 e2 e3 f1 f2 f9; go_simp; try rfl)
  go_simp; refine tkP 7 ?_
  go_simp; refine tkP 8 ?_
  go_simp; refine tkP 9 ?_
  go_simp; refine tkP 10 ?_
  go_simp; refine tkP 11 ?_ (y := by intro w hZ; obtain ⟨q0, q1, q2, q3, a1, a2, a9⟩ := kZ7 hZ e0 e1 e2 e3 f1 f2 f9; go_simp; try rfl)
  go_simp; refine tkP 12 ?_
  go_simp; refine tkP 13 ?_
  go_simp; refine tkP 14 ?_
  go_simp; refine tkP 15 ?_ (y := by intro w hZ; obtain ⟨q0, q1, q2, q3, a1, a2, a9⟩ := kZ7 hZ e0 e1 e2 e3 f1 f2 f9; go_simp; try rfl)
  go_simp; refine tkP 16 ?_
  go_simp; refine tkP 17 ?_
  go_simp; refine tkP 18 ?_
  go_simp; refine tkP 19 ?_
  go_simp; refine tkP 20 ?_
  go_simp; refine tkP 21 ?_
  go_simp; refine tkP 22 ?_ (y := by intro w hZ; obtain ⟨q0, q1, q2, q3, a1, a2, a9⟩ := kZ7 hZ e0 e1 e2 e3 f1 f2 f9; go_simp; try rfl)
  go_simp; refine tkP 23 ?_
  go_simp; refine tkP 24 ?_
  go_simp; refine tkP 25 ?_
  go_simp; refine tkP 26 ?_
  go_simp; refine tkP 27 ?_
  go_simp; refine tkP 28 ?_ (y := by intro w hZ; obtain ⟨q0, q1, q2, q3, a1, a2, a9⟩ := kZ7 hZ e0 e1 e2 e3 f1 f2 f9; go_simp; try rfl)
  go_simp; refine tkP 29 ?_
  go_simp; refine tkP 30 ?_
  go_simp; refine tkP 31 ?_
  go_simp; refine tkP 32 ?_ (y := by intro w hZ; obtain ⟨q0, q1, q2, q3, a1, a2, a9⟩ := kZ7 hZ e0 e1 e2 e3 f1 f2 f9; go_simp; try rfl)
  go_simp; refine tkP 33 ?_
  go_simp; refine tkP 34 ?_
  go_simp; refine tkP 35 ?_
  go_simp; refine tkP 36 ?_ (y := by intro w hZ; obtain ⟨q0, q1, q2, q3, a1, a2, a9⟩ := kZ7 hZ e0 e1 e2 e3 f1 f2 f9; go_simp; try rfl)
  go_simp; refine tkP 37 ?_
  go_simp; refine tkP 38 ?_
  go_simp; refine tkP 39 ?_
  go_simp; refine tkP 40 ?_
  go_simp; refine tkP 41 ?_
  go_simp; refine tkP 42 ?_ (y := by intro w hZ; obtain ⟨q0, q1, q2, q3, a1, a2, a9⟩ := kZ7 hZ e0 e1 e2 e3 f1 f2 f9; go_simp; try rfl)
  go_simp; refine tkP 43 ?_
  go_simp; refine rdW 44 fun K hK => ?_
  go_simp; go_wp2_with (go_at_call 56; (with_reducible refine (HCH.out _ (kT KW.out (kT K1.out (show Kp w1 WD from hH)))).mono ?_); rintro e' w2 ⟨rfl, hk2⟩)
  refine hK.out _ _ (kT hH hk2) fun hH => ?_
  clear hK K; refine tkP 45 ?_
  go_simp; refine tkP 46 ?_
  go_simp; refine tkP 47 ?_
  go_simp; refine tkP 48 ?_
  go_simp; refine dnW ?_ _
  have KF := hD (show Kp w1 _ from hH); clear hH; go_wp2; go_ret; exact ⟨rfl, gs, va, vp, HS.out.kp (kT KW.out (kT K1.out KF.out)), Asd.of_kp _ (kT KW.out (kT K1.out KF.out))⟩
 | none =>
  obtain ⟨pq, hpq⟩ : ∃ x, placeQ (childS A p) = x := ⟨_, rfl⟩
  have g6 : decide (pq ≥ 0) = false := dF (by rw [← hpq, hc]; simp [placeQ]); rw [hpq] at hch; have HCH := hD hch; have hdo : doS ⟨nd, nx, A, PL⟩ (⟨1, nd, fs, fr, fe, fp, fq, fo, fd, fa, ft, fh, fc, fx⟩ : FX) = some ⟨nd, fs + 1, A ++ [⟨⟨nd, fs, fo, fd, fx⟩, fa, 0, []⟩], PL⟩ := by
   unfold doS; dsimp only; rw [if_pos rfl, if_neg (by rintro (q | q | q | ⟨q, q2 | q2⟩); exact q rfl; exact h2 q; omega; omega; (rw [hp, hc] at q2; cases q2))]; rfl
  rw [aS hR hdo]; clear hdo h2 h3 h4 h5 hfa hse hch hc hpq Hs ok hR hl hnp hlA l8 p8 hkW rW eva evp hwf hri; go_enter Tryz.func35, Tryz.ntmps35; go_wp2_with (go_at_call 87; (with_reducible refine (HRI.out _).mono ?_); rintro e' w1 ⟨rfl, hk1⟩; have K1 := hD hk1; obtain ⟨e0, e1, e2, e3, f0, f1, f2, f3, f4, f5, f6, f7, f8, f9, f10, f11, f12, f13⟩ := kZ18 hk1 e0 e1 e2 e3 f0 f1 f2 f3 f4 f5 f6 f7 f8 f9 f10 f11 f12 f13; clear hk1)
  obtain ⟨WD, hWD⟩ : ∃ x, w1.drew = x := ⟨_, rfl⟩
  have kD : Kp w1 WD := by rw [← hWD]; exact dQ (Kp.refl w1)
  have HWD := hD hWD; clear hWD; refine rgW (fun w' => Kp w1 w') ?_ fun hH => ?_
  ·exact by rw [HWD.out]; exact kD
  rw [HWD.out] at hH ⊢; refine tkP 0 ?_
  go_simp; refine tkP 1 ?_
  go_simp; refine tkP 2 ?_ (y := by intro w hZ; obtain ⟨q0, q1, q2, q3, a1, a2, a9⟩ := kZ7 hZ e0 e1 e2 e3 f1 f2 f9; go_simp; try rfl)
  go_simp; refine tkP 3 ?_
  go_simp; refine tkP 4 ?_
  go_simp; refine tkP 5 ?_
  go_simp; refine tkP 6 ?_ (y := by intro w hZ; obtain ⟨q0, q1, q2, q3, a1, a2, a9⟩ := kZ7 hZ e0 e1 e2 e3 f1 f2 f9; go_simp; try rfl)
  go_simp; refine tkP 7 ?_
  go_simp; refine tkP 8 ?_
  go_simp; refine tkP 9 ?_
  go_simp; refine tkP 10 ?_
  go_simp; refine tkP 11 ?_ (y := by intro w hZ; obtain ⟨q0, q1, q2, q3, a1, a2, a9⟩ := kZ7 hZ e0 e1 e2 e3 f1 f2 f9; go_simp; try rfl)
  go_simp; refine tkP 12 ?_
  go_simp; refine tkP 13 ?_
  go_simp; refine tkP 14 ?_
  go_simp; refine tkP 15 ?_ (y := by intro w hZ; obtain ⟨q0, q1, q2, q3, a1, a2, a9⟩ := kZ7 hZ e0 e1 e2 e3 f1 f2 f9; go_simp; try rfl)
  go_simp; refine tkP 16 ?_
  go_simp; refine tkP 17 ?_
  go_simp; refine tkP 18 ?_
  go_simp; refine tkP 19 ?_
  go_simp; refine tkP 20 ?_
  go_simp; refine tkP 21 ?_
  go_simp; refine tkP 22 ?_ (y := by intro w hZ; obtain ⟨q0, q1, q2, q3, a1, a2, a9⟩ := kZ7 hZ e0 e1 e2 e3 f1 f2 f9; go_simp; try rfl)
  go_simp; refine tkP 23 ?_
  go_simp; refine tkP 24 ?_
  go_simp; refine tkP 25 ?_
  go_simp; refine tkP 26 ?_
  go_simp; refine tkP 27 ?_
  go_simp; refine tkP 28 ?_ (y := by intro w hZ; obtain ⟨q0, q1, q2, q3, a1, a2, a9⟩ := kZ7 hZ e0 e1 e2 e3 f1 f2 f9; go_simp; try rfl)
  go_simp; refine tkP 29 ?_
  go_simp; refine tkP 30 ?_
  go_simp; refine tkP 31 ?_
  go_simp; refine tkP 32 ?_ (y := by intro w hZ; obtain ⟨q0, q1, q2, q3, a1, a2, a9⟩ := kZ7 hZ e0 e1 e2 e3 f1 f2 f9; go_simp; try rfl)
  go_simp; refine tkP 33 ?_
  go_simp; refine tkP 34 ?_
  go_simp; refine tkP 35 ?_
  go_simp; refine tkP 36 ?_ (y := by intro w hZ; obtain ⟨q0, q1, q2, q3, a1, a2, a9⟩ := kZ7 hZ e0 e1 e2 e3 f1 f2 f9; go_simp; try rfl)
  go_simp; refine tkP 37 ?_
  go_simp; refine tkP 38 ?_
  go_simp; refine tkP 39 ?_
  go_simp; refine tkP 40 ?_
  go_simp; refine tkP 41 ?_
  go_simp; refine tkP 42 ?_ (y := by intro w hZ; obtain ⟨q0, q1, q2, q3, a1, a2, a9⟩ := kZ7 hZ e0 e1 e2 e3 f1 f2 f9; go_simp; try rfl)
  go_simp; refine tkP 43 ?_
  go_simp; refine rdW 44 fun K hK => ?_
  go_simp; go_wp2_with (go_at_call 56; (with_reducible refine (HCH.out _ (kT KW.out (kT K1.out (show Kp w1 WD from hH)))).mono ?_); rintro e' w2 ⟨rfl, hk2⟩)
  refine hK.out _ _ (kT hH hk2) fun hH => ?_
  clear hK K; refine tkP 45 ?_
  go_simp; refine tkP 46 ?_
  go_simp; refine tkP 47 ?_
  go_simp; refine tkP 48 ?_
  go_simp; refine dnW ?_ _
  have kX : Kp w1 w2 := hH; obtain ⟨f1, f2, f7, f8, f13⟩ := kZ5 kX f1 f2 f7 f8 f13; obtain ⟨Xc, hXc⟩ : ∃ x, w2.alloc (.cells #[nd, fs, fo, fd, fx] 27) = x := ⟨_, rfl⟩
  have kc : Kp w2 Xc := by rw [← hXc]; exact kA _ _
  have RC := hD (show Xc.heap[w2.heap.size]? = some (.cells #[nd, fs, fo, fd, fx] 27) by rw [← hXc]; exact (mH w2 _)); obtain ⟨WR, hWR⟩ : ∃ x, Xc.drew = x := ⟨_, rfl⟩
  have kc' : Kp Xc WR := by rw [← hWR]; exact dQ (Kp.refl Xc)
  have kR : Kp w1 WR := kT kX (kT kc kc'); have kR' := kR; have FX1 := hD (rZ K1.out RW.out); have HWR := hD hWR; have KCC := hD kc'; obtain ⟨KRR, KXX⟩ := hD2 kR kX; clear hWR kc' kR kR' kX hH kc; go_wp2_with fail
  have kR := KRR.out; have kR' := KRR.out; have kc' := KCC.out; have kX := KXX.out; refine rgW (fun w' => w'.heap[w.heap.size]? = some (.cells #[(1:Int), nd, fs, fr, fe, fp, fq, fo, fd, fa, ft, fh, fc, fx] 102) ∧ w'.heap[w2.heap.size]? = some (.cells #[nd, fs, fo, fd, fx] 27)) ?_ fun hH => ?_
  ·exact by rw [HWR.out]; exact ⟨rZ kR' FX1.out, rZ kc' RC.out⟩
  rw [HWR.out] at hH ⊢; refine tkP 0 ?_
  go_simp; refine tkP 1 ?_
  go_simp; refine tkP 2 ?_
  go_simp; refine tkP 3 ?_
  go_simp; refine tkP 5 ?_ (y := by intro w hZ; obtain ⟨x0, x1, x2, x3, x4⟩ := cells_5 hZ.2; go_simp; try rfl)
  go_simp; refine tkP 6 ?_
  go_simp; refine tkP 7 ?_ (y := by intro w hZ; obtain ⟨x0, x1, x2, x3, x4, x5, x6, x7, x8, x9, x10, x11, x12, x13⟩ := cZ hZ.1; go_simp; try rfl)
  go_simp; refine tkP 8 ?_
  go_simp; refine wpAnyH_ready (rs := [4, 9]) (by kernel_rfl) (by simp) ?_
  refine aC (fun K hK => ?_) (aC (fun K hK => ?_) aN0)
  ·have g2 := kZ kR e2; go_simp; refine hK.out _ _ (hH) fun hH => ?_
   clear hK K; refine rdW 9 fun K hK => ?_
   go_simp; refine hK.out _ _ (⟨rZ (kA _ _) hH.1, rZ (kA _ _) hH.2⟩) fun hH => ?_
   clear hK K; obtain ⟨Y9, hY9⟩ : ∃ x, WR.alloc (.cells #[nd, fs, fo, fd, fx, fa, (0:Int), .slice none 0 0] 72) = x := ⟨_, rfl⟩
   have c9 : Kp WR Y9 := by rw [← hY9]; exact kA _ _
   have r9 : Y9.heap[WR.heap.size]? = some (.cells #[nd, fs, fo, fd, fx, fa, (0:Int), .slice none 0 0] 72) := by rw [← hY9]; exact (mH WR _)
   obtain ⟨p9, hp9⟩ : ∃ x, WR.heap.size = x := ⟨_, rfl⟩
   have k9 := kT kR c9; rw [hp9] at r9; rw [hY9] at hH ⊢
   try rw [hp9]
   clear hY9 hp9 c9; refine wpAnyH_ready (rs := [10]) (by kernel_rfl) (by simp) ?_
   refine AllReadyH.consLG rfl (fun K hK => ?_) aN0
   have P2 : PartG acE (.slice (some ⟨p9, 0, none⟩) 1 1) [(⟨⟨⟨nd, fs, fo, fd, fx⟩, fa, 0, []⟩, none, 0⟩ : AcG)] Y9 := pG r9 rfl; have K9 := kT KW.out (kT K1.out k9); have OX := oK OA.out K9; go_simp; refine aG (E := acE) ty_acD (by decide) _ rfl _ _ rfl B _ _ gs rfl OX _ _ rfl P2 ?f3 ?f4 ?_
   case f3 => have := L8.out; simp; omega
   case f4 => have := HS.out.bq; have := oZ HS.out.row; have := kS K9; omega
   rintro v10 Y10 o10 hg hb; obtain ⟨a10', c10', rfl⟩ := fG o10; have o10 : Y10.ownsRow B 72 8 (.slice a10' (len + 1) c10') (len + 1) (acE.row (gs ++ [(⟨⟨⟨nd, fs, fo, fd, fx⟩, fa, 0, []⟩, none, 0⟩ : AcG)])) := o10; have nb : ∀ b, w.heap.size ≤ b → some b ≠ (Value.slice a0 len c0).ownBlock := fun b hb e => by have := (OA.out.lt b e.symm).2; omega
   have szX : w.heap.size ≤ w2.heap.size := kS (kT KW.out (kT K1.out kX)); refine hK.out _ _ (⟨(hg.block _ (oZ hH.1) (nb _ (Nat.le_refl _))).trans hH.1, (hg.block _ (oZ hH.2) (nb _ szX)).trans hH.2⟩) fun hH => ?_
   clear hK K; have RF := HS.out.repA tyD_ok K9 (w3 := Y10) (by rw [EVA.out, HL.out]; exact hg) (L := len + 1) (gs' := gs ++ [(⟨⟨⟨nd, fs, fo, fd, fx⟩, fa, 0, []⟩, none, 0⟩ : AcG)]) (by rw [List.length_append, HL.out]; rfl) o10 (fun b e => by rw [EVA.out, HL.out]; exact (hb b e).imp id (fun e => by have := kS K9; omega)) (mem_app ⟨rfl, rfl, rfl⟩) (dis_app HS.out.dis rfl); have rq : Y10.heap[q]? = _ := (hg.block q (oZ (rZ K9 HS.out.row)) (fun e => HS.out.qa tyD_ok (by rw [EVA.out, HL.out]; exact e.symm))).trans (rZ K9 HS.out.row); have RFH := hD RF; clear RF hg hb P2 OX nb; refine tkP 11 ?_
   go_simp; refine tkP 12 ?_
   go_simp; refine rdW 13 fun K hK => ?_
   have q10 : Y10.cell? ⟨q, 2, none⟩ = some va := cU (i := 2) rq rfl; have z10 := fQ rq 2; go_simp; refine hK.out _ _ (⟨(bS _ _ _ _ (fun e => by have := oZ HS.out.row; dsimp only at e; omega)).trans hH.1, (bS _ _ _ _ (fun e => by have := oZ HS.out.row; dsimp only at e; omega)).trans hH.2⟩) fun hH => ?_
   clear hK K; obtain ⟨Z, hZ⟩ : ∃ x, Y10.setCell ⟨q, 2, none⟩ (.slice a10' (len + 1) c10') = x := ⟨_, rfl⟩
   have RZ := RFH.out; rw [hZ] at RZ hH ⊢; refine dnW ?_ _
   obtain ⟨u0, u1, u2, u3, u4, u5, u6, u7, u8, u9, u10, u11, u12, u13⟩ := cZ hH.1; have qz : Z.cell? ⟨q, 1, none⟩ = some (.int .i64 nx) := cU (i := 1) RZ.1.row rfl; have zz := fQ RZ.1.row 1; have R2 := hD (RZ.1.setNext tyD_ok (fs + 1)); have RZH := hD RZ; clear RZ hH; go_wp2; go_ret; exact ⟨rfl, _, _, vp, by have := R2.out.1; rw [HMA.out]; exact this, RZH.out.2.trans R2.out.2⟩
  ·go_simp; refine hK.out _ _ (⟨rZ (kA _ _) hH.1, rZ (kA _ _) hH.2⟩) fun hH => ?_
   clear hK K; obtain ⟨Y9, hY9⟩ : ∃ x, WR.alloc (.cells #[nd, fs, fo, fd, fx, fa, (0:Int), .slice none 0 0] 72) = x := ⟨_, rfl⟩
   have c9 : Kp WR Y9 := by rw [← hY9]; exact kA _ _
   have r9 : Y9.heap[WR.heap.size]? = some (.cells #[nd, fs, fo, fd, fx, fa, (0:Int), .slice none 0 0] 72) := by rw [← hY9]; exact (mH WR _)
   obtain ⟨p9, hp9⟩ : ∃ x, WR.heap.size = x := ⟨_, rfl⟩
   have k9 := kT kR c9; rw [hp9] at r9; rw [hY9] at hH ⊢
   try rw [hp9]
   clear hY9 hp9 c9; refine rdW 4 fun K hK => ?_
   have g2 := kZ k9 e2; go_simp; refine hK.out _ _ (hH) fun hH => ?_
   clear hK K; refine wpAnyH_ready (rs := [10]) (by kernel_rfl) (by simp) ?_
   refine AllReadyH.consLG rfl (fun K hK => ?_) aN0
   have P2 : PartG acE (.slice (some ⟨p9, 0, none⟩) 1 1) [(⟨⟨⟨nd, fs, fo, fd, fx⟩, fa, 0, []⟩, none, 0⟩ : AcG)] Y9 := pG r9 rfl; have K9 := kT KW.out (kT K1.out k9); have OX := oK OA.out K9; go_simp; refine aG (E := acE) ty_acD (by decide) _ rfl _ _ rfl B _ _ gs rfl OX _ _ rfl P2 ?f3 ?f4 ?_
   case f3 => have := L8.out; simp; omega
   case f4 => have := HS.out.bq; have := oZ HS.out.row; have := kS K9; omega
   rintro v10 Y10 o10 hg hb; obtain ⟨a10', c10', rfl⟩ := fG o10; have o10 : Y10.ownsRow B 72 8 (.slice a10' (len + 1) c10') (len + 1) (acE.row (gs ++ [(⟨⟨⟨nd, fs, fo, fd, fx⟩, fa, 0, []⟩, none, 0⟩ : AcG)])) := o10; have nb : ∀ b, w.heap.size ≤ b → some b ≠ (Value.slice a0 len c0).ownBlock := fun b hb e => by have := (OA.out.lt b e.symm).2; omega
   have szX : w.heap.size ≤ w2.heap.size := kS (kT KW.out (kT K1.out kX)); refine hK.out _ _ (⟨(hg.block _ (oZ hH.1) (nb _ (Nat.le_refl _))).trans hH.1, (hg.block _ (oZ hH.2) (nb _ szX)).trans hH.2⟩) fun hH => ?_
   clear hK K; have RF := HS.out.repA tyD_ok K9 (w3 := Y10) (by rw [EVA.out, HL.out]; exact hg) (L := len + 1) (gs' := gs ++ [(⟨⟨⟨nd, fs, fo, fd, fx⟩, fa, 0, []⟩, none, 0⟩ : AcG)]) (by rw [List.length_append, HL.out]; rfl) o10 (fun b e => by rw [EVA.out, HL.out]; exact (hb b e).imp id (fun e => by have := kS K9; omega)) (mem_app ⟨rfl, rfl, rfl⟩) (dis_app HS.out.dis rfl); have rq : Y10.heap[q]? = _ := (hg.block q (oZ (rZ K9 HS.out.row)) (fun e => HS.out.qa tyD_ok (by rw [EVA.out, HL.out]; exact e.symm))).trans (rZ K9 HS.out.row); have RFH := hD RF; clear RF hg hb P2 OX nb; refine tkP 11 ?_
   go_simp; refine tkP 12 ?_
   go_simp; refine rdW 13 fun K hK => ?_
   have q10 : Y10.cell? ⟨q, 2, none⟩ = some va := cU (i := 2) rq rfl; have z10 := fQ rq 2; go_simp; refine hK.out _ _ (⟨(bS _ _ _ _ (fun e => by have := oZ HS.out.row; dsimp only at e; omega)).trans hH.1, (bS _ _ _ _ (fun e => by have := oZ HS.out.row; dsimp only at e; omega)).trans hH.2⟩) fun hH => ?_
   clear hK K; obtain ⟨Z, hZ⟩ : ∃ x, Y10.setCell ⟨q, 2, none⟩ (.slice a10' (len + 1) c10') = x := ⟨_, rfl⟩
   have RZ := RFH.out; rw [hZ] at RZ hH ⊢; refine dnW ?_ _
   obtain ⟨u0, u1, u2, u3, u4, u5, u6, u7, u8, u9, u10, u11, u12, u13⟩ := cZ hH.1; have qz : Z.cell? ⟨q, 1, none⟩ = some (.int .i64 nx) := cU (i := 1) RZ.1.row rfl; have zz := fQ RZ.1.row 1; have R2 := hD (RZ.1.setNext tyD_ok (fs + 1)); have RZH := hD RZ; clear RZ hH; go_wp2; go_ret; exact ⟨rfl, _, _, vp, by have := R2.out.1; rw [HMA.out]; exact this, RZH.out.2.trans R2.out.2⟩
end Go.Proofs.YtlmlmhmhgdjhnaaGreatDoor
