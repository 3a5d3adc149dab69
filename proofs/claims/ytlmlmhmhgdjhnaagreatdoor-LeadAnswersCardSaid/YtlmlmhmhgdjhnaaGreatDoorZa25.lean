/- Parts of this proof (own work). -/
import Derived.Test.YtlmlmhmhgdjhnaaGreatDoorZa22
set_option maxRecDepth 100000
set_option maxHeartbeats 40000000
namespace Go.Proofs.YtlmlmhmhgdjhnaaGreatDoor
open Go.RowKit Go.ChangeShapes Go.WideShapes
variable {w0 w w' W w3 : World} {B q : Nat} {m : StM} {gs : List AcG} {va vp : Value}
variable {ads : List Addr}
theorem free_eq {m : StM} {a : Int} (ha : 0 ≤ a) : (decide (a = 0) || ((partQ m (a - 1)).isSome && !(childS m.acts (a - 1)).isSome)) = !decide (0 < a ∧ (m.parts.length < a ∨ (childS m.acts (a - 1)).isSome = true)) := by
 by_cases h0 : a = 0
 ·subst h0
  simp
 ·have h1 : 0 < a := by omega
  have hp : (partQ m (a - 1)).isSome = decide (a ≤ m.parts.length) := by
   unfold partQ; rw [if_pos (by omega)]
   by_cases h : a ≤ m.parts.length
   ·rw [List.getElem?_eq_getElem (by omega), dT h]
    rfl
   ·rw [List.getElem?_eq_none (by omega), dF h]
    rfl
  rw [hp]
  cases hc : (childS m.acts (a - 1)).isSome <;> by_cases h : a ≤ m.parts.length <;> simp [h0, h1, h] <;> omega
theorem lsOpened (E : EP [0, 3, 4, 8, 13] ads w) (Hs : GS tyL B q m gs va vp w) (ok : OkS m) (fn fs fr fe fp fq fo fd fa ft fh fc : Int) (fx : Nat) (hR : rightF (⟨1, fn, fs, fr, fe, fp, fq, fo, fd, fa, ft, fh, fc, fx⟩ : FX) = true) : Calls Tryz.prog 144 #[.pointer (some ⟨q, 0, none⟩), .agg #[(1:Int), fn, fs, fr, fe, fp, fq, fo, fd, fa, ft, fh, fc, fx]] w fun r w' => (doS m (⟨1, fn, fs, fr, fe, fp, fq, fo, fd, fa, ft, fh, fc, fx⟩ : FX) = none ∧ r = .returned .nilFunc ∧ Kp w w') ∨ (∃ m2, doS m (⟨1, fn, fs, fr, fe, fp, fq, fo, fd, fa, ft, fh, fc, fx⟩ : FX) = some m2 ∧ ∃ caps, r = .returned (.func (.func 181) #[] caps) ∧ Kp w w' ∧ Calls Tryz.prog 181 caps w' fun r w3 => r = .returned (.tuple #[]) ∧ ∃ gs' va' vp', GS tyL B q m2 gs' va' vp' w3 ∧ Asd (Ow q gs va vp) (Ow q gs' va' vp') w' w3) := by
 have _u := And.intro (And.intro E Hs) (And.intro ok hR); clear _u; obtain ⟨a0, c0, eva⟩ := Hs.vForm; obtain ⟨b0, d0, evp⟩ := Hs.pForm; obtain ⟨len, hl⟩ : ∃ x, gs.length = x := ⟨_, rfl⟩
 obtain ⟨np, hnp⟩ : ∃ x, m.parts.length = x := ⟨_, rfl⟩
 have hlA : m.acts.length = len := by rw [← hl]; exact Hs.len.symm
 have l8 : len ≤ 8 := by have := ok.l8; omega
 have p8 : np ≤ 8 := by have := ok.p8; omega
 have h6 : ∀ a ∈ m.acts, a.regs.length ≤ 6 := fun a ha => (ok.a a ha).l
 have hpar : ∀ a ∈ m.acts, 0 ≤ a.par ∧ a.par ≤ 8 := fun a ha => ⟨(ok.a a ha).p0, (ok.a a ha).p8⟩
 have k1 : Kp w ((w.alloc (.cells #[.pointer (some ⟨q, 0, none⟩)] 31)).alloc (.cells #[(1:Int), fn, fs, fr, fe, fp, fq, fo, fd, fa, ft, fh, fc, fx] 87)) := kT (kA _ _) (kA _ _); have rs := nX0 w (.cells #[.pointer (some ⟨q, 0, none⟩)] 31) (.cells #[(1:Int), fn, fs, fr, fe, fp, fq, fo, fd, fa, ft, fh, fc, fx] 87); have rf := nX1 w (.cells #[.pointer (some ⟨q, 0, none⟩)] 31) (.cells #[(1:Int), fn, fs, fr, fe, fp, fq, fo, fd, fa, ft, fh, fc, fx] 87); obtain ⟨W, hW⟩ : ∃ W, ((w.alloc (.cells #[.pointer (some ⟨q, 0, none⟩)] 31)).alloc (.cells #[(1:Int), fn, fs, fr, fe, fp, fq, fo, fd, fa, ft, fh, fc, fx] 87)) = W := ⟨_, rfl⟩
 rw [hW] at k1 rf rs; obtain ⟨f0, f1, f2, f3, f4, f5, f6, f7, f8, f9, f10, f11, f12, f13⟩ := cZ rf; have s0 : W.cell? ⟨w.heap.size, 0, none⟩ = some (.pointer (some ⟨q, 0, none⟩)) := cU (i := 0) rs rfl; have e0 : W.cell? ⟨q, 0, none⟩ = some (.int .i64 m.node) := kZ k1 (cU (i := 0) Hs.row rfl); have e1 : W.cell? ⟨q, 1, none⟩ = some (.int .i64 m.next) := kZ k1 (cU (i := 1) Hs.row rfl); have e2 : W.cell? ⟨q, 2, none⟩ = some (.slice a0 len c0) := by rw [← hl, ← eva]; exact kZ k1 (cU (i := 2) Hs.row rfl)
 have e3 : W.cell? ⟨q, 3, none⟩ = some (.slice b0 np d0) := by rw [← hnp, ← evp]; exact kZ k1 (cU (i := 3) Hs.row rfl)
 obtain ⟨L, hL⟩ : ∃ L : Int, (len : Int) = L := ⟨_, rfl⟩
 obtain ⟨NP, hNP⟩ : ∃ N : Int, (np : Int) = N := ⟨_, rfl⟩
 obtain ⟨HS, OK, HE, EVA, EVP, HL, HLA, HNP⟩ := hD8 Hs ok E eva evp hl hlA hnp; obtain ⟨HLL, HNN⟩ := hD2 hL hNP; have L8 := hD (And.intro l8 p8); obtain ⟨H6, HPA, K1, RF, RS⟩ := hD5 h6 hpar k1 rf rs; have hfa : 0 ≤ fa ∧ fa ≤ 8 := (inv_open hR rfl).2; have hse : 0 ≤ fs ∧ fs < 1000000 := by
  have h0 := rightX_act (inv_open hR rfl).1; unfold rightA at h0; have h1 := of_decide_eq_true h0; dsimp only [ctxF] at h1; omega
 have HSE := hD hse; have hfr := fun w1 (hk : Kp w w1) => lsFree (Hs.kp hk) (by rw [hl]; exact l8) (by rw [hnp]; exact p8) h6 hpar fa hfa
 rw [free_eq hfa.1] at hfr; obtain ⟨nd, hnd⟩ : ∃ x, m.node = x := ⟨_, rfl⟩
 obtain ⟨nx, hnx⟩ : ∃ x, m.next = x := ⟨_, rfl⟩
 rw [hnd] at e0; rw [hnx] at e1
 by_cases h1 : fn = nd
 rotate_left
 ·have g1 : (fn == nd) = false := by simpa using h1
  have g2 : (fn != nd) = true := by simp [h1]
  have hdo : doS m (⟨1, fn, fs, fr, fe, fp, fq, fo, fd, fa, ft, fh, fc, fx⟩ : FX) = none := by unfold doS; dsimp only; rw [if_pos rfl, if_pos (.inl (by rw [hnd]; exact h1))]
  have HDO := hD hdo; clear hdo h1 hfr hfa hse hnd hnx E Hs ok hR eva evp hl hnp hlA l8 p8 h6 hpar k1 rf rs; go_enter Tryz.func144, Tryz.ntmps144; go_wp2_with fail
  obtain ⟨WD, hWD⟩ : ∃ x, W.drew = x := ⟨_, rfl⟩
  have kD : Kp W WD := by rw [← hWD]; exact dQ (Kp.refl W)
  have HWD := hD hWD; clear hWD; refine rgW (fun w' => Kp W w') ?_ fun hH => ?_
  ·exact by rw [HWD.out]; exact kD
  rw [HWD.out] at hH ⊢; refine tkP 0 ?_
  go_simp; refine tkP 1 ?_
  go_simp; refine tkP 2 ?_ (y := by intro w hZ; obtain ⟨q0, q1, q2, q3, a1, a2, a9⟩ := kZ7 hZ e0 e1 e2 s0 f1 f2 f9; go_simp; try rfl)
  go_simp; refine tkP 3 ?_ (y := by intro w hZ; obtain ⟨q0, q1, q2, q3, a1, a2, a9⟩ := kZ7 hZ e0 e1 e2 s0 f1 f2 f9; go_simp; try rfl)
  go_simp; refine tkP 4 ?_
  go_simp; refine tkP 5 ?_
  go_simp; refine tkP 6 ?_ (y := by intro w hZ; obtain ⟨q0, q1, q2, q3, a1, a2, a9⟩ := kZ7 hZ e0 e1 e2 s0 f1 f2 f9; go_simp; try rfl)
  go_simp; refine tkP 7 ?_
  go_simp; refine tkP 8 ?_
  go_simp; refine skW 9 ?_
  go_simp; refine skW 10 ?_
  go_simp; refine skW 11 ?_
  go_simp; refine skW 12 ?_
  go_simp; refine skW 13 ?_
  go_simp; refine skW 14 ?_
  go_simp; refine skW 15 ?_
  go_simp; refine skW 16 ?_
  go_simp; refine tkP 17 ?_
  go_simp; refine tkP 18 ?_
  go_simp; refine skW 19 ?_
  go_simp; refine skW 20 ?_
  go_simp; refine skW 21 ?_
  go_simp; refine skW 22 ?_
  go_simp; refine skW 23 ?_
  go_simp; refine skW 24 ?_
  go_simp; refine tkP 25 ?_
  go_simp; refine tkP 26 ?_
  go_simp; refine skW 27 ?_
  go_simp; refine skW 28 ?_
  go_simp; refine skW 29 ?_
  go_simp; refine skW 30 ?_
  go_simp; refine skW 31 ?_
  go_simp; refine tkP 32 ?_
  go_simp; refine dnW ?_ _
  have KF := hD (show Kp W _ from hH); clear hH; go_wp2; go_ret; exact .inl ⟨HDO.out, rfl, kT K1.out KF.out⟩
 have g1 : (fn == nd) = true := beq_iff_eq.2 h1; have g1' : (fn != nd) = false := by simp [h1]
 by_cases h2 : fs < nx
 ·have g2 : decide (fs < nx) = true := dT h2; have hdo : doS m (⟨1, fn, fs, fr, fe, fp, fq, fo, fd, fa, ft, fh, fc, fx⟩ : FX) = none := by unfold doS; dsimp only; rw [if_pos rfl, if_pos (.inr (.inl (by rw [hnx]; exact h2)))]
  have HDO := hD hdo; clear hdo h1 h2 hfr hfa hse hnd hnx E Hs ok hR eva evp hl hnp hlA l8 p8 h6 hpar k1 rf rs; go_enter Tryz.func144, Tryz.ntmps144; go_wp2_with fail
  obtain ⟨WD, hWD⟩ : ∃ x, W.drew = x := ⟨_, rfl⟩
  have kD : Kp W WD := by rw [← hWD]; exact dQ (Kp.refl W)
  have HWD := hD hWD; clear hWD; refine rgW (fun w' => Kp W w') ?_ fun hH => ?_
  ·exact by rw [HWD.out]; exact kD
  rw [HWD.out] at hH ⊢; refine tkP 0 ?_
  go_simp; refine tkP 1 ?_
  go_simp; refine tkP 2 ?_ (y := by intro w hZ; obtain ⟨q0, q1, q2, q3, a1, a2, a9⟩ := kZ7 hZ e0 e1 e2 s0 f1 f2 f9; go_simp; try rfl)
  go_simp; refine tkP 3 ?_ (y := by intro w hZ; obtain ⟨q0, q1, q2, q3, a1, a2, a9⟩ := kZ7 hZ e0 e1 e2 s0 f1 f2 f9; go_simp; try rfl)
  go_simp; refine tkP 4 ?_
  go_simp; refine tkP 5 ?_
  go_simp; refine tkP 6 ?_ (y := by intro w hZ; obtain ⟨q0, q1, q2, q3, a1, a2, a9⟩ := kZ7 hZ e0 e1 e2 s0 f1 f2 f9; go_simp; try rfl)
  go_simp; refine tkP 7 ?_
  go_simp; refine tkP 8 ?_
  go_simp; refine tkP 9 ?_
  go_simp; refine tkP 10 ?_
  go_simp; refine tkP 11 ?_ (y := by intro w hZ; obtain ⟨q0, q1, q2, q3, a1, a2, a9⟩ := kZ7 hZ e0 e1 e2 s0 f1 f2 f9; go_simp; try rfl)
  go_simp; refine tkP 12 ?_ (y := by intro w hZ; obtain ⟨q0, q1, q2, q3, a1, a2, a9⟩ := kZ7 hZ e0 e1 e2 s0 f1 f2 f9; go_simp; try rfl)
  go_simp; refine tkP 13 ?_
  go_simp; refine tkP 14 ?_
  go_simp; refine tkP 15 ?_ (y := by intro w hZ; obtain ⟨q0, q1, q2, q3, a1, a2, a9⟩ := kZ7 hZ e0 e1 e2 s0 f1 f2 f9; go_simp; try rfl)
  go_simp; refine tkP 16 ?_
  go_simp; refine tkP 17 ?_
  go_simp; refine tkP 18 ?_
  go_simp; refine skW 19 ?_
  go_simp; refine skW 20 ?_
  go_simp; refine skW 21 ?_
  go_simp; refine skW 22 ?_
  go_simp; refine skW 23 ?_
  go_simp; refine skW 24 ?_
  go_simp; refine tkP 25 ?_
  go_simp; refine tkP 26 ?_
  go_simp; refine skW 27 ?_
  go_simp; refine skW 28 ?_
  go_simp; refine skW 29 ?_
  go_simp; refine skW 30 ?_
  go_simp; refine skW 31 ?_
  go_simp; refine tkP 32 ?_
  go_simp; refine dnW ?_ _
  have KF := hD (show Kp W _ from hH); clear hH; go_wp2; go_ret; exact .inl ⟨HDO.out, rfl, kT K1.out KF.out⟩
 have g2 : decide (fs < nx) = false := dF h2
 by_cases h3 : L ≥ 8
 ·have g3 : decide (L ≥ 8) = true := dT h3; have hdo : doS m (⟨1, fn, fs, fr, fe, fp, fq, fo, fd, fa, ft, fh, fc, fx⟩ : FX) = none := by unfold doS; dsimp only; rw [if_pos rfl, if_pos (.inr (.inr (.inl (by omega))))]
  have HDO := hD hdo; clear hdo h1 h2 h3 hfr hfa hse hnd hnx E Hs ok hR eva evp hl hnp hlA l8 p8 h6 hpar k1 rf rs; go_enter Tryz.func144, Tryz.ntmps144; go_wp2_with fail
  obtain ⟨WD, hWD⟩ : ∃ x, W.drew = x := ⟨_, rfl⟩
  have kD : Kp W WD := by rw [← hWD]; exact dQ (Kp.refl W)
  have HWD := hD hWD; clear hWD; refine rgW (fun w' => Kp W w') ?_ fun hH => ?_
  ·exact by rw [HWD.out]; exact kD
  rw [HWD.out] at hH ⊢; refine tkP 0 ?_
  go_simp; refine tkP 1 ?_
  go_simp; refine tkP 2 ?_ (y := by intro w hZ; obtain ⟨q0, q1, q2, q3, a1, a2, a9⟩ := kZ7 hZ e0 e1 e2 s0 f1 f2 f9; go_simp; try rfl)
  go_simp; refine tkP 3 ?_ (y := by intro w hZ; obtain ⟨q0, q1, q2, q3, a1, a2, a9⟩ := kZ7 hZ e0 e1 e2 s0 f1 f2 f9; go_simp; try rfl)
  go_simp; refine tkP 4 ?_
  go_simp; refine tkP 5 ?_
  go_simp; refine tkP 6 ?_ (y := by intro w hZ; obtain ⟨q0, q1, q2, q3, a1, a2, a9⟩ := kZ7 hZ e0 e1 e2 s0 f1 f2 f9; go_simp; try rfl)
  go_simp; refine tkP 7 ?_
  go_simp; refine tkP 8 ?_
  go_simp; refine tkP 9 ?_
  go_simp; refine tkP 10 ?_
  go_simp; refine tkP 11 ?_ (y := by intro w hZ; obtain ⟨q0, q1, q2, q3, a1, a2, a9⟩ := kZ7 hZ e0 e1 e2 s0 f1 f2 f9; go_simp; try rfl)
  go_simp; refine tkP 12 ?_ (y := by intro w hZ; obtain ⟨q0, q1, q2, q3, a1, a2, a9⟩ := kZ7 hZ e0 e1 e2 s0 f1 f2 f9; go_simp; try rfl)
  go_simp; refine tkP 13 ?_
  go_simp; refine tkP 14 ?_
  go_simp; refine tkP 15 ?_ (y := by intro w hZ; obtain ⟨q0, q1, q2, q3, a1, a2, a9⟩ := kZ7 hZ e0 e1 e2 s0 f1 f2 f9; go_simp; try rfl)
  go_simp; refine tkP 16 ?_
  go_simp; refine tkP 17 ?_
  go_simp; refine tkP 18 ?_
  go_simp; refine tkP 19 ?_ (y := by intro w hZ; obtain ⟨q0, q1, q2, q3, a1, a2, a9⟩ := kZ7 hZ e0 e1 e2 s0 f1 f2 f9; go_simp; try rfl)
  go_simp; refine tkP 20 ?_
  go_simp; refine tkP 21 ?_
  go_simp; refine tkP 22 ?_ (y := by intro w hZ; obtain ⟨q0, q1, q2, q3, a1, a2, a9⟩ := kZ7 hZ e0 e1 e2 s0 f1 f2 f9; go_simp; try rfl)
  go_simp; refine tkP 23 ?_
  go_simp; refine tkP 24 ?_
  go_simp; refine tkP 25 ?_
  go_simp; refine tkP 26 ?_
  go_simp; refine skW 27 ?_
  go_simp; refine skW 28 ?_
  go_simp; refine skW 29 ?_
  go_simp; refine skW 30 ?_
  go_simp; refine skW 31 ?_
  go_simp; refine tkP 32 ?_
  go_simp; refine dnW ?_ _
  have KF := hD (show Kp W _ from hH); clear hH; go_wp2; go_ret; exact .inl ⟨HDO.out, rfl, kT K1.out KF.out⟩
 have g3 : decide (L ≥ 8) = false := dF h3
 by_cases h4 : 0 < fa ∧ (m.parts.length < fa ∨ (childS m.acts (fa - 1)).isSome = true)
 ·rw [dT h4, Bool.not_true] at hfr; have HFR := hD hfr; have hdo : doS m (⟨1, fn, fs, fr, fe, fp, fq, fo, fd, fa, ft, fh, fc, fx⟩ : FX) = none := by unfold doS; dsimp only; rw [if_pos rfl, if_pos (.inr (.inr (.inr h4)))]
  have HDO := hD hdo; clear hdo h1 h2 h3 h4 hfr hfa hse hnd hnx E Hs ok hR eva evp hl hnp hlA l8 p8 h6 hpar k1 rf rs; go_enter Tryz.func144, Tryz.ntmps144; go_wp2_with fail
  obtain ⟨WD, hWD⟩ : ∃ x, W.drew = x := ⟨_, rfl⟩
  have kD : Kp W WD := by rw [← hWD]; exact dQ (Kp.refl W)
  have HWD := hD hWD; clear hWD; refine rgW (fun w' => Kp W w') ?_ fun hH => ?_
  ·exact by rw [HWD.out]; exact kD
  rw [HWD.out] at hH ⊢; refine tkP 0 ?_
  go_simp; refine tkP 1 ?_
  go_simp; refine tkP 2 ?_ (y := by intro w hZ; obtain ⟨q0, q1, q2, q3, a1, a2, a9⟩ := kZ7 hZ e0 e1 e2 s0 f1 f2 f9; go_simp; try rfl)
  go_simp; refine tkP 3 ?_ (y := by intro w hZ; obtain ⟨q0, q1, q2, q3, a1, a2, a9⟩ := kZ7 hZ e0 e1 e2 s0 f1 f2 f9; go_simp; try rfl)
  go_simp; refine tkP 4 ?_
  go_simp; refine tkP 5 ?_
  go_simp; refine tkP 6 ?_ (y := by intro w hZ; obtain ⟨q0, q1, q2, q3, a1, a2, a9⟩ := kZ7 hZ e0 e1 e2 s0 f1 f2 f9; go_simp; try rfl)
  go_simp; refine tkP 7 ?_
  go_simp; refine tkP 8 ?_
  go_simp; refine tkP 9 ?_
  go_simp; refine tkP 10 ?_
  go_simp; refine tkP 11 ?_ (y := by intro w hZ; obtain ⟨q0, q1, q2, q3, a1, a2, a9⟩ := kZ7 hZ e0 e1 e2 s0 f1 f2 f9; go_simp; try rfl)
  go_simp; refine tkP 12 ?_ (y := by intro w hZ; obtain ⟨q0, q1, q2, q3, a1, a2, a9⟩ := kZ7 hZ e0 e1 e2 s0 f1 f2 f9; go_simp; try rfl)
  go_simp; refine tkP 13 ?_
  go_simp; refine tkP 14 ?_
  go_simp; refine tkP 15 ?_ (y := by intro w hZ; obtain ⟨q0, q1, q2, q3, a1, a2, a9⟩ := kZ7 hZ e0 e1 e2 s0 f1 f2 f9; go_simp; try rfl)
  go_simp; refine tkP 16 ?_
  go_simp; refine tkP 17 ?_
  go_simp; refine tkP 18 ?_
  go_simp; refine tkP 19 ?_ (y := by intro w hZ; obtain ⟨q0, q1, q2, q3, a1, a2, a9⟩ := kZ7 hZ e0 e1 e2 s0 f1 f2 f9; go_simp; try rfl)
  go_simp; refine tkP 20 ?_
  go_simp; refine tkP 21 ?_
  go_simp; refine tkP 22 ?_ (y := by intro w hZ; obtain ⟨q0, q1, q2, q3, a1, a2, a9⟩ := kZ7 hZ e0 e1 e2 s0 f1 f2 f9; go_simp; try rfl)
  go_simp; refine tkP 23 ?_
  go_simp; refine tkP 24 ?_
  go_simp; refine tkP 25 ?_
  go_simp; refine tkP 26 ?_
  go_simp; refine tkP 27 ?_ (y := by intro w hZ; obtain ⟨q0, q1, q2, q3, a1, a2, a9⟩ := kZ7 hZ e0 e1 e2 s0 f1 f2 f9; go_simp; try rfl)
  go_simp; refine tkP 28 ?_
  go_simp; refine tkP 29 ?_ (y := by intro w hZ; obtain ⟨q0, q1, q2, q3, a1, a2, a9⟩ := kZ7 hZ e0 e1 e2 s0 f1 f2 f9; go_simp; try rfl)
  go_simp; refine rdW 30 fun K hK => ?_
  go_simp; go_wp2_with (go_at_call 180; (with_reducible refine (HFR.out _ (kT K1.out (show Kp W WD from hH))).mono ?_); rintro e' w3 ⟨rfl, hk3⟩)
  refine hK.out _ _ (kT hH hk3) fun hH => ?_
  clear hK K; refine tkP 31 ?_
  go_simp; refine tkP 32 ?_
  go_simp; refine dnW ?_ _
  have KF := hD (show Kp W _ from hH); clear hH; go_wp2; go_ret; exact .inl ⟨HDO.out, rfl, kT K1.out KF.out⟩
 ·rw [dF h4, Bool.not_false] at hfr; have HFR := hD hfr; have hdo : doS m (⟨1, fn, fs, fr, fe, fp, fq, fo, fd, fa, ft, fh, fc, fx⟩ : FX) = some { m with acts := m.acts ++ [⟨⟨fn, fs, fo, fd, fx⟩, fa, 0, []⟩], next := fs + 1 } := by
   unfold doS; dsimp only; rw [if_pos rfl, if_neg (by rintro (e | e | e | e); exact e (by rw [hnd]; exact h1); exact h2 (by rw [← hnx]; exact e); omega; exact h4 e)]; rfl
  have HDO := hD hdo; clear hdo h1 h2 h3 h4 hfr hfa hse hnd hnx E Hs ok hR eva evp hl hnp hlA l8 p8 h6 hpar k1 rf rs; go_enter Tryz.func144, Tryz.ntmps144; go_wp2_with fail
  obtain ⟨WD, hWD⟩ : ∃ x, W.drew = x := ⟨_, rfl⟩
  have kD : Kp W WD := by rw [← hWD]; exact dQ (Kp.refl W)
  have HWD := hD hWD; clear hWD; refine rgW (fun w' => Kp W w') ?_ fun hH => ?_
  ·exact by rw [HWD.out]; exact kD
  rw [HWD.out] at hH ⊢; refine tkP 0 ?_
  go_simp; refine tkP 1 ?_
  go_simp; refine tkP 2 ?_ (y := by intro w hZ; obtain ⟨q0, q1, q2, q3, a1, a2, a9⟩ := kZ7 hZ e0 e1 e2 s0 f1 f2 f9; go_simp; try rfl)
  go_simp; refine tkP 3 ?_ (y := by intro w hZ; obtain ⟨q0, q1, q2, q3, a1, a2, a9⟩ := kZ7 hZ e0 e1 e2 s0 f1 f2 f9; go_simp; try rfl)
  go_simp; refine tkP 4 ?_
  go_simp; refine tkP 5 ?_
  go_simp; refine tkP 6 ?_ (y := by intro w hZ; obtain ⟨q0, q1, q2, q3, a1, a2, a9⟩ := kZ7 hZ e0 e1 e2 s0 f1 f2 f9; go_simp; try rfl)
  go_simp; refine tkP 7 ?_
  go_simp; refine tkP 8 ?_
  go_simp; refine tkP 9 ?_
  go_simp; refine tkP 10 ?_
  go_simp; refine tkP 11 ?_ (y := by intro w hZ; obtain ⟨q0, q1, q2, q3, a1, a2, a9⟩ := kZ7 hZ e0 e1 e2 s0 f1 f2 f9; go_simp; try rfl)
  go_simp; refine tkP 12 ?_ (y := by intro w hZ; obtain ⟨q0, q1, q2, q3, a1, a2, a9⟩ := kZ7 hZ e0 e1 e2 s0 f1 f2 f9; go_simp; try rfl)
  go_simp; refine tkP 13 ?_
  go_simp; refine tkP 14 ?_
  go_simp; refine tkP 15 ?_ (y := by intro w hZ; obtain ⟨q0, q1, q2, q3, a1, a2, a9⟩ := kZ7 hZ e0 e1 e2 s0 f1 f2 f9; go_simp; try rfl)
  go_simp; refine tkP 16 ?_
  go_simp; refine tkP 17 ?_
  go_simp; refine tkP 18 ?_
  go_simp; refine tkP 19 ?_ (y := by intro w hZ; obtain ⟨q0, q1, q2, q3, a1, a2, a9⟩ := kZ7 hZ e0 e1 e2 s0 f1 f2 f9; go_simp; try rfl)
  go_simp; refine tkP 20 ?_
  go_simp; refine tkP 21 ?_
  go_simp; refine tkP 22 ?_ (y := by intro w hZ; obtain ⟨q0, q1, q2, q3, a1, a2, a9⟩ := kZ7 hZ e0 e1 e2 s0 f1 f2 f9; go_simp; try rfl)
  go_simp; refine tkP 23 ?_
  go_simp; refine tkP 24 ?_
  go_simp; refine tkP 25 ?_
  go_simp; refine tkP 26 ?_
  go_simp; refine tkP 27 ?_ (y := by intro w hZ; obtain ⟨q0, q1, q2, q3, a1, a2, a9⟩ := kZ7 hZ e0 e1 e2 s0 f1 f2 f9; go_simp; try rfl)
  go_simp; refine tkP 28 ?_
  go_simp; refine tkP 29 ?_ (y := by intro w hZ; obtain ⟨q0, q1, q2, q3, a1, a2, a9⟩ := kZ7 hZ e0 e1 e2 s0 f1 f2 f9; go_simp; try rfl)
  go_simp; refine rdW 30 fun K hK => ?_
  go_simp; go_wp2_with (go_at_call 180; (with_reducible refine (HFR.out _ (kT K1.out (show Kp W WD from hH))).mono ?_); rintro e' w3 ⟨rfl, hk3⟩)
  refine hK.out _ _ (kT hH hk3) fun hH => ?_
  clear hK K; refine tkP 31 ?_
  go_simp; refine tkP 32 ?_
  go_simp; refine dnW ?_ _
  have KF := hD (show Kp W _ from hH); clear hH; go_wp2; go_ret; refine .inr ⟨_, HDO.out, _, rfl, kT K1.out KF.out, ?_⟩
  have hA := Asd.of_kp (Ow q gs va vp) (kT K1.out KF.out); exact lsOpen1 (HS.out.kp (kT K1.out KF.out)) (by rw [HL.out]; exact L8.out.1) 1 fn fs fr fe fp fq fo fd fa ft fh fc fx HSE.out (rZ KF.out RF.out) (rZ KF.out RS.out)
theorem lsJoined (E : EP [0, 3, 4, 8, 13] ads w) (Hs : GS tyL B q m gs va vp w) (ok : OkS m) (fn fs fr fe fp fq fo fd fa ft fh fc : Int) (fx : Nat) (hR : rightF (⟨6, fn, fs, fr, fe, fp, fq, fo, fd, fa, ft, fh, fc, fx⟩ : FX) = true) : Calls Tryz.prog 149 #[.pointer (some ⟨q, 0, none⟩), .agg #[(6:Int), fn, fs, fr, fe, fp, fq, fo, fd, fa, ft, fh, fc, fx]] w fun r w' => (doS m (⟨6, fn, fs, fr, fe, fp, fq, fo, fd, fa, ft, fh, fc, fx⟩ : FX) = none ∧ r = .returned .nilFunc ∧ Kp w w') ∨ (∃ m2, doS m (⟨6, fn, fs, fr, fe, fp, fq, fo, fd, fa, ft, fh, fc, fx⟩ : FX) = some m2 ∧ ∃ caps, r = .returned (.func (.func 192) #[] caps) ∧ Kp w w' ∧ Calls Tryz.prog 192 caps w' fun r w3 => r = .returned (.tuple #[]) ∧ ∃ gs' va' vp', GS tyL B q m2 gs' va' vp' w3 ∧ Asd (Ow q gs va vp) (Ow q gs' va' vp') w' w3) := by
 have _u := And.intro (And.intro E Hs) (And.intro ok hR); clear _u; obtain ⟨a0, c0, eva⟩ := Hs.vForm; obtain ⟨b0, d0, evp⟩ := Hs.pForm; obtain ⟨len, hl⟩ : ∃ x, gs.length = x := ⟨_, rfl⟩
 obtain ⟨np, hnp⟩ : ∃ x, m.parts.length = x := ⟨_, rfl⟩
 have hlA : m.acts.length = len := by rw [← hl]; exact Hs.len.symm
 have l8 : len ≤ 8 := by have := ok.l8; omega
 have p8 : np ≤ 8 := by have := ok.p8; omega
 have h6 : ∀ a ∈ m.acts, a.regs.length ≤ 6 := fun a ha => (ok.a a ha).l
 have hpar : ∀ a ∈ m.acts, 0 ≤ a.par ∧ a.par ≤ 8 := fun a ha => ⟨(ok.a a ha).p0, (ok.a a ha).p8⟩
 have k1 : Kp w ((w.alloc (.cells #[.pointer (some ⟨q, 0, none⟩)] 31)).alloc (.cells #[(6:Int), fn, fs, fr, fe, fp, fq, fo, fd, fa, ft, fh, fc, fx] 87)) := kT (kA _ _) (kA _ _); have rs := nX0 w (.cells #[.pointer (some ⟨q, 0, none⟩)] 31) (.cells #[(6:Int), fn, fs, fr, fe, fp, fq, fo, fd, fa, ft, fh, fc, fx] 87); have rf := nX1 w (.cells #[.pointer (some ⟨q, 0, none⟩)] 31) (.cells #[(6:Int), fn, fs, fr, fe, fp, fq, fo, fd, fa, ft, fh, fc, fx] 87); obtain ⟨W, hW⟩ : ∃ W, ((w.alloc (.cells #[.pointer (some ⟨q, 0, none⟩)] 31)).alloc (.cells #[(6:Int), fn, fs, fr, fe, fp, fq, fo, fd, fa, ft, fh, fc, fx] 87)) = W := ⟨_, rfl⟩
 rw [hW] at k1 rf rs; obtain ⟨f0, f1, f2, f3, f4, f5, f6, f7, f8, f9, f10, f11, f12, f13⟩ := cZ rf; have s0 : W.cell? ⟨w.heap.size, 0, none⟩ = some (.pointer (some ⟨q, 0, none⟩)) := cU (i := 0) rs rfl; have e0 : W.cell? ⟨q, 0, none⟩ = some (.int .i64 m.node) := kZ k1 (cU (i := 0) Hs.row rfl); have e1 : W.cell? ⟨q, 1, none⟩ = some (.int .i64 m.next) := kZ k1 (cU (i := 1) Hs.row rfl); have e2 : W.cell? ⟨q, 2, none⟩ = some (.slice a0 len c0) := by rw [← hl, ← eva]; exact kZ k1 (cU (i := 2) Hs.row rfl)
 have e3 : W.cell? ⟨q, 3, none⟩ = some (.slice b0 np d0) := by rw [← hnp, ← evp]; exact kZ k1 (cU (i := 3) Hs.row rfl)
 obtain ⟨L, hL⟩ : ∃ L : Int, (len : Int) = L := ⟨_, rfl⟩
 obtain ⟨NP, hNP⟩ : ∃ N : Int, (np : Int) = N := ⟨_, rfl⟩
 obtain ⟨HS, OK, HE, EVA, EVP, HL, HLA, HNP⟩ := hD8 Hs ok E eva evp hl hlA hnp; obtain ⟨HLL, HNN⟩ := hD2 hL hNP; have L8 := hD (And.intro l8 p8); obtain ⟨H6, HPA, K1, RF, RS⟩ := hD5 h6 hpar k1 rf rs; have hfq : fq = 1 ∨ fq = 2 := (inv_joi hR rfl).2.2; have HQ := hD hfq
 by_cases h1 : fp = NP
 rotate_left
 ·have hdo : doS m (⟨6, fn, fs, fr, fe, fp, fq, fo, fd, fa, ft, fh, fc, fx⟩ : FX) = none := by unfold doS; dsimp only; rw [if_neg (by decide), if_pos rfl, if_pos (by omega)]
  have HDO := hD hdo; have g1 : (fp == NP) = false := by simpa using h1
  have g2 : (fp != NP) = true := by simp [h1]
  clear hdo h1 hfq E Hs ok hR eva evp hl hnp hlA l8 p8 h6 hpar k1 rf rs; go_enter Tryz.func149, Tryz.ntmps149; go_wp2_with fail
  go_region
  go_wp2; go_ret; exact .inl ⟨HDO.out, rfl, dQ K1.out⟩
 ·have hdo : doS m (⟨6, fn, fs, fr, fe, fp, fq, fo, fd, fa, ft, fh, fc, fx⟩ : FX) = some { m with parts := m.parts ++ [(⟨fn, fs, -1, ⟨fq, 2, 1, 0⟩⟩ : PaM)] } := by unfold doS; dsimp only; rw [if_neg (by decide), if_pos rfl, if_neg (by omega)]
  have HDO := hD hdo; subst h1; clear hdo hfq E Hs ok hR eva evp hl hnp hlA l8 p8 h6 hpar k1 rf rs; go_enter Tryz.func149, Tryz.ntmps149; go_wp2_with fail
  go_region
  go_wp2; go_ret; have kd : Kp W W.drew := dQ (Kp.refl W); exact .inr ⟨_, HDO.out, _, rfl, dQ K1.out, lsJoin1 (HE.out.kp (dQ K1.out)) (HS.out.kp (dQ K1.out)) (by rw [HNP.out]; exact L8.out.2) 6 fn fs fr fe fp fq fo fd fa ft fh fc fx HQ.out (rZ kd RF.out) (rZ kd RS.out)⟩
theorem lsPlaced (E : EP [0, 3, 4, 8, 13] ads w) (Hs : GS tyL B q m gs va vp w) (ok : OkS m) (fn fs fr fe fp fq fo fd fa ft fh fc : Int) (fx : Nat) (hR : rightF (⟨7, fn, fs, fr, fe, fp, fq, fo, fd, fa, ft, fh, fc, fx⟩ : FX) = true) : Calls Tryz.prog 150 #[.pointer (some ⟨q, 0, none⟩), .agg #[(7:Int), fn, fs, fr, fe, fp, fq, fo, fd, fa, ft, fh, fc, fx]] w fun r w' => (doS m (⟨7, fn, fs, fr, fe, fp, fq, fo, fd, fa, ft, fh, fc, fx⟩ : FX) = none ∧ r = .returned .nilFunc ∧ Kp w w') ∨ (∃ m2, doS m (⟨7, fn, fs, fr, fe, fp, fq, fo, fd, fa, ft, fh, fc, fx⟩ : FX) = some m2 ∧ ∃ caps, r = .returned (.func (.func 193) #[] caps) ∧ Kp w w' ∧ Calls Tryz.prog 193 caps w' fun r w3 => r = .returned (.tuple #[]) ∧ ∃ gs' va' vp', GS tyL B q m2 gs' va' vp' w3 ∧ Asd (Ow q gs va vp) (Ow q gs' va' vp') w' w3) := by
 have _u := And.intro (And.intro E Hs) (And.intro ok hR); clear _u; obtain ⟨a0, c0, eva⟩ := Hs.vForm; obtain ⟨b0, d0, evp⟩ := Hs.pForm; obtain ⟨len, hl⟩ : ∃ x, gs.length = x := ⟨_, rfl⟩
 obtain ⟨np, hnp⟩ : ∃ x, m.parts.length = x := ⟨_, rfl⟩
 have hlA : m.acts.length = len := by rw [← hl]; exact Hs.len.symm
 have l8 : len ≤ 8 := by have := ok.l8; omega
 have p8 : np ≤ 8 := by have := ok.p8; omega
 have h6 : ∀ a ∈ m.acts, a.regs.length ≤ 6 := fun a ha => (ok.a a ha).l
 have hpar : ∀ a ∈ m.acts, 0 ≤ a.par ∧ a.par ≤ 8 := fun a ha => ⟨(ok.a a ha).p0, (ok.a a ha).p8⟩
 have k1 : Kp w ((w.alloc (.cells #[.pointer (some ⟨q, 0, none⟩)] 31)).alloc (.cells #[(7:Int), fn, fs, fr, fe, fp, fq, fo, fd, fa, ft, fh, fc, fx] 87)) := kT (kA _ _) (kA _ _); have rs := nX0 w (.cells #[.pointer (some ⟨q, 0, none⟩)] 31) (.cells #[(7:Int), fn, fs, fr, fe, fp, fq, fo, fd, fa, ft, fh, fc, fx] 87); have rf := nX1 w (.cells #[.pointer (some ⟨q, 0, none⟩)] 31) (.cells #[(7:Int), fn, fs, fr, fe, fp, fq, fo, fd, fa, ft, fh, fc, fx] 87); obtain ⟨W, hW⟩ : ∃ W, ((w.alloc (.cells #[.pointer (some ⟨q, 0, none⟩)] 31)).alloc (.cells #[(7:Int), fn, fs, fr, fe, fp, fq, fo, fd, fa, ft, fh, fc, fx] 87)) = W := ⟨_, rfl⟩
 rw [hW] at k1 rf rs; obtain ⟨f0, f1, f2, f3, f4, f5, f6, f7, f8, f9, f10, f11, f12, f13⟩ := cZ rf; have s0 : W.cell? ⟨w.heap.size, 0, none⟩ = some (.pointer (some ⟨q, 0, none⟩)) := cU (i := 0) rs rfl; have e0 : W.cell? ⟨q, 0, none⟩ = some (.int .i64 m.node) := kZ k1 (cU (i := 0) Hs.row rfl); have e1 : W.cell? ⟨q, 1, none⟩ = some (.int .i64 m.next) := kZ k1 (cU (i := 1) Hs.row rfl); have e2 : W.cell? ⟨q, 2, none⟩ = some (.slice a0 len c0) := by rw [← hl, ← eva]; exact kZ k1 (cU (i := 2) Hs.row rfl)
 have e3 : W.cell? ⟨q, 3, none⟩ = some (.slice b0 np d0) := by rw [← hnp, ← evp]; exact kZ k1 (cU (i := 3) Hs.row rfl)
 obtain ⟨L, hL⟩ : ∃ L : Int, (len : Int) = L := ⟨_, rfl⟩
 obtain ⟨NP, hNP⟩ : ∃ N : Int, (np : Int) = N := ⟨_, rfl⟩
 obtain ⟨HS, OK, HE, EVA, EVP, HL, HLA, HNP⟩ := hD8 Hs ok E eva evp hl hlA hnp; obtain ⟨HLL, HNN⟩ := hD2 hL hNP; have L8 := hD (And.intro l8 p8); obtain ⟨H6, HPA, K1, RF, RS⟩ := hD5 h6 hpar k1 rf rs; have hp0 : 0 ≤ fp := (by have := okF_of hR; simp [okF] at this; omega)
 have HP0 := hD hp0
 by_cases h1 : fp < NP
 rotate_left
 ·have hno : m.parts[fp.toNat]? = none := List.getElem?_eq_none (by omega); have hdo : doS m (⟨7, fn, fs, fr, fe, fp, fq, fo, fd, fa, ft, fh, fc, fx⟩ : FX) = none := by unfold doS; simp [hno]
  have HDO := hD hdo; have g1 : decide (fp ≥ NP) = true := dT (by omega); clear hdo hno h1 hp0 E Hs ok hR eva evp hl hnp hlA l8 p8 h6 hpar k1 rf rs; go_enter Tryz.func150, Tryz.ntmps150; go_wp2_with fail
  go_region
  go_wp2; go_ret; exact .inl ⟨HDO.out, rfl, dQ K1.out⟩
 ·have g1 : decide (fp ≥ NP) = false := dF (by omega); have hpn : fp.toNat < m.parts.length := by omega
  obtain ⟨⟨yn, ys, yr, ⟨zp, ze, zt, zh⟩⟩, hx⟩ : ∃ x, m.parts[fp.toNat]? = some x := ⟨_, List.getElem?_eq_getElem hpn⟩
  have hokp := ok.p _ (List.mem_of_getElem? hx); obtain ⟨gp, ck, evp2, hck, hgpB, hgpl, hfzp, hcp⟩ := cQ (E := paE) Hs.op rfl hpn; have hcp2 : ∀ (i : Nat) (u : Value), i < paE.k → (paE.enc (m.parts[fp.toNat]'hpn))[i]? = some u → w.cell? ⟨gp, fp.toNat * paE.k + i, none⟩ = some u := hcp; rw [(List.getElem?_eq_some_iff.1 hx).2, show paE.k = 7 from rfl] at hcp2; have evp3 := congrArg (fun v => match v with | Value.slice a _ _ => a | _ => none) (evp2.symm.trans evp); dsimp only at evp3; subst evp3; have y2 : W.cell? ⟨gp, fp.toNat * 7 + 2, none⟩ = some (.int .i64 yr) := kZ k1 (hcp2 2 _ (by decide) rfl); have y3 : W.cell? ⟨gp, fp.toNat * 7 + 3, none⟩ = some (.int .i64 zp) := kZ k1 (hcp2 3 _ (by decide) rfl); have y4 : W.cell? ⟨gp, fp.toNat * 7 + 4, none⟩ = some (.int .i64 ze) := kZ k1 (hcp2 4 _ (by decide) rfl); have y5 : W.cell? ⟨gp, fp.toNat * 7 + 5, none⟩ = some (.int .i64 zt) := kZ k1 (hcp2 5 _ (by decide) rfl)
  have y6 : W.cell? ⟨gp, fp.toNat * 7 + 6, none⟩ = some (.int .i64 zh) := kZ k1 (hcp2 6 _ (by decide) rfl); have HZP := hD (show ∀ w', Kp w w' → ∀ j, w'.frozen? ⟨gp, j, none⟩ = false from fun w' h j => by rw [Below.frozen h hgpl]; exact hfzp j); obtain ⟨HX, EV2⟩ := hD2 hx evp2
  by_cases h2 : yr = -1
  ·have hdo : doS m (⟨7, fn, fs, fr, fe, fp, fq, fo, fd, fa, ft, fh, fc, fx⟩ : FX) = some { m with parts := m.parts.set fp.toNat ⟨yn, ys, fr, ⟨zp, ze, zt, zh⟩⟩ } := by unfold doS; simp [hx, h2]
   have HDO := hD hdo; subst h2; clear hdo E Hs ok hR eva evp hl hnp hlA l8 p8 h6 hpar k1 rf rs hpn hx hokp evp2 hck hgpB hgpl hfzp hcp hcp2; go_enter Tryz.func150, Tryz.ntmps150; go_wp2_with fail
   go_region
   go_wp2; go_ret; have kd : Kp W W.drew := dQ (Kp.refl W); exact .inr ⟨_, HDO.out, _, rfl, dQ K1.out, lsPlace1 (HS.out.kp (dQ K1.out)) 7 fn fs fr fe fp fq fo fd fa ft fh fc fx HP0.out HX.out (rZ kd RF.out) (rZ kd RS.out)⟩
  ·have h3 : 0 ≤ yr := by have := hokp.2.1; dsimp only at this; omega
   have hdo : doS m (⟨7, fn, fs, fr, fe, fp, fq, fo, fd, fa, ft, fh, fc, fx⟩ : FX) = none := by unfold doS; simp [hx, h3]
   have HDO := hD hdo; have g2 : (yr == -1) = false := by simpa using h2
   have g3 : (yr != -1) = true := by simp [h2]
   clear hdo h2 h3 E Hs ok hR eva evp hl hnp hlA l8 p8 h6 hpar k1 rf rs hpn hx hokp evp2 hck hgpB hgpl hfzp hcp hcp2; go_enter Tryz.func150, Tryz.ntmps150; go_wp2_with fail
   go_region
   go_wp2; go_ret; exact .inl ⟨HDO.out, rfl, dQ K1.out⟩
theorem lsTurned (E : EP [0, 3, 4, 8, 13] ads w) (Hs : GS tyL B q m gs va vp w) (ok : OkS m) (fn fs fr fe fp fq fo fd fa ft fh fc : Int) (fx : Nat) (hR : rightF (⟨8, fn, fs, fr, fe, fp, fq, fo, fd, fa, ft, fh, fc, fx⟩ : FX) = true) : Calls Tryz.prog 151 #[.pointer (some ⟨q, 0, none⟩), .agg #[(8:Int), fn, fs, fr, fe, fp, fq, fo, fd, fa, ft, fh, fc, fx]] w fun r w' => (doS m (⟨8, fn, fs, fr, fe, fp, fq, fo, fd, fa, ft, fh, fc, fx⟩ : FX) = none ∧ r = .returned .nilFunc ∧ Kp w w') ∨ (∃ m2, doS m (⟨8, fn, fs, fr, fe, fp, fq, fo, fd, fa, ft, fh, fc, fx⟩ : FX) = some m2 ∧ ∃ caps, r = .returned (.func (.func 207) #[] caps) ∧ Kp w w' ∧ Calls Tryz.prog 207 caps w' fun r w3 => r = .returned (.tuple #[]) ∧ ∃ gs' va' vp', GS tyL B q m2 gs' va' vp' w3 ∧ Asd (Ow q gs va vp) (Ow q gs' va' vp') w' w3) := by
 have _u := And.intro (And.intro E Hs) (And.intro ok hR); clear _u; obtain ⟨a0, c0, eva⟩ := Hs.vForm; obtain ⟨b0, d0, evp⟩ := Hs.pForm; obtain ⟨len, hl⟩ : ∃ x, gs.length = x := ⟨_, rfl⟩
 obtain ⟨np, hnp⟩ : ∃ x, m.parts.length = x := ⟨_, rfl⟩
 have hlA : m.acts.length = len := by rw [← hl]; exact Hs.len.symm
 have l8 : len ≤ 8 := by have := ok.l8; omega
 have p8 : np ≤ 8 := by have := ok.p8; omega
 have h6 : ∀ a ∈ m.acts, a.regs.length ≤ 6 := fun a ha => (ok.a a ha).l
 have hpar : ∀ a ∈ m.acts, 0 ≤ a.par ∧ a.par ≤ 8 := fun a ha => ⟨(ok.a a ha).p0, (ok.a a ha).p8⟩
 have k1 : Kp w (w.alloc (.cells #[(8:Int), fn, fs, fr, fe, fp, fq, fo, fd, fa, ft, fh, fc, fx] 87)) := kA _ _; have rf := (mH w (.cells #[(8:Int), fn, fs, fr, fe, fp, fq, fo, fd, fa, ft, fh, fc, fx] 87))
 obtain ⟨W, hW⟩ : ∃ W, (w.alloc (.cells #[(8:Int), fn, fs, fr, fe, fp, fq, fo, fd, fa, ft, fh, fc, fx] 87)) = W := ⟨_, rfl⟩
 rw [hW] at k1 rf; obtain ⟨f0, f1, f2, f3, f4, f5, f6, f7, f8, f9, f10, f11, f12, f13⟩ := cZ rf; have e0 : W.cell? ⟨q, 0, none⟩ = some (.int .i64 m.node) := kZ k1 (cU (i := 0) Hs.row rfl); have e1 : W.cell? ⟨q, 1, none⟩ = some (.int .i64 m.next) := kZ k1 (cU (i := 1) Hs.row rfl); have e2 : W.cell? ⟨q, 2, none⟩ = some (.slice a0 len c0) := by rw [← hl, ← eva]; exact kZ k1 (cU (i := 2) Hs.row rfl)
 have e3 : W.cell? ⟨q, 3, none⟩ = some (.slice b0 np d0) := by rw [← hnp, ← evp]; exact kZ k1 (cU (i := 3) Hs.row rfl)
 obtain ⟨L, hL⟩ : ∃ L : Int, (len : Int) = L := ⟨_, rfl⟩
 obtain ⟨NP, hNP⟩ : ∃ N : Int, (np : Int) = N := ⟨_, rfl⟩
 obtain ⟨HS, OK, HE, EVA, EVP, HL, HLA, HNP⟩ := hD8 Hs ok E eva evp hl hlA hnp; obtain ⟨HLL, HNN⟩ := hD2 hL hNP; have L8 := hD (And.intro l8 p8); obtain ⟨H6, HPA, K1, RF⟩ := hD4 h6 hpar k1 rf; have hp0 : 0 ≤ fp := (by have := okF_of hR; simp [okF] at this; omega)
 by_cases h1 : fp < NP
 rotate_left
 ·have hno : m.parts[fp.toNat]? = none := List.getElem?_eq_none (by omega); have hdo : doS m (⟨8, fn, fs, fr, fe, fp, fq, fo, fd, fa, ft, fh, fc, fx⟩ : FX) = none := by unfold doS; simp [hno]
  have HDO := hD hdo; have g1 : decide (fp ≥ NP) = true := dT (by omega); clear hdo hno h1 hp0 E Hs ok hR eva evp hl hnp hlA l8 p8 h6 hpar k1 rf; go_enter Tryz.func151, Tryz.ntmps151; go_wp2_with fail
  go_region
  go_wp2; go_ret; exact .inl ⟨HDO.out, rfl, dQ K1.out⟩
 ·have g1 : decide (fp ≥ NP) = false := dF (by omega); have hpn : fp.toNat < m.parts.length := by omega
  obtain ⟨⟨yn, ys, yr, ⟨zp, ze, zt, zh⟩⟩, hx⟩ : ∃ x, m.parts[fp.toNat]? = some x := ⟨_, List.getElem?_eq_getElem hpn⟩
  have hokp := ok.p _ (List.mem_of_getElem? hx); obtain ⟨gp, ck, evp2, hck, hgpB, hgpl, hfzp, hcp⟩ := cQ (E := paE) Hs.op rfl hpn; have hcp2 : ∀ (i : Nat) (u : Value), i < paE.k → (paE.enc (m.parts[fp.toNat]'hpn))[i]? = some u → w.cell? ⟨gp, fp.toNat * paE.k + i, none⟩ = some u := hcp; rw [(List.getElem?_eq_some_iff.1 hx).2, show paE.k = 7 from rfl] at hcp2; have evp3 := congrArg (fun v => match v with | Value.slice a _ _ => a | _ => none) (evp2.symm.trans evp); dsimp only at evp3; subst evp3; have y2 : W.cell? ⟨gp, fp.toNat * 7 + 2, none⟩ = some (.int .i64 yr) := kZ k1 (hcp2 2 _ (by decide) rfl); have y3 : W.cell? ⟨gp, fp.toNat * 7 + 3, none⟩ = some (.int .i64 zp) := kZ k1 (hcp2 3 _ (by decide) rfl); have y4 : W.cell? ⟨gp, fp.toNat * 7 + 4, none⟩ = some (.int .i64 ze) := kZ k1 (hcp2 4 _ (by decide) rfl); have y5 : W.cell? ⟨gp, fp.toNat * 7 + 5, none⟩ = some (.int .i64 zt) := kZ k1 (hcp2 5 _ (by decide) rfl)
  have y6 : W.cell? ⟨gp, fp.toNat * 7 + 6, none⟩ = some (.int .i64 zh) := kZ k1 (hcp2 6 _ (by decide) rfl); have HZP := hD (show ∀ w', Kp w w' → ∀ j, w'.frozen? ⟨gp, j, none⟩ = false from fun w' h j => by rw [Below.frozen h hgpl]; exact hfzp j); obtain ⟨HX, EV2⟩ := hD2 hx evp2; have hoz := hokp.2.2.2; have hzs : SeatM.ok ⟨zp, ze, ft, fh⟩ := by
   have h1 := hoz.p; have h2 := hoz.2; have h3 := okF_of hR
   simp [okF, seatX] at h3
   unfold SeatM.ok i64M; dsimp only at h1 h2 ⊢
   split at h3 <;> omega
  have hsi := fun w1 (hk : Kp W w1) => lsSits (w := w1) (E.kp (kT k1 hk)) (g := gp) (off := fp.toNat * 7 + 3) (zp := zp) (ze := ze) (zt := zt) (zh := zh) (kZ hk y3) (kZ hk y4) (kZ hk y5) 8 fn fs fr fe fp fq fo fd fa ft fh fc fx hzs
  have hdo : doS m (⟨8, fn, fs, fr, fe, fp, fq, fo, fd, fa, ft, fh, fc, fx⟩ : FX) = if turnOk ⟨zp, ze, zt, zh⟩ ft fh = true then some { m with parts := m.parts.set fp.toNat ⟨yn, ys, yr, ⟨zp, ze, ft, fh⟩⟩ } else none := by
   unfold doS; dsimp only; rw [if_neg (by decide), if_neg (by decide), if_neg (by decide), if_pos rfl, hx]; dsimp only; rw [turnS_eq]
   by_cases ht : turnOk ⟨zp, ze, zt, zh⟩ ft fh = true
   ·rw [if_pos ht, if_pos ht]
    rfl
   ·rw [if_neg ht, if_neg ht]
    rfl
  obtain ⟨tk, htk⟩ : ∃ b, turnOk ⟨zp, ze, zt, zh⟩ ft fh = b := ⟨_, rfl⟩
  rw [htk] at hsi hdo; obtain ⟨HSI, HDO⟩ := hD2 hsi hdo; clear hdo hsi htk hoz hzs E Hs ok hR eva evp hl hnp hlA l8 p8 h6 hpar k1 rf hpn hx hokp evp2 hck hgpB hgpl hfzp hcp hcp2; go_enter Tryz.func151, Tryz.ntmps151; go_wp2_with fail
  go_region
  go_wp2_with fail
  obtain ⟨W2, hW2⟩ : ∃ x, W.drew = x := ⟨_, rfl⟩
  have k2 : Kp W W2 := by rw [← hW2]; exact dQ (Kp.refl W)
  rw [hW2]; obtain ⟨e3, f0, f1, f2, f3, f4, f5, f6, f7, f8, f9, f10, f11, f12⟩ := kZ14 k2 e3 f0 f1 f2 f3 f4 f5 f6 f7 f8 f9 f10 f11 f12; have f13 := kZ k2 f13; have K2 := hD k2; clear k2 hW2; go_still_tail 9, (by kernel_rfl)
  change wpList _ _ _ _ _ W2.drew
  go_wp2_with (go_at_call 186; (with_reducible refine (HSI.out _ (dQ K2.out)).mono ?_); rintro e' w5 ⟨v, rfl, hk5, hn5, hf5⟩; have K5 := hD (kT (dQ K2.out) hk5); obtain ⟨N5, F5⟩ := hD2 hn5 hf5; clear hk5 hn5 hf5)
  go_ret
  cases tk with
  | false =>
   exact .inl ⟨HDO.out, by rw [← N5.out rfl]; rfl, kT K1.out K5.out⟩
  | true =>
   obtain ⟨b5, b3, hv, r5, r3, -, -⟩ := F5.out rfl; refine .inr ⟨_, HDO.out, _, by rw [← hv]; rfl, kT K1.out K5.out, ?_⟩
   refine (lsSit1 r5 r3 (kZ K5.out y3) (kZ K5.out y4) (kZ K5.out y5) (kZ K5.out y6) (HZP.out w5 (kT K1.out K5.out))).mono fun r w6 ⟨h1, h2⟩ => ⟨h1, ?_⟩
   have H5 := HS.out.kp (kT K1.out K5.out); rw [EV2.out] at H5; have FIN := H5.seatP tyL_ok HX.out ⟨zp, ze, ft, fh⟩; rw [h2, EV2.out]; exact ⟨gs, va, _, FIN.1, FIN.2⟩
end Go.Proofs.YtlmlmhmhgdjhnaaGreatDoor
