/- Parts of this proof (own work). -/
import Derived.Test.YtpemeenfhkgmpaaGreatDoorZr28
set_option maxRecDepth 100000
set_option maxHeartbeats 40000000
namespace Go.Proofs.YtpemeenfhkgmpaaGreatDoor
open Go.RowKit Go.ChangeShapes Go.WideShapes
variable {w0 w w' W w3 : World} {B q : Nat} {m : StM} {gs : List AcG} {va vp : Value}
theorem refApply7 (Hs : GS tyD B q m gs va vp w) (ok : OkS m) (fn fs fr fe fp fq fo fd fa ft fh fc : Int) (fx : Nat) (hR : rightF (⟨7, fn, fs, fr, fe, fp, fq, fo, fd, fa, ft, fh, fc, fx⟩ : FX) = true) : Calls Tryz.prog 12 #[.pointer (some ⟨q, 0, none⟩), .agg #[.int .i64 7, fn, fs, fr, fe, fp, fq, fo, fd, fa, ft, fh, fc, .float .f64 fx]] w fun r w' => r = .returned (.int .i64 (applyQ m (⟨7, fn, fs, fr, fe, fp, fq, fo, fd, fa, ft, fh, fc, fx⟩ : FX)).1) ∧ ∃ gs' va' vp', GS tyD B q (applyQ m (⟨7, fn, fs, fr, fe, fp, fq, fo, fd, fa, ft, fh, fc, fx⟩ : FX)).2 gs' va' vp' w' ∧ Asd (Ow q gs va vp) (Ow q gs' va' vp') w w' := by
 obtain ⟨a0, c0, eva⟩ := Hs.vForm; obtain ⟨b0, d0, evp⟩ := Hs.pForm; obtain ⟨nd, nx, A, PL⟩ := m; obtain ⟨len, hl⟩ : ∃ x, gs.length = x := ⟨_, rfl⟩
 obtain ⟨np, hnp⟩ : ∃ x, PL.length = x := ⟨_, rfl⟩
 have hlA : A.length = len := by have := Hs.len; dsimp only at this; omega
 have l8 : len ≤ 8 := by have := ok.l8; dsimp only at this; omega
 have p8 : np ≤ 8 := by have := ok.p8; dsimp only at this; omega
 have e0 : w.cell? ⟨q, 0, none⟩ = some (.int .i64 nd) := cU (i := 0) Hs.row rfl; have e1 : w.cell? ⟨q, 1, none⟩ = some (.int .i64 nx) := cU (i := 1) Hs.row rfl; have e2 : w.cell? ⟨q, 2, none⟩ = some va := cU (i := 2) Hs.row rfl; have e3 : w.cell? ⟨q, 3, none⟩ = some vp := cU (i := 3) Hs.row rfl; dsimp only at evp; rw [eva, hl] at e2; rw [evp, hnp] at e3; have hkW := kA w (.cells #[.int .i64 7, fn, fs, fr, fe, fp, fq, fo, fd, fa, ft, fh, fc, .float .f64 fx] 42); have rW := (mH w (.cells #[.int .i64 7, fn, fs, fr, fe, fp, fq, fo, fd, fa, ft, fh, fc, .float .f64 fx] 42))
 obtain ⟨W, hW⟩ : ∃ W, w.alloc (.cells #[.int .i64 7, fn, fs, fr, fe, fp, fq, fo, fd, fa, ft, fh, fc, .float .f64 fx] 42) = W := ⟨_, rfl⟩
 rw [hW] at hkW rW; obtain ⟨f0, f1, f2, f3, f4, f5, f6, f7, f8, f9, f10, f11, f12, f13⟩ := cZ rW; have e0 := kZ hkW e0; have e1 := kZ hkW e1; have e2 := kZ hkW e2; have e3 := kZ hkW e3; have hwf : FX.wf (⟨7, fn, fs, fr, fe, fp, fq, fo, fd, fa, ft, fh, fc, fx⟩ : FX) := right_wf hR; have hri := fun w1 => refRight14_any (⟨7, fn, fs, fr, fe, fp, fq, fo, fd, fa, ft, fh, fc, fx⟩ : FX) hwf w1
 dsimp only [FX.cells] at hri; rw [hR] at hri; have HRI := hD hri; have HRR := hD hR; obtain ⟨L, hL⟩ : ∃ L : Int, (len : Int) = L := ⟨_, rfl⟩
 obtain ⟨NP, hNP⟩ : ∃ N : Int, (np : Int) = N := ⟨_, rfl⟩
 have HS := hD Hs; have OK := hD ok; have HL := hD hl; have HLA := hD hlA; have HNP := hD hnp; have HLL := hD hL; have HNN := hD hNP; have KW := hD hkW; have RW := hD rW; have EVA := hD eva; have EVP := hD evp; have L8 := hD (And.intro l8 p8); have hsf := sF; have hp0 : 0 ≤ fp := (by have := okF_of hR; simp [okF] at this; omega)
 by_cases h1 : fp < NP
 rotate_left
 ·have hno : PL[fp.toNat]? = none := List.getElem?_eq_none (by omega); have hdo : doS ⟨nd, nx, A, PL⟩ (⟨7, fn, fs, fr, fe, fp, fq, fo, fd, fa, ft, fh, fc, fx⟩ : FX) = none := by unfold doS; simp [hno]
  rw [aZ hR hdo]; have g1 : decide (fp ≥ NP) = true := dT (by omega); clear hdo hno h1 Hs ok hR hl hnp hlA l8 p8 hkW rW eva evp hwf hri; go_enter Tryz.func12, Tryz.ntmps12; go_wp2_with (go_at_call 29; (with_reducible refine (HRI.out _).mono ?_); rintro e' w1 ⟨rfl, hk1⟩; have K1 := hD hk1; have e0 := kZ hk1 e0; have e1 := kZ hk1 e1; have e2 := kZ hk1 e2; have e3 := kZ hk1 e3; have f0 := kZ hk1 f0; have f1 := kZ hk1 f1; have f2 := kZ hk1 f2; have f3 := kZ hk1 f3; have f4 := kZ hk1 f4; have f5 := kZ hk1 f5; have f6 := kZ hk1 f6; have f7 := kZ hk1 f7; have f8 := kZ hk1 f8; have f9 := kZ hk1 f9; have f10 := kZ hk1 f10; have f11 := kZ hk1 f11; have f12 := kZ hk1 f12; have f13 := kZ hk1 f13; clear hk1)
  go_region
  go_wp2; go_ret; exact ⟨rfl, gs, va, vp, HS.out.kp (kT KW.out (dQ K1.out)), Asd.of_kp _ (kT KW.out (dQ K1.out))⟩
 ·have g1 : decide (fp ≥ NP) = false := dF (by omega); have hpn : fp.toNat < PL.length := by omega
  obtain ⟨⟨yn, ys, yr, ⟨zp, ze, zt, zh⟩⟩, hx⟩ : ∃ x, PL[fp.toNat]? = some x := ⟨_, List.getElem?_eq_getElem hpn⟩
  obtain ⟨gp, ck, evp2, hck, hgpB, hgpl, hfzp, hcp⟩ := cQ (E := paE) Hs.op rfl hpn; have hcp2 : ∀ (i : Nat) (u : Value), i < paE.k → (paE.enc (PL[fp.toNat]'hpn))[i]? = some u → w.cell? ⟨gp, fp.toNat * paE.k + i, none⟩ = some u := hcp; rw [(List.getElem?_eq_some_iff.1 hx).2, show paE.k = 7 from rfl] at hcp2; have evp3 := evp2.symm.trans evp; injection evp3 with evp3 _ evp4
  subst evp3; have y2 := kZ hkW (hcp2 2 _ (by decide) rfl); have y3 := kZ hkW (hcp2 3 _ (by decide) rfl); have y4 := kZ hkW (hcp2 4 _ (by decide) rfl); have y5 := kZ hkW (hcp2 5 _ (by decide) rfl); have y6 := kZ hkW (hcp2 6 _ (by decide) rfl); have HZP := hD (show ∀ w', Kp w w' → ∀ j, w'.frozen? ⟨gp, j, none⟩ = false from fun w' h j => by rw [Below.frozen h hgpl]; exact hfzp j); have HX := hD hx; dsimp only at evp2; subst evp2
  by_cases h2 : 0 ≤ yr
  ·have hdo : doS ⟨nd, nx, A, PL⟩ (⟨7, fn, fs, fr, fe, fp, fq, fo, fd, fa, ft, fh, fc, fx⟩ : FX) = none := by unfold doS; simp [hx, h2]
   rw [aZ hR hdo]; have g2 : decide (yr ≥ 0) = true := dT h2; clear hdo h2 Hs ok hR hl hnp hlA l8 p8 hkW rW eva hwf hri hpn hx hck hgpB hgpl hfzp hcp hcp2 evp4; go_enter Tryz.func12, Tryz.ntmps12; go_wp2_with (go_at_call 29; (with_reducible refine (HRI.out _).mono ?_); rintro e' w1 ⟨rfl, hk1⟩; have K1 := hD hk1; have e0 := kZ hk1 e0; have e1 := kZ hk1 e1; have e2 := kZ hk1 e2; have e3 := kZ hk1 e3; have f0 := kZ hk1 f0; have f1 := kZ hk1 f1; have f2 := kZ hk1 f2; have f3 := kZ hk1 f3; have f4 := kZ hk1 f4; have f5 := kZ hk1 f5; have f6 := kZ hk1 f6; have f7 := kZ hk1 f7; have f8 := kZ hk1 f8; have f9 := kZ hk1 f9; have f10 := kZ hk1 f10; have f11 := kZ hk1 f11; have f12 := kZ hk1 f12; have f13 := kZ hk1 f13; have y2 := kZ hk1 y2; have y3 := kZ hk1 y3; have y4 := kZ hk1 y4; have y5 := kZ hk1 y5; have y6 := kZ hk1 y6; clear hk1)
   go_region
   go_wp2; go_ret; exact ⟨rfl, gs, va, _, HS.out.kp (kT KW.out (dQ K1.out)), Asd.of_kp _ (kT KW.out (dQ K1.out))⟩
  ·have hdo : doS ⟨nd, nx, A, PL⟩ (⟨7, fn, fs, fr, fe, fp, fq, fo, fd, fa, ft, fh, fc, fx⟩ : FX) = some ⟨nd, nx, A, PL.set fp.toNat ⟨yn, ys, fr, ⟨zp, ze, zt, zh⟩⟩⟩ := by unfold doS; simp [hx, h2]
   rw [aS hR hdo]; have g2 : decide (yr ≥ 0) = false := dF (by omega); clear hdo h2 Hs ok hR hl hnp hlA l8 p8 hkW rW eva hwf hri hpn hx hck hgpB hgpl hfzp hcp hcp2 evp4; go_enter Tryz.func12, Tryz.ntmps12; go_wp2_with (go_at_call 29; (with_reducible refine (HRI.out _).mono ?_); rintro e' w1 ⟨rfl, hk1⟩; have K1 := hD hk1; have e0 := kZ hk1 e0; have e1 := kZ hk1 e1; have e2 := kZ hk1 e2; have e3 := kZ hk1 e3; have f0 := kZ hk1 f0; have f1 := kZ hk1 f1; have f2 := kZ hk1 f2; have f3 := kZ hk1 f3; have f4 := kZ hk1 f4; have f5 := kZ hk1 f5; have f6 := kZ hk1 f6; have f7 := kZ hk1 f7; have f8 := kZ hk1 f8; have f9 := kZ hk1 f9; have f10 := kZ hk1 f10; have f11 := kZ hk1 f11; have f12 := kZ hk1 f12; have f13 := kZ hk1 f13; have y2 := kZ hk1 y2; have y3 := kZ hk1 y3; have y4 := kZ hk1 y4; have y5 := kZ hk1 y5; have y6 := kZ hk1 y6; clear hk1)
   go_region
   go_wp2_with fail
   obtain ⟨w2, hw2⟩ : ∃ x, w1.drew = x := ⟨_, rfl⟩
   have k2 : Kp w1 w2 := by rw [← hw2]; exact dQ (Kp.refl _)
   rw [hw2]; have e3 := kZ k2 e3; have f3 := kZ k2 f3; have f5 := kZ k2 f5; have y2 := kZ k2 y2; have z2 := HZP.out w2 (kT KW.out (kT K1.out k2)) (fp.toNat * 7 + 2); have K2 := hD (kT K1.out k2); clear k2 hw2; go_still_tail 8, (by kernel_rfl)
   change wpList _ _ _ _ _ w2.drew
   go_wp2; have FIN := (HS.out.kp (kT KW.out (dQ K2.out))).setP tyD_ok HX.out (i := 2) (x' := ⟨yn, ys, fr, ⟨zp, ze, zt, zh⟩⟩) (y := .int .i64 fr) (by decide) rfl; go_ret; exact ⟨rfl, gs, va, _, FIN.1, (Asd.of_kp _ (kT KW.out (dQ K2.out))).trans FIN.2⟩
theorem refApply8 (Hs : GS tyD B q m gs va vp w) (ok : OkS m) (fn fs fr fe fp fq fo fd fa ft fh fc : Int) (fx : Nat) (hR : rightF (⟨8, fn, fs, fr, fe, fp, fq, fo, fd, fa, ft, fh, fc, fx⟩ : FX) = true) : Calls Tryz.prog 12 #[.pointer (some ⟨q, 0, none⟩), .agg #[.int .i64 8, fn, fs, fr, fe, fp, fq, fo, fd, fa, ft, fh, fc, .float .f64 fx]] w fun r w' => r = .returned (.int .i64 (applyQ m (⟨8, fn, fs, fr, fe, fp, fq, fo, fd, fa, ft, fh, fc, fx⟩ : FX)).1) ∧ ∃ gs' va' vp', GS tyD B q (applyQ m (⟨8, fn, fs, fr, fe, fp, fq, fo, fd, fa, ft, fh, fc, fx⟩ : FX)).2 gs' va' vp' w' ∧ Asd (Ow q gs va vp) (Ow q gs' va' vp') w w' := by
 obtain ⟨a0, c0, eva⟩ := Hs.vForm; obtain ⟨b0, d0, evp⟩ := Hs.pForm; obtain ⟨nd, nx, A, PL⟩ := m; obtain ⟨len, hl⟩ : ∃ x, gs.length = x := ⟨_, rfl⟩
 obtain ⟨np, hnp⟩ : ∃ x, PL.length = x := ⟨_, rfl⟩
 have hlA : A.length = len := by have := Hs.len; dsimp only at this; omega
 have l8 : len ≤ 8 := by have := ok.l8; dsimp only at this; omega
 have p8 : np ≤ 8 := by have := ok.p8; dsimp only at this; omega
 have e0 : w.cell? ⟨q, 0, none⟩ = some (.int .i64 nd) := cU (i := 0) Hs.row rfl; have e1 : w.cell? ⟨q, 1, none⟩ = some (.int .i64 nx) := cU (i := 1) Hs.row rfl; have e2 : w.cell? ⟨q, 2, none⟩ = some va := cU (i := 2) Hs.row rfl; have e3 : w.cell? ⟨q, 3, none⟩ = some vp := cU (i := 3) Hs.row rfl; dsimp only at evp; rw [eva, hl] at e2; rw [evp, hnp] at e3; have hkW := kA w (.cells #[.int .i64 8, fn, fs, fr, fe, fp, fq, fo, fd, fa, ft, fh, fc, .float .f64 fx] 42); have rW := (mH w (.cells #[.int .i64 8, fn, fs, fr, fe, fp, fq, fo, fd, fa, ft, fh, fc, .float .f64 fx] 42))
 obtain ⟨W, hW⟩ : ∃ W, w.alloc (.cells #[.int .i64 8, fn, fs, fr, fe, fp, fq, fo, fd, fa, ft, fh, fc, .float .f64 fx] 42) = W := ⟨_, rfl⟩
 rw [hW] at hkW rW; obtain ⟨f0, f1, f2, f3, f4, f5, f6, f7, f8, f9, f10, f11, f12, f13⟩ := cZ rW; have e0 := kZ hkW e0; have e1 := kZ hkW e1; have e2 := kZ hkW e2; have e3 := kZ hkW e3; have hwf : FX.wf (⟨8, fn, fs, fr, fe, fp, fq, fo, fd, fa, ft, fh, fc, fx⟩ : FX) := right_wf hR; have hri := fun w1 => refRight14_any (⟨8, fn, fs, fr, fe, fp, fq, fo, fd, fa, ft, fh, fc, fx⟩ : FX) hwf w1
 dsimp only [FX.cells] at hri; rw [hR] at hri; have HRI := hD hri; have HRR := hD hR; obtain ⟨L, hL⟩ : ∃ L : Int, (len : Int) = L := ⟨_, rfl⟩
 obtain ⟨NP, hNP⟩ : ∃ N : Int, (np : Int) = N := ⟨_, rfl⟩
 have HS := hD Hs; have OK := hD ok; have HL := hD hl; have HLA := hD hlA; have HNP := hD hnp; have HLL := hD hL; have HNN := hD hNP; have KW := hD hkW; have RW := hD rW; have EVA := hD eva; have EVP := hD evp; have L8 := hD (And.intro l8 p8); have hsf := sF; have hp0 : 0 ≤ fp := (by have := okF_of hR; simp [okF] at this; omega)
 by_cases h1 : fp < NP
 rotate_left
 ·have hno : PL[fp.toNat]? = none := List.getElem?_eq_none (by omega); have hdo : doS ⟨nd, nx, A, PL⟩ (⟨8, fn, fs, fr, fe, fp, fq, fo, fd, fa, ft, fh, fc, fx⟩ : FX) = none := by unfold doS; simp [hno]
  rw [aZ hR hdo]; have g1 : decide (fp ≥ NP) = true := dT (by omega); clear hdo hno h1 Hs ok hR hl hnp hlA l8 p8 hkW rW eva evp hwf hri; go_enter Tryz.func12, Tryz.ntmps12; go_wp2_with (go_at_call 29; (with_reducible refine (HRI.out _).mono ?_); rintro e' w1 ⟨rfl, hk1⟩; have K1 := hD hk1; have e0 := kZ hk1 e0; have e1 := kZ hk1 e1; have e2 := kZ hk1 e2; have e3 := kZ hk1 e3; have f0 := kZ hk1 f0; have f1 := kZ hk1 f1; have f2 := kZ hk1 f2; have f3 := kZ hk1 f3; have f4 := kZ hk1 f4; have f5 := kZ hk1 f5; have f6 := kZ hk1 f6; have f7 := kZ hk1 f7; have f8 := kZ hk1 f8; have f9 := kZ hk1 f9; have f10 := kZ hk1 f10; have f11 := kZ hk1 f11; have f12 := kZ hk1 f12; have f13 := kZ hk1 f13; clear hk1)
  go_region
  go_wp2; go_ret; exact ⟨rfl, gs, va, vp, HS.out.kp (kT KW.out (dQ K1.out)), Asd.of_kp _ (kT KW.out (dQ K1.out))⟩
 ·have g1 : decide (fp ≥ NP) = false := dF (by omega); have hpn : fp.toNat < PL.length := by omega
  obtain ⟨⟨yn, ys, yr, ⟨zp, ze, zt, zh⟩⟩, hx⟩ : ∃ x, PL[fp.toNat]? = some x := ⟨_, List.getElem?_eq_getElem hpn⟩
  obtain ⟨gp, ck, evp2, hck, hgpB, hgpl, hfzp, hcp⟩ := cQ (E := paE) Hs.op rfl hpn; have hcp2 : ∀ (i : Nat) (u : Value), i < paE.k → (paE.enc (PL[fp.toNat]'hpn))[i]? = some u → w.cell? ⟨gp, fp.toNat * paE.k + i, none⟩ = some u := hcp; rw [(List.getElem?_eq_some_iff.1 hx).2, show paE.k = 7 from rfl] at hcp2; have evp3 := evp2.symm.trans evp; injection evp3 with evp3 _ evp4
  subst evp3; have y2 := kZ hkW (hcp2 2 _ (by decide) rfl); have y3 := kZ hkW (hcp2 3 _ (by decide) rfl); have y4 := kZ hkW (hcp2 4 _ (by decide) rfl); have y5 := kZ hkW (hcp2 5 _ (by decide) rfl); have y6 := kZ hkW (hcp2 6 _ (by decide) rfl); have HZP := hD (show ∀ w', Kp w w' → ∀ j, w'.frozen? ⟨gp, j, none⟩ = false from fun w' h j => by rw [Below.frozen h hgpl]; exact hfzp j); have HX := hD hx; dsimp only at evp2; subst evp2; have HT := hD (fun w1 : World => refTurned15 ⟨zp, ze, zt, zh⟩ (⟨8, fn, fs, fr, fe, fp, fq, fo, fd, fa, ft, fh, fc, fx⟩ : FX) w1); dsimp only [seatV, FX.cells] at HT; have hdo : doS ⟨nd, nx, A, PL⟩ (⟨8, fn, fs, fr, fe, fp, fq, fo, fd, fa, ft, fh, fc, fx⟩ : FX) = if turnOk ⟨zp, ze, zt, zh⟩ ft fh = true then some ⟨nd, nx, A, PL.set fp.toNat ⟨yn, ys, yr, ⟨zp, ze, ft, fh⟩⟩⟩ else none := by
   unfold doS; dsimp only; rw [if_neg (by decide), if_neg (by decide), if_neg (by decide), if_pos rfl, hx]; dsimp only; rw [turnS_eq]
   by_cases ht : turnOk ⟨zp, ze, zt, zh⟩ ft fh = true
   ·rw [if_pos ht, if_pos ht]
    rfl
   ·rw [if_neg ht, if_neg ht]
    rfl
  obtain ⟨tk, htk⟩ : ∃ b, turnOk ⟨zp, ze, zt, zh⟩ ft fh = b := ⟨_, rfl⟩
  rw [htk] at HT hdo; have hap : applyQ ⟨nd, nx, A, PL⟩ (⟨8, fn, fs, fr, fe, fp, fq, fo, fd, fa, ft, fh, fc, fx⟩ : FX) = if tk = true then (0, ⟨nd, nx, A, PL.set fp.toNat ⟨yn, ys, yr, ⟨zp, ze, ft, fh⟩⟩⟩) else (9, ⟨nd, nx, A, PL⟩) := by
   cases tk with
   | false => exact aZ hR hdo
   | true => exact aS hR hdo
  rw [hap]; clear hap hdo htk Hs ok hR hl hnp hlA l8 p8 hkW rW eva hwf hri hpn hx hck hgpB hgpl hfzp hcp hcp2 evp4; go_enter Tryz.func12, Tryz.ntmps12; go_wp2_with (go_at_call 29; (with_reducible refine (HRI.out _).mono ?_); rintro e' w1 ⟨rfl, hk1⟩; have K1 := hD hk1; have e0 := kZ hk1 e0; have e1 := kZ hk1 e1; have e2 := kZ hk1 e2; have e3 := kZ hk1 e3; have f0 := kZ hk1 f0; have f1 := kZ hk1 f1; have f2 := kZ hk1 f2; have f3 := kZ hk1 f3; have f4 := kZ hk1 f4; have f5 := kZ hk1 f5; have f6 := kZ hk1 f6; have f7 := kZ hk1 f7; have f8 := kZ hk1 f8; have f9 := kZ hk1 f9; have f10 := kZ hk1 f10; have f11 := kZ hk1 f11; have f12 := kZ hk1 f12; have f13 := kZ hk1 f13; have y2 := kZ hk1 y2; have y3 := kZ hk1 y3; have y4 := kZ hk1 y4; have y5 := kZ hk1 y5; have y6 := kZ hk1 y6; clear hk1)
  go_region
  go_wp2_with fail
  obtain ⟨WD, hWD⟩ : ∃ x, w1.drew.drew = x := ⟨_, rfl⟩
  have kD : Kp w1 WD := by rw [← hWD]; exact dQ (dQ (Kp.refl w1))
  have HWD := hD hWD; clear hWD; refine wp_region_held_drew (S := fun w' => Kp w1 w') (by kernel_rfl) ?_ (fun hH => ?_)
  ·exact by rw [HWD.out]; exact kD
  rw [HWD.out] at hH ⊢; have hDD : Kp w1 WD := hH; refine tkW ?_ 0 ?_ ?_; rotate_left
  ·intro w hZ; go_simp; try rfl
  go_simp; refine tkW ?_ 1 ?_ ?_; rotate_left
  ·intro w hZ; go_simp; try rfl
  go_simp; refine tkW ?_ 2 ?_ ?_; rotate_left
  ·intro w hZ; go_simp; try rfl
  go_simp; refine tkW ?_ 3 ?_ ?_; rotate_left
  ·intro w hZ; have g7 := kZ hZ e3; go_simp; try rfl
  go_simp; refine tkW ?_ 4 ?_ ?_; rotate_left
  ·intro w hZ; go_simp; try rfl
  go_simp; refine tkW ?_ 5 ?_ ?_; rotate_left
  ·intro w hZ; have gf := kZ hZ f5; go_simp; try rfl
  go_simp; refine tkW ?_ 6 ?_ ?_; rotate_left
  ·intro w hZ; go_simp; try rfl
  go_simp; refine tkW ?_ 7 ?_ ?_; rotate_left
  ·intro w hZ; go_simp; try rfl
  go_simp; refine tkW ?_ 8 ?_ ?_; rotate_left
  ·intro w hZ; have a3 := kZ hZ y3; have a4 := kZ hZ y4; have a5 := kZ hZ y5; have a6 := kZ hZ y6; go_simp; try rfl
  go_simp; refine tkW ?_ 9 ?_ ?_; rotate_left
  ·intro w hZ; have a0 := kZ hZ f0; have a1 := kZ hZ f1; have a2 := kZ hZ f2; have a3 := kZ hZ f3; have a4 := kZ hZ f4; have a5 := kZ hZ f5; have a6 := kZ hZ f6; have a7 := kZ hZ f7; have a8 := kZ hZ f8; have a9 := kZ hZ f9; have a10 := kZ hZ f10; have a11 := kZ hZ f11; have a12 := kZ hZ f12; have a13 := kZ hZ f13; go_simp; try rfl
  go_simp; refine wpAnyH_ready (rs := [10, 14]) (by kernel_rfl) (by simp) ?_
  refine AllReadyH.cons rfl (fun K hK => ?_) (AllReadyH.cons rfl (fun K hK => ?_) AllReadyH.nil)
  ·go_simp; go_wp2_with (go_at_call 31; (with_reducible refine (HT.out _).mono ?_); rintro e' w5 ⟨rfl, hk5⟩)
   refine hK.out _ _ ?_ (fun hH => ?_)
   ·exact kT hH hk5
   clear hK K; have h55 : Kp w1 w5 := hH; refine tkW ?_ 11 ?_ ?_; rotate_left
   ·intro w hZ; go_simp; try rfl
   go_simp; refine tkW ?_ 12 ?_ ?_; rotate_left
   ·intro w hZ; go_simp; try rfl
   go_simp; refine tkW ?_ 13 ?_ ?_; rotate_left
   ·intro w hZ; go_simp; try rfl
   go_simp; refine rdW 14 fun K hK => ?_
   go_simp; refine hK.out _ _ ?_ (fun hH => ?_)
   ·exact kT hH (kA _ _)
   clear hK K; obtain ⟨Y14, hY14⟩ : ∃ x, w5.alloc (.cells #[.int .i64 0, .int .i64 0, .int .i64 0, .int .i64 0] 90) = x := ⟨_, rfl⟩
   have r14 : Y14.heap[w5.heap.size]? = some (.cells #[.int .i64 0, .int .i64 0, .int .i64 0, .int .i64 0] 90) := by rw [← hY14]; exact (mH w5 (.cells #[.int .i64 0, .int .i64 0, .int .i64 0, .int .i64 0] 90))
   have b14 : w1.heap.size ≤ w5.heap.size := kS (show Kp w1 w5 from by assumption); obtain ⟨p14, hp14⟩ : ∃ x, w5.heap.size = x := ⟨_, rfl⟩
   rw [hp14] at r14 b14; rw [hY14] at hH ⊢
   try rw [hp14]
   clear hY14 hp14; have hYY : Kp w1 Y14 := hH; refine rdW 15 fun K hK => ?_
   obtain ⟨v0, v1, v2, v3⟩ := cells_4 r14; have fz5 := fQ r14; go_simp; refine hK.out _ _ ?_ (fun hH => ?_)
   ·exact set_4_kp hH b14 _ _ _ _
   clear hK K; obtain ⟨w6, hw6⟩ : ∃ x, (((Y14.setCell ⟨p14, 0, none⟩ (.int .i64 zp)).setCell ⟨p14, 1, none⟩ (.int .i64 ze)).setCell ⟨p14, 2, none⟩ (.int .i64 ft)).setCell ⟨p14, 3, none⟩ (.int .i64 fh) = x := ⟨_, rfl⟩
   have r10 : w6.heap[p14]? = some (.cells #[zp, ze, ft, fh] 90) := by rw [← hw6]; exact set_4 _ _ _ _ r14
   rw [hw6] at hH ⊢; have kw6 : Kp w1 w6 := hH; clear hw6 v0 v1 v2 v3 fz5; refine tkW ?_ 16 ?_ ?_; rotate_left
   ·intro w hZ; go_simp; try rfl
   go_simp; refine wpAnyH_done (by kernel_rfl) ?_ _
   have g0 := kZ kw6 e3; have gf := kZ kw6 f5; have h3 := kZ kw6 y3; have h4 := kZ kw6 y4; have h5 := kZ kw6 y5; have h6 := kZ kw6 y6; obtain ⟨s0, s1, s2, s3⟩ := cells_4 r10; have zz := HZP.out w6 (kT KW.out (kT K1.out kw6)); have KW6 := hD (kT KW.out (kT K1.out kw6))
   cases tk with
   | false =>
    clear kw6 hH; go_wp2; go_ret; exact ⟨rfl, gs, va, _, HS.out.kp KW6.out, Asd.of_kp _ KW6.out⟩
   | true =>
    clear kw6 hH; go_wp2_with fail
    go_still_tail 7, (by kernel_rfl)
    change wpList _ _ _ _ _ w6.drew
    go_wp2; have FIN := (HS.out.kp KW6.out.drew).seatP tyD_ok HX.out ⟨zp, ze, ft, fh⟩; go_ret; exact ⟨rfl, gs, va, _, FIN.1, (Asd.of_kp _ KW6.out.drew).trans FIN.2⟩
  ·go_simp; refine hK.out _ _ ?_ (fun hH => ?_)
   ·exact kT hH (kA _ _)
   clear hK K; obtain ⟨Y14, hY14⟩ : ∃ x, WD.alloc (.cells #[.int .i64 0, .int .i64 0, .int .i64 0, .int .i64 0] 90) = x := ⟨_, rfl⟩
   have r14 : Y14.heap[WD.heap.size]? = some (.cells #[.int .i64 0, .int .i64 0, .int .i64 0, .int .i64 0] 90) := by rw [← hY14]; exact (mH WD (.cells #[.int .i64 0, .int .i64 0, .int .i64 0, .int .i64 0] 90))
   have b14 : w1.heap.size ≤ WD.heap.size := kS (show Kp w1 WD from by assumption); obtain ⟨p14, hp14⟩ : ∃ x, WD.heap.size = x := ⟨_, rfl⟩
   rw [hp14] at r14 b14; rw [hY14] at hH ⊢
   try rw [hp14]
   clear hY14 hp14; have hYY : Kp w1 Y14 := hH; refine rdW 10 fun K hK => ?_
   go_simp; go_wp2_with (go_at_call 31; (with_reducible refine (HT.out _).mono ?_); rintro e' w5 ⟨rfl, hk5⟩)
   refine hK.out _ _ ?_ (fun hH => ?_)
   ·exact kT hH hk5
   clear hK K; have h55 : Kp w1 w5 := hH; have r14 := rZ hk5 r14; refine tkW ?_ 11 ?_ ?_; rotate_left
   ·intro w hZ; go_simp; try rfl
   go_simp; refine tkW ?_ 12 ?_ ?_; rotate_left
   ·intro w hZ; go_simp; try rfl
   go_simp; refine tkW ?_ 13 ?_ ?_; rotate_left
   ·intro w hZ; go_simp; try rfl
   go_simp; refine rdW 15 fun K hK => ?_
   obtain ⟨v0, v1, v2, v3⟩ := cells_4 r14; have fz5 := fQ r14; go_simp; refine hK.out _ _ ?_ (fun hH => ?_)
   ·exact set_4_kp hH b14 _ _ _ _
   clear hK K; obtain ⟨w6, hw6⟩ : ∃ x, (((w5.setCell ⟨p14, 0, none⟩ (.int .i64 zp)).setCell ⟨p14, 1, none⟩ (.int .i64 ze)).setCell ⟨p14, 2, none⟩ (.int .i64 ft)).setCell ⟨p14, 3, none⟩ (.int .i64 fh) = x := ⟨_, rfl⟩
   have r10 : w6.heap[p14]? = some (.cells #[zp, ze, ft, fh] 90) := by rw [← hw6]; exact set_4 _ _ _ _ r14
   rw [hw6] at hH ⊢; have kw6 : Kp w1 w6 := hH; clear hw6 v0 v1 v2 v3 fz5; refine tkW ?_ 16 ?_ ?_; rotate_left
   ·intro w hZ; go_simp; try rfl
   go_simp; refine wpAnyH_done (by kernel_rfl) ?_ _
   have g0 := kZ kw6 e3; have gf := kZ kw6 f5; have h3 := kZ kw6 y3; have h4 := kZ kw6 y4; have h5 := kZ kw6 y5; have h6 := kZ kw6 y6; obtain ⟨s0, s1, s2, s3⟩ := cells_4 r10; have zz := HZP.out w6 (kT KW.out (kT K1.out kw6)); have KW6 := hD (kT KW.out (kT K1.out kw6))
   cases tk with
   | false =>
    clear kw6 hH; go_wp2; go_ret; exact ⟨rfl, gs, va, _, HS.out.kp KW6.out, Asd.of_kp _ KW6.out⟩
   | true =>
    clear kw6 hH; go_wp2_with fail
    go_still_tail 7, (by kernel_rfl)
    change wpList _ _ _ _ _ w6.drew
    go_wp2; have FIN := (HS.out.kp KW6.out.drew).seatP tyD_ok HX.out ⟨zp, ze, ft, fh⟩; go_ret; exact ⟨rfl, gs, va, _, FIN.1, (Asd.of_kp _ KW6.out.drew).trans FIN.2⟩
theorem info_ptD0 : (Tryz.prog.info? 92).map (fun i => (i.zero, i.size, i.bytes)) = some (some (.agg #[.int .i64 0, .int .i64 0, .int .i64 0, .int .i64 0, .int .i64 0, .int .i64 0, .int .i64 0]), 7, 56) := by kernel_rfl
theorem info_ptD : ∃ i0, Tryz.prog.info? 92 = some i0 ∧ i0.zero = some (.agg #[.int .i64 0, .int .i64 0, .int .i64 0, .int .i64 0, .int .i64 0, .int .i64 0, .int .i64 0]) ∧ i0.size = 7 ∧ i0.bytes = 56 := by
 have h := info_ptD0
 cases g : Tryz.prog.info? 92 with
 | none => rw [g] at h; cases h
 | some i0 =>
  rw [g] at h; simp only [Option.map_some, Option.some.injEq, Prod.mk.injEq] at h
  exact ⟨i0, rfl, h.1, h.2.1, h.2.2⟩
theorem ty_ptD : TyG Tryz.prog 32 92 7 (.agg #[.int .i64 0, .int .i64 0, .int .i64 0, .int .i64 0, .int .i64 0, .int .i64 0, .int .i64 0]) 56 := ⟨Tryz.underlying32, info_ptD, rfl, by decide⟩
theorem refApply6 (Hs : GS tyD B q m gs va vp w) (ok : OkS m) (fn fs fr fe fp fq fo fd fa ft fh fc : Int) (fx : Nat) (hR : rightF (⟨6, fn, fs, fr, fe, fp, fq, fo, fd, fa, ft, fh, fc, fx⟩ : FX) = true) : Calls Tryz.prog 12 #[.pointer (some ⟨q, 0, none⟩), .agg #[.int .i64 6, fn, fs, fr, fe, fp, fq, fo, fd, fa, ft, fh, fc, .float .f64 fx]] w fun r w' => r = .returned (.int .i64 (applyQ m (⟨6, fn, fs, fr, fe, fp, fq, fo, fd, fa, ft, fh, fc, fx⟩ : FX)).1) ∧ ∃ gs' va' vp', GS tyD B q (applyQ m (⟨6, fn, fs, fr, fe, fp, fq, fo, fd, fa, ft, fh, fc, fx⟩ : FX)).2 gs' va' vp' w' ∧ Asd (Ow q gs va vp) (Ow q gs' va' vp') w w' := by
 obtain ⟨a0, c0, eva⟩ := Hs.vForm; obtain ⟨b0, d0, evp⟩ := Hs.pForm; obtain ⟨nd, nx, A, PL⟩ := m; obtain ⟨len, hl⟩ : ∃ x, gs.length = x := ⟨_, rfl⟩
 obtain ⟨np, hnp⟩ : ∃ x, PL.length = x := ⟨_, rfl⟩
 have hlA : A.length = len := by have := Hs.len; dsimp only at this; omega
 have l8 : len ≤ 8 := by have := ok.l8; dsimp only at this; omega
 have p8 : np ≤ 8 := by have := ok.p8; dsimp only at this; omega
 have e0 : w.cell? ⟨q, 0, none⟩ = some (.int .i64 nd) := cU (i := 0) Hs.row rfl; have e1 : w.cell? ⟨q, 1, none⟩ = some (.int .i64 nx) := cU (i := 1) Hs.row rfl; have e2 : w.cell? ⟨q, 2, none⟩ = some va := cU (i := 2) Hs.row rfl; have e3 : w.cell? ⟨q, 3, none⟩ = some vp := cU (i := 3) Hs.row rfl; dsimp only at evp; rw [eva, hl] at e2; rw [evp, hnp] at e3; have hkW := kA w (.cells #[.int .i64 6, fn, fs, fr, fe, fp, fq, fo, fd, fa, ft, fh, fc, .float .f64 fx] 42); have rW := (mH w (.cells #[.int .i64 6, fn, fs, fr, fe, fp, fq, fo, fd, fa, ft, fh, fc, .float .f64 fx] 42))
 obtain ⟨W, hW⟩ : ∃ W, w.alloc (.cells #[.int .i64 6, fn, fs, fr, fe, fp, fq, fo, fd, fa, ft, fh, fc, .float .f64 fx] 42) = W := ⟨_, rfl⟩
 rw [hW] at hkW rW; obtain ⟨f0, f1, f2, f3, f4, f5, f6, f7, f8, f9, f10, f11, f12, f13⟩ := cZ rW; have e0 := kZ hkW e0; have e1 := kZ hkW e1; have e2 := kZ hkW e2; have e3 := kZ hkW e3; have hwf : FX.wf (⟨6, fn, fs, fr, fe, fp, fq, fo, fd, fa, ft, fh, fc, fx⟩ : FX) := right_wf hR; have hri := fun w1 => refRight14_any (⟨6, fn, fs, fr, fe, fp, fq, fo, fd, fa, ft, fh, fc, fx⟩ : FX) hwf w1
 dsimp only [FX.cells] at hri; rw [hR] at hri; have HRI := hD hri; have HRR := hD hR; obtain ⟨L, hL⟩ : ∃ L : Int, (len : Int) = L := ⟨_, rfl⟩
 obtain ⟨NP, hNP⟩ : ∃ N : Int, (np : Int) = N := ⟨_, rfl⟩
 have HS := hD Hs; have OK := hD ok; have HL := hD hl; have HLA := hD hlA; have HNP := hD hnp; have HLL := hD hL; have HNN := hD hNP; have KW := hD hkW; have RW := hD rW; have EVA := hD eva; have EVP := hD evp; have L8 := hD (And.intro l8 p8); have hsf := sF; have hO : w.ownsRow B 92 7 (.slice b0 np d0) np (paE.row PL) := by have := Hs.op; rw [evp] at this; dsimp only at this; rw [hnp] at this; exact this
 have OP := hD hO; clear hO
 by_cases h1 : fp = NP
 rotate_left
 ·have hdo : doS ⟨nd, nx, A, PL⟩ (⟨6, fn, fs, fr, fe, fp, fq, fo, fd, fa, ft, fh, fc, fx⟩ : FX) = none := by unfold doS; dsimp only; rw [if_neg (by decide), if_pos rfl, if_pos (by omega)]
  rw [aZ hR hdo]; have g1 : (fp == NP) = false := by simpa using h1
  have g2 : (fp != NP) = true := by simp [h1]
  clear hdo h1 Hs ok hR hl hnp hlA l8 p8 hkW rW eva evp hwf hri; go_enter Tryz.func12, Tryz.ntmps12; go_wp2_with (go_at_call 29; (with_reducible refine (HRI.out _).mono ?_); rintro e' w1 ⟨rfl, hk1⟩; have K1 := hD hk1; have e0 := kZ hk1 e0; have e1 := kZ hk1 e1; have e2 := kZ hk1 e2; have e3 := kZ hk1 e3; have f0 := kZ hk1 f0; have f1 := kZ hk1 f1; have f2 := kZ hk1 f2; have f3 := kZ hk1 f3; have f4 := kZ hk1 f4; have f5 := kZ hk1 f5; have f6 := kZ hk1 f6; have f7 := kZ hk1 f7; have f8 := kZ hk1 f8; have f9 := kZ hk1 f9; have f10 := kZ hk1 f10; have f11 := kZ hk1 f11; have f12 := kZ hk1 f12; have f13 := kZ hk1 f13; clear hk1)
  go_region
  go_wp2; go_ret; exact ⟨rfl, gs, va, vp, HS.out.kp (kT KW.out (dQ K1.out)), Asd.of_kp _ (kT KW.out (dQ K1.out))⟩
 ·have hdo : doS ⟨nd, nx, A, PL⟩ (⟨6, fn, fs, fr, fe, fp, fq, fo, fd, fa, ft, fh, fc, fx⟩ : FX) = some ⟨nd, nx, A, PL ++ [(⟨fn, fs, -1, ⟨fq, 2, 1, 0⟩⟩ : PaM)]⟩ := by unfold doS; dsimp only; rw [if_neg (by decide), if_pos rfl, if_neg (by omega)]
  rw [aS hR hdo]; subst h1; clear hdo Hs ok hR hl hnp hlA l8 p8 hkW rW eva evp hwf hri; go_enter Tryz.func12, Tryz.ntmps12; go_wp2_with (go_at_call 29; (with_reducible refine (HRI.out _).mono ?_); rintro e' w1 ⟨rfl, hk1⟩; have K1 := hD hk1; have e0 := kZ hk1 e0; have e1 := kZ hk1 e1; have e2 := kZ hk1 e2; have e3 := kZ hk1 e3; have f0 := kZ hk1 f0; have f1 := kZ hk1 f1; have f2 := kZ hk1 f2; have f3 := kZ hk1 f3; have f4 := kZ hk1 f4; have f5 := kZ hk1 f5; have f6 := kZ hk1 f6; have f7 := kZ hk1 f7; have f8 := kZ hk1 f8; have f9 := kZ hk1 f9; have f10 := kZ hk1 f10; have f11 := kZ hk1 f11; have f12 := kZ hk1 f12; have f13 := kZ hk1 f13; clear hk1)
  go_region
  go_wp2_with fail
  obtain ⟨WR, hWR⟩ : ∃ x, w1.drew.drew = x := ⟨_, rfl⟩
  have kR : Kp w1 WR := by rw [← hWR]; exact dQ (dQ (Kp.refl w1))
  have HWR := hD hWR; clear hWR; refine wp_region_held_drew (S := fun w' => w'.heap[w.heap.size]? = some (.cells #[.int .i64 6, fn, fs, fr, fe, fp, fq, fo, fd, fa, ft, fh, fc, .float .f64 fx] 42)) (by kernel_rfl) ?_ (fun hH => ?_)
  ·exact by rw [HWR.out]; exact rZ kR (rZ K1.out RW.out)
  rw [HWR.out] at hH ⊢; refine tkW ?_ 0 ?_ ?_; rotate_left
  ·intro w hZ; go_simp; try rfl
  go_simp; refine tkW ?_ 1 ?_ ?_; rotate_left
  ·intro w hZ; go_simp; try rfl
  go_simp; refine tkW ?_ 2 ?_ ?_; rotate_left
  ·intro w hZ; go_simp; try rfl
  go_simp; refine tkW ?_ 3 ?_ ?_; rotate_left
  ·intro w hZ; go_simp; try rfl
  go_simp; refine tkW ?_ 5 ?_ ?_; rotate_left
  ·intro w hZ; go_simp; try rfl
  go_simp; refine tkW ?_ 6 ?_ ?_; rotate_left
  ·intro w hZ; obtain ⟨a0, a1, a2, a3, a4, a5, a6, a7, a8, a9, a10, a11, a12, a13⟩ := cZ hZ; go_simp; try rfl
  go_simp; refine tkW ?_ 7 ?_ ?_; rotate_left
  ·intro w hZ; go_simp; try rfl
  go_simp; refine tkW ?_ 8 ?_ ?_; rotate_left
  ·intro w hZ; obtain ⟨a0, a1, a2, a3, a4, a5, a6, a7, a8, a9, a10, a11, a12, a13⟩ := cZ hZ; go_simp; try rfl
  go_simp; refine tkW ?_ 9 ?_ ?_; rotate_left
  ·intro w hZ; go_simp; try rfl
  go_simp; refine tkW ?_ 10 ?_ ?_; rotate_left
  ·intro w hZ; go_simp; try rfl
  go_simp; refine wpAnyH_ready (rs := [4, 11]) (by kernel_rfl) (by simp) ?_
  refine AllReadyH.cons rfl (fun K hK => ?_) (AllReadyH.cons rfl (fun K hK => ?_) AllReadyH.nil)
  ·have g3 := kZ kR e3; go_simp; refine hK.out _ _ ?_ (fun hH => ?_)
   ·exact hH
   clear hK K; refine rdW 11 fun K hK => ?_
   go_simp; refine hK.out _ _ ?_ (fun hH => ?_)
   ·exact rZ (kA _ _) hH
   clear hK K; obtain ⟨Y11, hY11⟩ : ∃ x, WR.alloc (.cells #[fn, fs, .int .i64 (-1), fq, .int .i64 2, .int .i64 1, .int .i64 0] 92) = x := ⟨_, rfl⟩
   have c11 : Kp WR Y11 := by rw [← hY11]; exact kA _ _
   have r11 : Y11.heap[WR.heap.size]? = some (.cells #[fn, fs, .int .i64 (-1), fq, .int .i64 2, .int .i64 1, .int .i64 0] 92) := by rw [← hY11]; exact (mH WR _)
   obtain ⟨p11, hp11⟩ : ∃ x, WR.heap.size = x := ⟨_, rfl⟩
   have k11 := kT kR c11; rw [hp11] at r11; rw [hY11] at hH ⊢
   try rw [hp11]
   clear hY11 hp11 c11; refine wpAnyH_ready (rs := [12]) (by kernel_rfl) (by simp) ?_
   refine AllReadyH.consLG rfl (fun K hK => ?_) AllReadyH.nil
   have P2 : PartG paE (.slice (some ⟨p11, 0, none⟩) 1 1) [(⟨fn, fs, -1, ⟨fq, 2, 1, 0⟩⟩ : PaM)] Y11 := pG r11 rfl; have OX := oK OP.out (kT KW.out (kT K1.out k11)); go_simp; refine aG (E := paE) ty_ptD (by decide) _ rfl _ _ rfl B _ _ PL rfl OX _ _ rfl P2 ?f3 ?f4 ?_
   case f3 => have := L8.out; simp; omega
   case f4 => have := HS.out.bq; have := oZ HS.out.row; have := kS (kT KW.out (kT K1.out k11)); omega
   rintro v12 Y12 o12 hg hb; obtain ⟨a12, c12, rfl⟩ := fG o12; have nb : ∀ b, w.heap.size ≤ b → some b ≠ (Value.slice b0 np d0).ownBlock := fun b hb e => by have := (OP.out.lt b e.symm).2; omega
   refine hK.out _ _ ?_ (fun hH => ?_)
   ·exact (hg.block _ (oZ hH) (nb _ (Nat.le_refl _))).trans hH
   clear hK K; have RF := HS.out.repP tyD_ok (kT KW.out (kT K1.out k11)) (w3 := Y12) (by rw [EVP.out, HNP.out]; exact hg) (L := np + 1) (ps := PL ++ [(⟨fn, fs, -1, ⟨fq, 2, 1, 0⟩⟩ : PaM)]) (by rw [List.length_append, HNP.out]; rfl) o12 (fun b e => by rw [EVP.out, HNP.out]; exact (hb b e).imp id (fun e => by have := kS (kT KW.out (kT K1.out k11)); omega)); have rq : Y12.heap[q]? = _ := (hg.block q (oZ (rZ (kT KW.out (kT K1.out k11)) HS.out.row)) (fun e => HS.out.qp tyD_ok (by rw [EVP.out, HNP.out]; exact e.symm))).trans (rZ (kT KW.out (kT K1.out k11)) HS.out.row); have RFH := hD RF; clear RF hg hb P2 OX nb; refine tkW ?_ 13 ?_ ?_; rotate_left
   ·intro w hZ; go_simp; try rfl
   go_simp; refine tkW ?_ 14 ?_ ?_; rotate_left
   ·intro w hZ; go_simp; try rfl
   go_simp; refine rdW 15 fun K hK => ?_
   have q12 : Y12.cell? ⟨q, 3, none⟩ = some vp := cU (i := 3) rq rfl; have z12 := fQ rq 3; go_simp; refine hK.out _ _ ?_ (fun hH => ?_)
   ·exact (bS _ _ _ _ (fun e => by have := oZ HS.out.row; dsimp only at e; omega)).trans hH
   clear hK K; refine wpAnyH_done (by kernel_rfl) ?_ _
   go_wp2; go_ret; exact ⟨rfl, gs, va, _, RFH.out.1, RFH.out.2⟩
  ·go_simp; refine hK.out _ _ ?_ (fun hH => ?_)
   ·exact rZ (kA _ _) hH
   clear hK K; obtain ⟨Y11, hY11⟩ : ∃ x, WR.alloc (.cells #[fn, fs, .int .i64 (-1), fq, .int .i64 2, .int .i64 1, .int .i64 0] 92) = x := ⟨_, rfl⟩
   have c11 : Kp WR Y11 := by rw [← hY11]; exact kA _ _
   have r11 : Y11.heap[WR.heap.size]? = some (.cells #[fn, fs, .int .i64 (-1), fq, .int .i64 2, .int .i64 1, .int .i64 0] 92) := by rw [← hY11]; exact (mH WR _)
   obtain ⟨p11, hp11⟩ : ∃ x, WR.heap.size = x := ⟨_, rfl⟩
   have k11 := kT kR c11; rw [hp11] at r11; rw [hY11] at hH ⊢
   try rw [hp11]
   clear hY11 hp11 c11; refine rdW 4 fun K hK => ?_
   have g3 := kZ k11 e3; go_simp; refine hK.out _ _ ?_ (fun hH => ?_)
   ·exact hH
   clear hK K; refine wpAnyH_ready (rs := [12]) (by kernel_rfl) (by simp) ?_
   refine AllReadyH.consLG rfl (fun K hK => ?_) AllReadyH.nil
   have P2 : PartG paE (.slice (some ⟨p11, 0, none⟩) 1 1) [(⟨fn, fs, -1, ⟨fq, 2, 1, 0⟩⟩ : PaM)] Y11 := pG r11 rfl; have OX := oK OP.out (kT KW.out (kT K1.out k11)); go_simp; refine aG (E := paE) ty_ptD (by decide) _ rfl _ _ rfl B _ _ PL rfl OX _ _ rfl P2 ?f3 ?f4 ?_
   case f3 => have := L8.out; simp; omega
   case f4 => have := HS.out.bq; have := oZ HS.out.row; have := kS (kT KW.out (kT K1.out k11)); omega
   rintro v12 Y12 o12 hg hb; obtain ⟨a12, c12, rfl⟩ := fG o12; have nb : ∀ b, w.heap.size ≤ b → some b ≠ (Value.slice b0 np d0).ownBlock := fun b hb e => by have := (OP.out.lt b e.symm).2; omega
   refine hK.out _ _ ?_ (fun hH => ?_)
   ·exact (hg.block _ (oZ hH) (nb _ (Nat.le_refl _))).trans hH
   clear hK K; have RF := HS.out.repP tyD_ok (kT KW.out (kT K1.out k11)) (w3 := Y12) (by rw [EVP.out, HNP.out]; exact hg) (L := np + 1) (ps := PL ++ [(⟨fn, fs, -1, ⟨fq, 2, 1, 0⟩⟩ : PaM)]) (by rw [List.length_append, HNP.out]; rfl) o12 (fun b e => by rw [EVP.out, HNP.out]; exact (hb b e).imp id (fun e => by have := kS (kT KW.out (kT K1.out k11)); omega)); have rq : Y12.heap[q]? = _ := (hg.block q (oZ (rZ (kT KW.out (kT K1.out k11)) HS.out.row)) (fun e => HS.out.qp tyD_ok (by rw [EVP.out, HNP.out]; exact e.symm))).trans (rZ (kT KW.out (kT K1.out k11)) HS.out.row); have RFH := hD RF; clear RF hg hb P2 OX nb; refine tkW ?_ 13 ?_ ?_; rotate_left
   ·intro w hZ; go_simp; try rfl
   go_simp; refine tkW ?_ 14 ?_ ?_; rotate_left
   ·intro w hZ; go_simp; try rfl
   go_simp; refine rdW 15 fun K hK => ?_
   have q12 : Y12.cell? ⟨q, 3, none⟩ = some vp := cU (i := 3) rq rfl; have z12 := fQ rq 3; go_simp; refine hK.out _ _ ?_ (fun hH => ?_)
   ·exact (bS _ _ _ _ (fun e => by have := oZ HS.out.row; dsimp only at e; omega)).trans hH
   clear hK K; refine wpAnyH_done (by kernel_rfl) ?_ _
   go_wp2; go_ret; exact ⟨rfl, gs, va, _, RFH.out.1, RFH.out.2⟩
end Go.Proofs.YtpemeenfhkgmpaaGreatDoor
