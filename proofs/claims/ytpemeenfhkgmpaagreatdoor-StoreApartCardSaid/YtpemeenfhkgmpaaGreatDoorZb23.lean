/-
  PARTS OF THIS PROOF (own work): SdF.
-/
import Derived.Test.YtpemeenfhkgmpaaGreatDoorZb01
import Derived.Test.YtpemeenfhkgmpaaGreatDoorZb22
namespace Go.Proofs.YtpemeenfhkgmpaaGreatDoor
open Go.RowKit Go.ChangeShapes Go.WideShapes

variable {w0 w w' W w3 : World} {B q : Nat} {m : StM} {gs : List AcG} {va vp : Value}

set_option maxRecDepth 100000 in
set_option maxHeartbeats 4000000 in
theorem refApply7 (Hs : GS tyD B q m gs va vp w) (ok : OkS m) (fn fs fr fe fp fq fo fd fa ft fh fc : Int) (fx : Nat) (hR : rightF (⟨7, fn, fs, fr, fe, fp, fq, fo, fd, fa, ft, fh, fc, fx⟩ : FX) = true) : Calls Tryz.prog 12 #[.pointer (some ⟨q, 0, none⟩), .agg #[.int .i64 7, .int .i64 fn, .int .i64 fs, .int .i64 fr, .int .i64 fe, .int .i64 fp, .int .i64 fq, .int .i64 fo, .int .i64 fd, .int .i64 fa, .int .i64 ft, .int .i64 fh, .int .i64 fc, .float .f64 fx]] w fun r w' => r = .returned (.int .i64 (applyQ m (⟨7, fn, fs, fr, fe, fp, fq, fo, fd, fa, ft, fh, fc, fx⟩ : FX)).1) ∧ ∃ gs' va' vp', GS tyD B q (applyQ m (⟨7, fn, fs, fr, fe, fp, fq, fo, fd, fa, ft, fh, fc, fx⟩ : FX)).2 gs' va' vp' w' ∧ Asd (Ow q gs va vp) (Ow q gs' va' vp') w w' := by
  obtain ⟨a0, c0, eva⟩ := Hs.vForm
  obtain ⟨b0, d0, evp⟩ := Hs.pForm
  obtain ⟨nd, nx, A, PL⟩ := m
  obtain ⟨len, hl⟩ : ∃ x, gs.length = x := ⟨_, rfl⟩
  obtain ⟨np, hnp⟩ : ∃ x, PL.length = x := ⟨_, rfl⟩
  have hlA : A.length = len := by have := Hs.len; dsimp only at this; omega
  have l8 : len ≤ 8 := by have := ok.l8; dsimp only at this; omega
  have p8 : np ≤ 8 := by have := ok.p8; dsimp only at this; omega
  have e0 : w.cell? ⟨q, 0, none⟩ = some (.int .i64 nd) := cellU (i := 0) Hs.row rfl
  have e1 : w.cell? ⟨q, 1, none⟩ = some (.int .i64 nx) := cellU (i := 1) Hs.row rfl
  have e2 : w.cell? ⟨q, 2, none⟩ = some va := cellU (i := 2) Hs.row rfl
  have e3 : w.cell? ⟨q, 3, none⟩ = some vp := cellU (i := 3) Hs.row rfl
  dsimp only at evp
  rw [eva, hl] at e2
  rw [evp, hnp] at e3
  have hkW := kp_alloc w (.cells #[.int .i64 7, .int .i64 fn, .int .i64 fs, .int .i64 fr, .int .i64 fe, .int .i64 fp, .int .i64 fq, .int .i64 fo, .int .i64 fd, .int .i64 fa, .int .i64 ft, .int .i64 fh, .int .i64 fc, .float .f64 fx] 42)
  have rW := (MapKept.heap_alloc w (.cells #[.int .i64 7, .int .i64 fn, .int .i64 fs, .int .i64 fr, .int .i64 fe, .int .i64 fp, .int .i64 fq, .int .i64 fo, .int .i64 fd, .int .i64 fa, .int .i64 ft, .int .i64 fh, .int .i64 fc, .float .f64 fx] 42)).1
  obtain ⟨W, hW⟩ : ∃ W, w.alloc (.cells #[.int .i64 7, .int .i64 fn, .int .i64 fs, .int .i64 fr, .int .i64 fe, .int .i64 fp, .int .i64 fq, .int .i64 fo, .int .i64 fd, .int .i64 fa, .int .i64 ft, .int .i64 fh, .int .i64 fc, .float .f64 fx] 42) = W := ⟨_, rfl⟩
  rw [hW] at hkW rW
  obtain ⟨f0, f1, f2, f3, f4, f5, f6, f7, f8, f9, f10, f11, f12, f13⟩ := cells14 rW
  have e0 := kp_cell hkW e0
  have e1 := kp_cell hkW e1
  have e2 := kp_cell hkW e2
  have e3 := kp_cell hkW e3
  have hwf : FX.wf (⟨7, fn, fs, fr, fe, fp, fq, fo, fd, fa, ft, fh, fc, fx⟩ : FX) := right_wf hR
  have hri := fun w1 => refRight14_any (⟨7, fn, fs, fr, fe, fp, fq, fo, fd, fa, ft, fh, fc, fx⟩ : FX) hwf w1
  dsimp only [FX.cells] at hri
  rw [hR] at hri
  have HRI := Lib.hid hri
  have HRR := Lib.hid hR
  obtain ⟨L, hL⟩ : ∃ L : Int, (len : Int) = L := ⟨_, rfl⟩
  obtain ⟨NP, hNP⟩ : ∃ N : Int, (np : Int) = N := ⟨_, rfl⟩
  have HS := Lib.hid Hs
  have OK := Lib.hid ok
  have HL := Lib.hid hl
  have HLA := Lib.hid hlA
  have HNP := Lib.hid hnp
  have HLL := Lib.hid hL
  have HNN := Lib.hid hNP
  have KW := Lib.hid hkW
  have RW := Lib.hid rW
  have EVA := Lib.hid eva
  have EVP := Lib.hid evp
  have L8 := Lib.hid (And.intro l8 p8)
  have hsf := store_fl
  have hp0 : 0 ≤ fp := (by have := okF_of hR; simp [okF] at this; omega)
  by_cases h1 : fp < NP
  rotate_left
  · have hno : PL[fp.toNat]? = none := List.getElem?_eq_none (by omega)
    have hdo : doS ⟨nd, nx, A, PL⟩ (⟨7, fn, fs, fr, fe, fp, fq, fo, fd, fa, ft, fh, fc, fx⟩ : FX) = none := by unfold doS; simp [hno]
    rw [applyQ_none hR hdo]
    have g1 : decide (fp ≥ NP) = true := decide_eq_true (by omega)
    clear hdo hno h1 Hs ok hR hl hnp hlA l8 p8 hkW rW eva evp hwf hri
    go_enter Tryz.func12, Tryz.ntmps12
    go_wp2_with (go_at_call 29; (with_reducible refine (HRI.out _).mono ?_); rintro e' w1 ⟨rfl, hk1⟩; have K1 := Lib.hid hk1; have e0 := kp_cell hk1 e0; have e1 := kp_cell hk1 e1; have e2 := kp_cell hk1 e2; have e3 := kp_cell hk1 e3; have f0 := kp_cell hk1 f0; have f1 := kp_cell hk1 f1; have f2 := kp_cell hk1 f2; have f3 := kp_cell hk1 f3; have f4 := kp_cell hk1 f4; have f5 := kp_cell hk1 f5; have f6 := kp_cell hk1 f6; have f7 := kp_cell hk1 f7; have f8 := kp_cell hk1 f8; have f9 := kp_cell hk1 f9; have f10 := kp_cell hk1 f10; have f11 := kp_cell hk1 f11; have f12 := kp_cell hk1 f12; have f13 := kp_cell hk1 f13; clear hk1)
    go_region
    go_wp2
    go_ret
    exact ⟨rfl, gs, va, vp, HS.out.kp (Kp.trans KW.out (drewQ K1.out)), Asd.of_kp _ (Kp.trans KW.out (drewQ K1.out))⟩
  · have g1 : decide (fp ≥ NP) = false := decide_eq_false (by omega)
    have hpn : fp.toNat < PL.length := by omega
    obtain ⟨⟨yn, ys, yr, ⟨zp, ze, zt, zh⟩⟩, hx⟩ : ∃ x, PL[fp.toNat]? = some x := ⟨_, List.getElem?_eq_getElem hpn⟩
    obtain ⟨gp, ck, evp2, hck, hgpB, hgpl, hfzp, hcp⟩ := own_cellQ (E := paE) Hs.op rfl hpn
    have hcp2 : ∀ (i : Nat) (u : Value), i < paE.k → (paE.enc (PL[fp.toNat]'hpn))[i]? = some u → w.cell? ⟨gp, fp.toNat * paE.k + i, none⟩ = some u := hcp
    rw [(List.getElem?_eq_some_iff.1 hx).2, show paE.k = 7 from rfl] at hcp2
    have evp3 := evp2.symm.trans evp
    injection evp3 with evp3 _ evp4
    subst evp3
    have y2 := kp_cell hkW (hcp2 2 _ (by decide) rfl)
    have y3 := kp_cell hkW (hcp2 3 _ (by decide) rfl)
    have y4 := kp_cell hkW (hcp2 4 _ (by decide) rfl)
    have y5 := kp_cell hkW (hcp2 5 _ (by decide) rfl)
    have y6 := kp_cell hkW (hcp2 6 _ (by decide) rfl)
    have HZP := Lib.hid (show ∀ w', Kp w w' → ∀ j, w'.frozen? ⟨gp, j, none⟩ = false from fun w' h j => by rw [Below.frozen h hgpl]; exact hfzp j)
    have HX := Lib.hid hx
    dsimp only at evp2
    subst evp2
    by_cases h2 : 0 ≤ yr
    · have hdo : doS ⟨nd, nx, A, PL⟩ (⟨7, fn, fs, fr, fe, fp, fq, fo, fd, fa, ft, fh, fc, fx⟩ : FX) = none := by unfold doS; simp [hx, h2]
      rw [applyQ_none hR hdo]
      have g2 : decide (yr ≥ 0) = true := decide_eq_true h2
      clear hdo h2 Hs ok hR hl hnp hlA l8 p8 hkW rW eva hwf hri hpn hx hck hgpB hgpl hfzp hcp hcp2 evp4
      go_enter Tryz.func12, Tryz.ntmps12
      go_wp2_with (go_at_call 29; (with_reducible refine (HRI.out _).mono ?_); rintro e' w1 ⟨rfl, hk1⟩; have K1 := Lib.hid hk1; have e0 := kp_cell hk1 e0; have e1 := kp_cell hk1 e1; have e2 := kp_cell hk1 e2; have e3 := kp_cell hk1 e3; have f0 := kp_cell hk1 f0; have f1 := kp_cell hk1 f1; have f2 := kp_cell hk1 f2; have f3 := kp_cell hk1 f3; have f4 := kp_cell hk1 f4; have f5 := kp_cell hk1 f5; have f6 := kp_cell hk1 f6; have f7 := kp_cell hk1 f7; have f8 := kp_cell hk1 f8; have f9 := kp_cell hk1 f9; have f10 := kp_cell hk1 f10; have f11 := kp_cell hk1 f11; have f12 := kp_cell hk1 f12; have f13 := kp_cell hk1 f13; have y2 := kp_cell hk1 y2; have y3 := kp_cell hk1 y3; have y4 := kp_cell hk1 y4; have y5 := kp_cell hk1 y5; have y6 := kp_cell hk1 y6; clear hk1)
      go_region
      go_wp2
      go_ret
      exact ⟨rfl, gs, va, _, HS.out.kp (Kp.trans KW.out (drewQ K1.out)), Asd.of_kp _ (Kp.trans KW.out (drewQ K1.out))⟩
    · have hdo : doS ⟨nd, nx, A, PL⟩ (⟨7, fn, fs, fr, fe, fp, fq, fo, fd, fa, ft, fh, fc, fx⟩ : FX) = some ⟨nd, nx, A, PL.set fp.toNat ⟨yn, ys, fr, ⟨zp, ze, zt, zh⟩⟩⟩ := by unfold doS; simp [hx, h2]
      rw [applyQ_some hR hdo]
      have g2 : decide (yr ≥ 0) = false := decide_eq_false (by omega)
      clear hdo h2 Hs ok hR hl hnp hlA l8 p8 hkW rW eva hwf hri hpn hx hck hgpB hgpl hfzp hcp hcp2 evp4
      go_enter Tryz.func12, Tryz.ntmps12
      go_wp2_with (go_at_call 29; (with_reducible refine (HRI.out _).mono ?_); rintro e' w1 ⟨rfl, hk1⟩; have K1 := Lib.hid hk1; have e0 := kp_cell hk1 e0; have e1 := kp_cell hk1 e1; have e2 := kp_cell hk1 e2; have e3 := kp_cell hk1 e3; have f0 := kp_cell hk1 f0; have f1 := kp_cell hk1 f1; have f2 := kp_cell hk1 f2; have f3 := kp_cell hk1 f3; have f4 := kp_cell hk1 f4; have f5 := kp_cell hk1 f5; have f6 := kp_cell hk1 f6; have f7 := kp_cell hk1 f7; have f8 := kp_cell hk1 f8; have f9 := kp_cell hk1 f9; have f10 := kp_cell hk1 f10; have f11 := kp_cell hk1 f11; have f12 := kp_cell hk1 f12; have f13 := kp_cell hk1 f13; have y2 := kp_cell hk1 y2; have y3 := kp_cell hk1 y3; have y4 := kp_cell hk1 y4; have y5 := kp_cell hk1 y5; have y6 := kp_cell hk1 y6; clear hk1)
      go_region
      go_wp2_with fail
      obtain ⟨w2, hw2⟩ : ∃ x, w1.drew = x := ⟨_, rfl⟩
      have k2 : Kp w1 w2 := by rw [← hw2]; exact drewQ (Kp.refl _)
      rw [hw2]
      have e3 := kp_cell k2 e3
      have f3 := kp_cell k2 f3
      have f5 := kp_cell k2 f5
      have y2 := kp_cell k2 y2
      have z2 := HZP.out w2 (Kp.trans KW.out (Kp.trans K1.out k2)) (fp.toNat * 7 + 2)
      have K2 := Lib.hid (Kp.trans K1.out k2)
      clear k2 hw2
      go_still_tail 8, (by kernel_rfl)
      change wpList _ _ _ _ _ w2.drew
      go_wp2
      have FIN := (HS.out.kp (Kp.trans KW.out (drewQ K2.out))).setP tyD_ok HX.out (i := 2) (x' := ⟨yn, ys, fr, ⟨zp, ze, zt, zh⟩⟩) (y := .int .i64 fr) (by decide) rfl
      go_ret
      exact ⟨rfl, gs, va, _, FIN.1, (Asd.of_kp _ (Kp.trans KW.out (drewQ K2.out))).trans FIN.2⟩
set_option maxRecDepth 100000 in
set_option maxHeartbeats 8000000 in
theorem refApply8 (Hs : GS tyD B q m gs va vp w) (ok : OkS m) (fn fs fr fe fp fq fo fd fa ft fh fc : Int) (fx : Nat) (hR : rightF (⟨8, fn, fs, fr, fe, fp, fq, fo, fd, fa, ft, fh, fc, fx⟩ : FX) = true) : Calls Tryz.prog 12 #[.pointer (some ⟨q, 0, none⟩), .agg #[.int .i64 8, .int .i64 fn, .int .i64 fs, .int .i64 fr, .int .i64 fe, .int .i64 fp, .int .i64 fq, .int .i64 fo, .int .i64 fd, .int .i64 fa, .int .i64 ft, .int .i64 fh, .int .i64 fc, .float .f64 fx]] w fun r w' => r = .returned (.int .i64 (applyQ m (⟨8, fn, fs, fr, fe, fp, fq, fo, fd, fa, ft, fh, fc, fx⟩ : FX)).1) ∧ ∃ gs' va' vp', GS tyD B q (applyQ m (⟨8, fn, fs, fr, fe, fp, fq, fo, fd, fa, ft, fh, fc, fx⟩ : FX)).2 gs' va' vp' w' ∧ Asd (Ow q gs va vp) (Ow q gs' va' vp') w w' := by
  obtain ⟨a0, c0, eva⟩ := Hs.vForm
  obtain ⟨b0, d0, evp⟩ := Hs.pForm
  obtain ⟨nd, nx, A, PL⟩ := m
  obtain ⟨len, hl⟩ : ∃ x, gs.length = x := ⟨_, rfl⟩
  obtain ⟨np, hnp⟩ : ∃ x, PL.length = x := ⟨_, rfl⟩
  have hlA : A.length = len := by have := Hs.len; dsimp only at this; omega
  have l8 : len ≤ 8 := by have := ok.l8; dsimp only at this; omega
  have p8 : np ≤ 8 := by have := ok.p8; dsimp only at this; omega
  have e0 : w.cell? ⟨q, 0, none⟩ = some (.int .i64 nd) := cellU (i := 0) Hs.row rfl
  have e1 : w.cell? ⟨q, 1, none⟩ = some (.int .i64 nx) := cellU (i := 1) Hs.row rfl
  have e2 : w.cell? ⟨q, 2, none⟩ = some va := cellU (i := 2) Hs.row rfl
  have e3 : w.cell? ⟨q, 3, none⟩ = some vp := cellU (i := 3) Hs.row rfl
  dsimp only at evp
  rw [eva, hl] at e2
  rw [evp, hnp] at e3
  have hkW := kp_alloc w (.cells #[.int .i64 8, .int .i64 fn, .int .i64 fs, .int .i64 fr, .int .i64 fe, .int .i64 fp, .int .i64 fq, .int .i64 fo, .int .i64 fd, .int .i64 fa, .int .i64 ft, .int .i64 fh, .int .i64 fc, .float .f64 fx] 42)
  have rW := (MapKept.heap_alloc w (.cells #[.int .i64 8, .int .i64 fn, .int .i64 fs, .int .i64 fr, .int .i64 fe, .int .i64 fp, .int .i64 fq, .int .i64 fo, .int .i64 fd, .int .i64 fa, .int .i64 ft, .int .i64 fh, .int .i64 fc, .float .f64 fx] 42)).1
  obtain ⟨W, hW⟩ : ∃ W, w.alloc (.cells #[.int .i64 8, .int .i64 fn, .int .i64 fs, .int .i64 fr, .int .i64 fe, .int .i64 fp, .int .i64 fq, .int .i64 fo, .int .i64 fd, .int .i64 fa, .int .i64 ft, .int .i64 fh, .int .i64 fc, .float .f64 fx] 42) = W := ⟨_, rfl⟩
  rw [hW] at hkW rW
  obtain ⟨f0, f1, f2, f3, f4, f5, f6, f7, f8, f9, f10, f11, f12, f13⟩ := cells14 rW
  have e0 := kp_cell hkW e0
  have e1 := kp_cell hkW e1
  have e2 := kp_cell hkW e2
  have e3 := kp_cell hkW e3
  have hwf : FX.wf (⟨8, fn, fs, fr, fe, fp, fq, fo, fd, fa, ft, fh, fc, fx⟩ : FX) := right_wf hR
  have hri := fun w1 => refRight14_any (⟨8, fn, fs, fr, fe, fp, fq, fo, fd, fa, ft, fh, fc, fx⟩ : FX) hwf w1
  dsimp only [FX.cells] at hri
  rw [hR] at hri
  have HRI := Lib.hid hri
  have HRR := Lib.hid hR
  obtain ⟨L, hL⟩ : ∃ L : Int, (len : Int) = L := ⟨_, rfl⟩
  obtain ⟨NP, hNP⟩ : ∃ N : Int, (np : Int) = N := ⟨_, rfl⟩
  have HS := Lib.hid Hs
  have OK := Lib.hid ok
  have HL := Lib.hid hl
  have HLA := Lib.hid hlA
  have HNP := Lib.hid hnp
  have HLL := Lib.hid hL
  have HNN := Lib.hid hNP
  have KW := Lib.hid hkW
  have RW := Lib.hid rW
  have EVA := Lib.hid eva
  have EVP := Lib.hid evp
  have L8 := Lib.hid (And.intro l8 p8)
  have hsf := store_fl
  have hp0 : 0 ≤ fp := (by have := okF_of hR; simp [okF] at this; omega)
  by_cases h1 : fp < NP
  rotate_left
  · have hno : PL[fp.toNat]? = none := List.getElem?_eq_none (by omega)
    have hdo : doS ⟨nd, nx, A, PL⟩ (⟨8, fn, fs, fr, fe, fp, fq, fo, fd, fa, ft, fh, fc, fx⟩ : FX) = none := by unfold doS; simp [hno]
    rw [applyQ_none hR hdo]
    have g1 : decide (fp ≥ NP) = true := decide_eq_true (by omega)
    clear hdo hno h1 Hs ok hR hl hnp hlA l8 p8 hkW rW eva evp hwf hri
    go_enter Tryz.func12, Tryz.ntmps12
    go_wp2_with (go_at_call 29; (with_reducible refine (HRI.out _).mono ?_); rintro e' w1 ⟨rfl, hk1⟩; have K1 := Lib.hid hk1; have e0 := kp_cell hk1 e0; have e1 := kp_cell hk1 e1; have e2 := kp_cell hk1 e2; have e3 := kp_cell hk1 e3; have f0 := kp_cell hk1 f0; have f1 := kp_cell hk1 f1; have f2 := kp_cell hk1 f2; have f3 := kp_cell hk1 f3; have f4 := kp_cell hk1 f4; have f5 := kp_cell hk1 f5; have f6 := kp_cell hk1 f6; have f7 := kp_cell hk1 f7; have f8 := kp_cell hk1 f8; have f9 := kp_cell hk1 f9; have f10 := kp_cell hk1 f10; have f11 := kp_cell hk1 f11; have f12 := kp_cell hk1 f12; have f13 := kp_cell hk1 f13; clear hk1)
    go_region
    go_wp2
    go_ret
    exact ⟨rfl, gs, va, vp, HS.out.kp (Kp.trans KW.out (drewQ K1.out)), Asd.of_kp _ (Kp.trans KW.out (drewQ K1.out))⟩
  · have g1 : decide (fp ≥ NP) = false := decide_eq_false (by omega)
    have hpn : fp.toNat < PL.length := by omega
    obtain ⟨⟨yn, ys, yr, ⟨zp, ze, zt, zh⟩⟩, hx⟩ : ∃ x, PL[fp.toNat]? = some x := ⟨_, List.getElem?_eq_getElem hpn⟩
    obtain ⟨gp, ck, evp2, hck, hgpB, hgpl, hfzp, hcp⟩ := own_cellQ (E := paE) Hs.op rfl hpn
    have hcp2 : ∀ (i : Nat) (u : Value), i < paE.k → (paE.enc (PL[fp.toNat]'hpn))[i]? = some u → w.cell? ⟨gp, fp.toNat * paE.k + i, none⟩ = some u := hcp
    rw [(List.getElem?_eq_some_iff.1 hx).2, show paE.k = 7 from rfl] at hcp2
    have evp3 := evp2.symm.trans evp
    injection evp3 with evp3 _ evp4
    subst evp3
    have y2 := kp_cell hkW (hcp2 2 _ (by decide) rfl)
    have y3 := kp_cell hkW (hcp2 3 _ (by decide) rfl)
    have y4 := kp_cell hkW (hcp2 4 _ (by decide) rfl)
    have y5 := kp_cell hkW (hcp2 5 _ (by decide) rfl)
    have y6 := kp_cell hkW (hcp2 6 _ (by decide) rfl)
    have HZP := Lib.hid (show ∀ w', Kp w w' → ∀ j, w'.frozen? ⟨gp, j, none⟩ = false from fun w' h j => by rw [Below.frozen h hgpl]; exact hfzp j)
    have HX := Lib.hid hx
    dsimp only at evp2
    subst evp2
    have HT := Lib.hid (fun w1 : World => refTurned15 ⟨zp, ze, zt, zh⟩ (⟨8, fn, fs, fr, fe, fp, fq, fo, fd, fa, ft, fh, fc, fx⟩ : FX) w1)
    dsimp only [seatV, FX.cells] at HT
    have hdo : doS ⟨nd, nx, A, PL⟩ (⟨8, fn, fs, fr, fe, fp, fq, fo, fd, fa, ft, fh, fc, fx⟩ : FX) = if turnOk ⟨zp, ze, zt, zh⟩ ft fh = true then some ⟨nd, nx, A, PL.set fp.toNat ⟨yn, ys, yr, ⟨zp, ze, ft, fh⟩⟩⟩ else none := by
      unfold doS
      dsimp only
      rw [if_neg (by decide), if_neg (by decide), if_neg (by decide), if_pos rfl, hx]
      dsimp only
      rw [turnS_eq]
      by_cases ht : turnOk ⟨zp, ze, zt, zh⟩ ft fh = true
      · rw [if_pos ht, if_pos ht]
        rfl
      · rw [if_neg ht, if_neg ht]
        rfl
    obtain ⟨tk, htk⟩ : ∃ b, turnOk ⟨zp, ze, zt, zh⟩ ft fh = b := ⟨_, rfl⟩
    rw [htk] at HT hdo
    have hap : applyQ ⟨nd, nx, A, PL⟩ (⟨8, fn, fs, fr, fe, fp, fq, fo, fd, fa, ft, fh, fc, fx⟩ : FX) = if tk = true then (0, ⟨nd, nx, A, PL.set fp.toNat ⟨yn, ys, yr, ⟨zp, ze, ft, fh⟩⟩⟩) else (9, ⟨nd, nx, A, PL⟩) := by
      cases tk with
      | false => exact applyQ_none hR hdo
      | true => exact applyQ_some hR hdo
    rw [hap]
    clear hap hdo htk Hs ok hR hl hnp hlA l8 p8 hkW rW eva hwf hri hpn hx hck hgpB hgpl hfzp hcp hcp2 evp4
    go_enter Tryz.func12, Tryz.ntmps12
    go_wp2_with (go_at_call 29; (with_reducible refine (HRI.out _).mono ?_); rintro e' w1 ⟨rfl, hk1⟩; have K1 := Lib.hid hk1; have e0 := kp_cell hk1 e0; have e1 := kp_cell hk1 e1; have e2 := kp_cell hk1 e2; have e3 := kp_cell hk1 e3; have f0 := kp_cell hk1 f0; have f1 := kp_cell hk1 f1; have f2 := kp_cell hk1 f2; have f3 := kp_cell hk1 f3; have f4 := kp_cell hk1 f4; have f5 := kp_cell hk1 f5; have f6 := kp_cell hk1 f6; have f7 := kp_cell hk1 f7; have f8 := kp_cell hk1 f8; have f9 := kp_cell hk1 f9; have f10 := kp_cell hk1 f10; have f11 := kp_cell hk1 f11; have f12 := kp_cell hk1 f12; have f13 := kp_cell hk1 f13; have y2 := kp_cell hk1 y2; have y3 := kp_cell hk1 y3; have y4 := kp_cell hk1 y4; have y5 := kp_cell hk1 y5; have y6 := kp_cell hk1 y6; clear hk1)
    go_region
    go_wp2_with fail
    obtain ⟨WD, hWD⟩ : ∃ x, w1.drew.drew = x := ⟨_, rfl⟩
    have kD : Kp w1 WD := by rw [← hWD]; exact drewQ (drewQ (Kp.refl w1))
    have HWD := Lib.hid hWD
    clear hWD
    refine wp_region_held_drew (S := fun w' => Kp w1 w') (by kernel_rfl) ?_ (fun hHeld => ?_)
    · exact by rw [HWD.out]; exact kD
    rw [HWD.out] at hHeld ⊢
    have hDD : Kp w1 WD := hHeld
    refine tkW ?_ 0 ?_ ?_; rotate_left
    · intro w hSw; go_simp; try rfl
    go_simp
    refine tkW ?_ 1 ?_ ?_; rotate_left
    · intro w hSw; go_simp; try rfl
    go_simp
    refine tkW ?_ 2 ?_ ?_; rotate_left
    · intro w hSw; go_simp; try rfl
    go_simp
    refine tkW ?_ 3 ?_ ?_; rotate_left
    · intro w hSw; have g7 := kp_cell hSw e3; go_simp; try rfl
    go_simp
    refine tkW ?_ 4 ?_ ?_; rotate_left
    · intro w hSw; go_simp; try rfl
    go_simp
    refine tkW ?_ 5 ?_ ?_; rotate_left
    · intro w hSw; have gf := kp_cell hSw f5; go_simp; try rfl
    go_simp
    refine tkW ?_ 6 ?_ ?_; rotate_left
    · intro w hSw; go_simp; try rfl
    go_simp
    refine tkW ?_ 7 ?_ ?_; rotate_left
    · intro w hSw; go_simp; try rfl
    go_simp
    refine tkW ?_ 8 ?_ ?_; rotate_left
    · intro w hSw; have a3 := kp_cell hSw y3; have a4 := kp_cell hSw y4; have a5 := kp_cell hSw y5; have a6 := kp_cell hSw y6; go_simp; try rfl
    go_simp
    refine tkW ?_ 9 ?_ ?_; rotate_left
    · intro w hSw; have a0 := kp_cell hSw f0; have a1 := kp_cell hSw f1; have a2 := kp_cell hSw f2; have a3 := kp_cell hSw f3; have a4 := kp_cell hSw f4; have a5 := kp_cell hSw f5; have a6 := kp_cell hSw f6; have a7 := kp_cell hSw f7; have a8 := kp_cell hSw f8; have a9 := kp_cell hSw f9; have a10 := kp_cell hSw f10; have a11 := kp_cell hSw f11; have a12 := kp_cell hSw f12; have a13 := kp_cell hSw f13; go_simp; try rfl
    go_simp
    refine wpAnyH_ready (rs := [10, 14]) (by kernel_rfl) (by simp) ?_
    refine AllReadyH.cons rfl (fun K hK => ?_) (AllReadyH.cons rfl (fun K hK => ?_) AllReadyH.nil)
    · go_simp
      go_wp2_with (go_at_call 31; (with_reducible refine (HT.out _).mono ?_); rintro e' w5 ⟨rfl, hk5⟩)
      refine hK.out _ _ ?_ (fun hHeld => ?_)
      · exact Kp.trans hHeld hk5
      clear hK K
      have h55 : Kp w1 w5 := hHeld
      refine tkW ?_ 11 ?_ ?_; rotate_left
      · intro w hSw; go_simp; try rfl
      go_simp
      refine tkW ?_ 12 ?_ ?_; rotate_left
      · intro w hSw; go_simp; try rfl
      go_simp
      refine tkW ?_ 13 ?_ ?_; rotate_left
      · intro w hSw; go_simp; try rfl
      go_simp
      refine wpAnyH_ready (rs := [14]) (by kernel_rfl) (by simp) ?_
      refine AllReadyH.cons rfl (fun K hK => ?_) AllReadyH.nil
      go_simp
      refine hK.out _ _ ?_ (fun hHeld => ?_)
      · exact Kp.trans hHeld (kp_alloc _ _)
      clear hK K
      obtain ⟨Y14, hY14⟩ : ∃ x, w5.alloc (.cells #[.int .i64 0, .int .i64 0, .int .i64 0, .int .i64 0] 90) = x := ⟨_, rfl⟩
      have r14 : Y14.heap[w5.heap.size]? = some (.cells #[.int .i64 0, .int .i64 0, .int .i64 0, .int .i64 0] 90) := by rw [← hY14]; exact (MapKept.heap_alloc w5 (.cells #[.int .i64 0, .int .i64 0, .int .i64 0, .int .i64 0] 90)).1
      have b14 : w1.heap.size ≤ w5.heap.size := kp_size (show Kp w1 w5 from by assumption)
      obtain ⟨p14, hp14⟩ : ∃ x, w5.heap.size = x := ⟨_, rfl⟩
      rw [hp14] at r14 b14
      rw [hY14] at hHeld ⊢
      try rw [hp14]
      clear hY14 hp14
      have hYY : Kp w1 Y14 := hHeld
      refine wpAnyH_ready (rs := [15]) (by kernel_rfl) (by simp) ?_
      refine AllReadyH.cons rfl (fun K hK => ?_) AllReadyH.nil
      obtain ⟨v0, v1, v2, v3⟩ := cells_4 r14
      have fz5 := frozQ r14
      go_simp
      refine hK.out _ _ ?_ (fun hHeld => ?_)
      · exact set_4_kp hHeld b14 _ _ _ _
      clear hK K
      obtain ⟨w6, hw6⟩ : ∃ x, (((Y14.setCell ⟨p14, 0, none⟩ (.int .i64 zp)).setCell ⟨p14, 1, none⟩ (.int .i64 ze)).setCell ⟨p14, 2, none⟩ (.int .i64 ft)).setCell ⟨p14, 3, none⟩ (.int .i64 fh) = x := ⟨_, rfl⟩
      have r10 : w6.heap[p14]? = some (.cells #[.int .i64 zp, .int .i64 ze, .int .i64 ft, .int .i64 fh] 90) := by rw [← hw6]; exact set_4 _ _ _ _ r14
      rw [hw6] at hHeld ⊢
      have kw6 : Kp w1 w6 := hHeld
      clear hw6 v0 v1 v2 v3 fz5
      refine tkW ?_ 16 ?_ ?_; rotate_left
      · intro w hSw; go_simp; try rfl
      go_simp
      refine wpAnyH_done (by kernel_rfl) ?_ _
      have g0 := kp_cell kw6 e3
      have gf := kp_cell kw6 f5
      have h3 := kp_cell kw6 y3
      have h4 := kp_cell kw6 y4
      have h5 := kp_cell kw6 y5
      have h6 := kp_cell kw6 y6
      obtain ⟨s0, s1, s2, s3⟩ := cells_4 r10
      have zz := HZP.out w6 (Kp.trans KW.out (Kp.trans K1.out kw6))
      have KW6 := Lib.hid (Kp.trans KW.out (Kp.trans K1.out kw6))
      cases tk with
      | false =>
        clear kw6 hHeld
        go_wp2
        go_ret
        exact ⟨rfl, gs, va, _, HS.out.kp KW6.out, Asd.of_kp _ KW6.out⟩
      | true =>
        clear kw6 hHeld
        go_wp2_with fail
        go_still_tail 7, (by kernel_rfl)
        change wpList _ _ _ _ _ w6.drew
        go_wp2
        have FIN := (HS.out.kp KW6.out.drew).seatP tyD_ok HX.out ⟨zp, ze, ft, fh⟩
        go_ret
        exact ⟨rfl, gs, va, _, FIN.1, (Asd.of_kp _ KW6.out.drew).trans FIN.2⟩
    · go_simp
      refine hK.out _ _ ?_ (fun hHeld => ?_)
      · exact Kp.trans hHeld (kp_alloc _ _)
      clear hK K
      obtain ⟨Y14, hY14⟩ : ∃ x, WD.alloc (.cells #[.int .i64 0, .int .i64 0, .int .i64 0, .int .i64 0] 90) = x := ⟨_, rfl⟩
      have r14 : Y14.heap[WD.heap.size]? = some (.cells #[.int .i64 0, .int .i64 0, .int .i64 0, .int .i64 0] 90) := by rw [← hY14]; exact (MapKept.heap_alloc WD (.cells #[.int .i64 0, .int .i64 0, .int .i64 0, .int .i64 0] 90)).1
      have b14 : w1.heap.size ≤ WD.heap.size := kp_size (show Kp w1 WD from by assumption)
      obtain ⟨p14, hp14⟩ : ∃ x, WD.heap.size = x := ⟨_, rfl⟩
      rw [hp14] at r14 b14
      rw [hY14] at hHeld ⊢
      try rw [hp14]
      clear hY14 hp14
      have hYY : Kp w1 Y14 := hHeld
      refine wpAnyH_ready (rs := [10]) (by kernel_rfl) (by simp) ?_
      refine AllReadyH.cons rfl (fun K hK => ?_) AllReadyH.nil
      go_simp
      go_wp2_with (go_at_call 31; (with_reducible refine (HT.out _).mono ?_); rintro e' w5 ⟨rfl, hk5⟩)
      refine hK.out _ _ ?_ (fun hHeld => ?_)
      · exact Kp.trans hHeld hk5
      clear hK K
      have h55 : Kp w1 w5 := hHeld
      have r14 := kp_row hk5 r14
      refine tkW ?_ 11 ?_ ?_; rotate_left
      · intro w hSw; go_simp; try rfl
      go_simp
      refine tkW ?_ 12 ?_ ?_; rotate_left
      · intro w hSw; go_simp; try rfl
      go_simp
      refine tkW ?_ 13 ?_ ?_; rotate_left
      · intro w hSw; go_simp; try rfl
      go_simp
      refine wpAnyH_ready (rs := [15]) (by kernel_rfl) (by simp) ?_
      refine AllReadyH.cons rfl (fun K hK => ?_) AllReadyH.nil
      obtain ⟨v0, v1, v2, v3⟩ := cells_4 r14
      have fz5 := frozQ r14
      go_simp
      refine hK.out _ _ ?_ (fun hHeld => ?_)
      · exact set_4_kp hHeld b14 _ _ _ _
      clear hK K
      obtain ⟨w6, hw6⟩ : ∃ x, (((w5.setCell ⟨p14, 0, none⟩ (.int .i64 zp)).setCell ⟨p14, 1, none⟩ (.int .i64 ze)).setCell ⟨p14, 2, none⟩ (.int .i64 ft)).setCell ⟨p14, 3, none⟩ (.int .i64 fh) = x := ⟨_, rfl⟩
      have r10 : w6.heap[p14]? = some (.cells #[.int .i64 zp, .int .i64 ze, .int .i64 ft, .int .i64 fh] 90) := by rw [← hw6]; exact set_4 _ _ _ _ r14
      rw [hw6] at hHeld ⊢
      have kw6 : Kp w1 w6 := hHeld
      clear hw6 v0 v1 v2 v3 fz5
      refine tkW ?_ 16 ?_ ?_; rotate_left
      · intro w hSw; go_simp; try rfl
      go_simp
      refine wpAnyH_done (by kernel_rfl) ?_ _
      have g0 := kp_cell kw6 e3
      have gf := kp_cell kw6 f5
      have h3 := kp_cell kw6 y3
      have h4 := kp_cell kw6 y4
      have h5 := kp_cell kw6 y5
      have h6 := kp_cell kw6 y6
      obtain ⟨s0, s1, s2, s3⟩ := cells_4 r10
      have zz := HZP.out w6 (Kp.trans KW.out (Kp.trans K1.out kw6))
      have KW6 := Lib.hid (Kp.trans KW.out (Kp.trans K1.out kw6))
      cases tk with
      | false =>
        clear kw6 hHeld
        go_wp2
        go_ret
        exact ⟨rfl, gs, va, _, HS.out.kp KW6.out, Asd.of_kp _ KW6.out⟩
      | true =>
        clear kw6 hHeld
        go_wp2_with fail
        go_still_tail 7, (by kernel_rfl)
        change wpList _ _ _ _ _ w6.drew
        go_wp2
        have FIN := (HS.out.kp KW6.out.drew).seatP tyD_ok HX.out ⟨zp, ze, ft, fh⟩
        go_ret
        exact ⟨rfl, gs, va, _, FIN.1, (Asd.of_kp _ KW6.out.drew).trans FIN.2⟩
end Go.Proofs.YtpemeenfhkgmpaaGreatDoor
