/- Parts of this proof (own work). -/
import Derived.Test.YtpemeenfhkgmpaaGreatDoorZf18
set_option maxRecDepth 100000
set_option maxHeartbeats 40000000
namespace Go.Proofs.YtpemeenfhkgmpaaGreatDoor
open Go.RowKit Go.ChangeShapes Go.WideShapes
variable {w0 w w' W w3 : World} {B q : Nat} {m : StM} {gs : List AcG} {va vp : Value}
theorem refAct4 (Hs : GS tyD B q m gs va vp w) (h8 : gs.length ≤ 8) {i : Nat} {ii : Int} (hii : (i : Int) = ii) {xn xs xo xd xp xc : Int} {xx : Nat} {xr : List RgM} {xb : Option Addr} {xk : Nat} (hg : gs[i]? = some ⟨⟨⟨xn, xs, xo, xd, xx⟩, xp, xc, xr⟩, xb, xk⟩) (h6 : xr.length ≤ 6) (fn fs fr fe fp fq fo fd fa ft fh fc : Int) (fx : Nat) : Calls Tryz.prog 33 #[.pointer (some ⟨q, 0, none⟩), .int .i64 ii, .agg #[(4:Int), fn, fs, fr, fe, fp, fq, fo, fd, fa, ft, fh, fc, fx]] w fun r w' => r = .returned (.bool (actS m i ⟨⟨xn, xs, xo, xd, xx⟩, xp, xc, xr⟩ (⟨4, fn, fs, fr, fe, fp, fq, fo, fd, fa, ft, fh, fc, fx⟩ : FX)).isSome) ∧ ∃ gs' va', GS tyD B q ((actS m i ⟨⟨xn, xs, xo, xd, xx⟩, xp, xc, xr⟩ (⟨4, fn, fs, fr, fe, fp, fq, fo, fd, fa, ft, fh, fc, fx⟩ : FX)).getD m) gs' va' vp w' ∧ Asd (Ow q gs va vp) (Ow q gs' va' vp) w w' := by
 have _u := And.intro h8 h6; clear _u; obtain ⟨hi, hgi⟩ := List.getElem?_eq_some_iff.1 hg; obtain ⟨ga, cpa, rfl, hcpa, hgB, hgl, hfz, hcell⟩ := cQ (E := acE) Hs.oa rfl hi; rw [hgi, show acE.k = 8 from rfl] at hcell; have HR := hD (Hs.og _ (List.mem_of_getElem? hg)); obtain ⟨len, hl⟩ : ∃ x, gs.length = x := ⟨_, rfl⟩
 obtain ⟨n, hn⟩ : ∃ x, xr.length = x := ⟨_, rfl⟩
 have htn : ii.toNat = i := by omega
 have hi0 : 0 ≤ ii := by omega
 have hiL : ii < (len : Int) := by omega
 have x2 : w.cell? ⟨ga, ii.toNat * 8 + 2, none⟩ = some (.int .i64 xo) := by rw [htn]; exact hcell 2 _ (by decide) rfl
 have x6 : w.cell? ⟨ga, ii.toNat * 8 + 6, none⟩ = some (.int .i64 xc) := by rw [htn]; exact hcell 6 _ (by decide) rfl
 have x7 : w.cell? ⟨ga, ii.toNat * 8 + 7, none⟩ = some (.slice xb n xk) := by rw [htn, ← hn]; exact hcell 7 _ (by decide) rfl
 have e0 : w.cell? ⟨q, 2, none⟩ = some (.slice (some ⟨ga, 0, none⟩) len cpa) := by rw [← hl]; exact cU (i := 2) Hs.row rfl
 have hkW := kA w (.cells #[(4:Int), fn, fs, fr, fe, fp, fq, fo, fd, fa, ft, fh, fc, fx] 42); obtain ⟨f0, f1, f2, f3, f4, f5, f6, f7, f8, f9, f10, f11, f12, f13⟩ := cZ (mH w (.cells #[(4:Int), fn, fs, fr, fe, fp, fq, fo, fd, fa, ft, fh, fc, fx] 42)); obtain ⟨W, hW⟩ : ∃ W, w.alloc (.cells #[(4:Int), fn, fs, fr, fe, fp, fq, fo, fd, fa, ft, fh, fc, fx] 42) = W := ⟨_, rfl⟩
 rw [hW] at hkW f0 f1 f2 f3 f4 f5 f6 f7 f8 f9 f10 f11 f12 f13; obtain ⟨x2, x6, x7, e0⟩ := kZ4 hkW x2 x6 x7 e0; have hL : ∃ L : Int, (len : Int) = L := ⟨_, rfl⟩
 obtain ⟨L, hL⟩ := hL; rw [hL] at hiL; obtain ⟨N, hN⟩ : ∃ N : Int, (n : Int) = N := ⟨_, rfl⟩
 have hN6 : N ≤ 6 := by omega
 obtain ⟨HS, HG, HL, HN, HNN, HI, HII, HTN⟩ := hD8 Hs hg hl hn hN hi hii htn; have KW := hD hkW; have HZ := hD (show ∀ w', Kp w w' → ∀ j, w'.frozen? ⟨ga, j, none⟩ = false from fun w' h j => by rw [Below.frozen h hgl]; exact hfz j); have hsf := sF
 by_cases h1 : xo = 1
 ·by_cases h2 : xc = 0
  ·have hm : actS m i ⟨⟨xn, xs, xo, xd, xx⟩, xp, xc, xr⟩ (⟨4, fn, fs, fr, fe, fp, fq, fo, fd, fa, ft, fh, fc, fx⟩ : FX) = some { m with acts := m.acts.set i ⟨⟨xn, xs, xo, xd, xx⟩, xp, fc, xr⟩ } := by
    unfold actS
    simp [h1, h2]
   have HM := hD hm; have fin2 := (Hs.kp hkW).setA tyD_ok hg (i := 6) (y := .int .i64 fc) (x' := ⟨⟨⟨xn, xs, xo, xd, xx⟩, xp, fc, xr⟩, xb, xk⟩) (by decide) rfl rfl rfl; rw [show i * 8 + 6 = ii.toNat * 8 + 6 by omega] at fin2; have FIN := hD fin2; have z6 : W.frozen? ⟨ga, ii.toNat * 8 + 6, none⟩ = false := HZ.out W hkW _; subst h1 h2; rw [hm]; clear hm fin2 Hs hg hl hn hi hgi hcell htn hgB hgl hfz hii hcpa hkW; go_enter Tryz.func33, Tryz.ntmps33; go_wp2; go_ret; exact ⟨rfl, _, _, FIN.out.1, (Asd.of_kp _ KW.out).trans FIN.out.2⟩
  ·have HM := hD (show actS m i ⟨⟨xn, xs, xo, xd, xx⟩, xp, xc, xr⟩ (⟨4, fn, fs, fr, fe, fp, fq, fo, fd, fa, ft, fh, fc, fx⟩ : FX) = none by unfold actS; simp [h2]); have g2 : (xc == 0) = false := by simpa using h2
   rw [HM.out]; subst h1; clear h2 Hs hg hl hn hi hgi hcell htn hgB hgl hfz hii hcpa hkW; go_enter Tryz.func33, Tryz.ntmps33; go_wp2; go_ret; exact ⟨rfl, gs, _, HS.out.kp KW.out, Asd.of_kp _ KW.out⟩
 ·have HM := hD (show actS m i ⟨⟨xn, xs, xo, xd, xx⟩, xp, xc, xr⟩ (⟨4, fn, fs, fr, fe, fp, fq, fo, fd, fa, ft, fh, fc, fx⟩ : FX) = none by unfold actS; simp [h1]); have g1 : (xo == 1) = false := by simpa using h1
  rw [HM.out]; clear h1 Hs hg hl hn hi hgi hcell htn hgB hgl hfz hii hcpa hkW; go_enter Tryz.func33, Tryz.ntmps33; go_wp2; go_ret; exact ⟨rfl, gs, _, HS.out.kp KW.out, Asd.of_kp _ KW.out⟩
theorem refAct3 (Hs : GS tyD B q m gs va vp w) (h8 : gs.length ≤ 8) {i : Nat} {ii : Int} (hii : (i : Int) = ii) {xn xs xo xd xp xc : Int} {xx : Nat} {xr : List RgM} {xb : Option Addr} {xk : Nat} (hg : gs[i]? = some ⟨⟨⟨xn, xs, xo, xd, xx⟩, xp, xc, xr⟩, xb, xk⟩) (h6 : xr.length ≤ 6) (fn fs fr fe fp fq fo fd fa ft fh fc : Int) (fx : Nat) (hr0 : 0 ≤ fr) : Calls Tryz.prog 33 #[.pointer (some ⟨q, 0, none⟩), .int .i64 ii, .agg #[(3:Int), fn, fs, fr, fe, fp, fq, fo, fd, fa, ft, fh, fc, fx]] w fun r w' => r = .returned (.bool (actS m i ⟨⟨xn, xs, xo, xd, xx⟩, xp, xc, xr⟩ (⟨3, fn, fs, fr, fe, fp, fq, fo, fd, fa, ft, fh, fc, fx⟩ : FX)).isSome) ∧ ∃ gs' va', GS tyD B q ((actS m i ⟨⟨xn, xs, xo, xd, xx⟩, xp, xc, xr⟩ (⟨3, fn, fs, fr, fe, fp, fq, fo, fd, fa, ft, fh, fc, fx⟩ : FX)).getD m) gs' va' vp w' ∧ Asd (Ow q gs va vp) (Ow q gs' va' vp) w w' := by
 have _u := And.intro h8 h6; clear _u; obtain ⟨hi, hgi⟩ := List.getElem?_eq_some_iff.1 hg; obtain ⟨ga, cpa, rfl, hcpa, hgB, hgl, hfz, hcell⟩ := cQ (E := acE) Hs.oa rfl hi; rw [hgi, show acE.k = 8 from rfl] at hcell; have HR := hD (Hs.og _ (List.mem_of_getElem? hg)); obtain ⟨len, hl⟩ : ∃ x, gs.length = x := ⟨_, rfl⟩
 obtain ⟨n, hn⟩ : ∃ x, xr.length = x := ⟨_, rfl⟩
 have htn : ii.toNat = i := by omega
 have hi0 : 0 ≤ ii := by omega
 have hiL : ii < (len : Int) := by omega
 have x2 : w.cell? ⟨ga, ii.toNat * 8 + 2, none⟩ = some (.int .i64 xo) := by rw [htn]; exact hcell 2 _ (by decide) rfl
 have x6 : w.cell? ⟨ga, ii.toNat * 8 + 6, none⟩ = some (.int .i64 xc) := by rw [htn]; exact hcell 6 _ (by decide) rfl
 have x7 : w.cell? ⟨ga, ii.toNat * 8 + 7, none⟩ = some (.slice xb n xk) := by rw [htn, ← hn]; exact hcell 7 _ (by decide) rfl
 have e0 : w.cell? ⟨q, 2, none⟩ = some (.slice (some ⟨ga, 0, none⟩) len cpa) := by rw [← hl]; exact cU (i := 2) Hs.row rfl
 have hkW := kA w (.cells #[(3:Int), fn, fs, fr, fe, fp, fq, fo, fd, fa, ft, fh, fc, fx] 42); obtain ⟨f0, f1, f2, f3, f4, f5, f6, f7, f8, f9, f10, f11, f12, f13⟩ := cZ (mH w (.cells #[(3:Int), fn, fs, fr, fe, fp, fq, fo, fd, fa, ft, fh, fc, fx] 42)); obtain ⟨W, hW⟩ : ∃ W, w.alloc (.cells #[(3:Int), fn, fs, fr, fe, fp, fq, fo, fd, fa, ft, fh, fc, fx] 42) = W := ⟨_, rfl⟩
 rw [hW] at hkW f0 f1 f2 f3 f4 f5 f6 f7 f8 f9 f10 f11 f12 f13; obtain ⟨x2, x6, x7, e0⟩ := kZ4 hkW x2 x6 x7 e0; have hL : ∃ L : Int, (len : Int) = L := ⟨_, rfl⟩
 obtain ⟨L, hL⟩ := hL; rw [hL] at hiL; obtain ⟨N, hN⟩ : ∃ N : Int, (n : Int) = N := ⟨_, rfl⟩
 have hN6 : N ≤ 6 := by omega
 obtain ⟨HS, HG, HL, HN, HNN, HI, HII, HTN⟩ := hD8 Hs hg hl hn hN hi hii htn; have KW := hD hkW; have HZ := hD (show ∀ w', Kp w w' → ∀ j, w'.frozen? ⟨ga, j, none⟩ = false from fun w' h j => by rw [Below.frozen h hgl]; exact hfz j); have hsf := sF
 by_cases h1 : fr < N
 ·have hfn : fr.toNat < xr.length := by have := HN.out; omega
  obtain ⟨⟨rn, rp, ⟨zp, ze, zt, zh⟩⟩, hr⟩ : ∃ r, xr[fr.toNat]? = some r := ⟨_, List.getElem?_eq_getElem hfn⟩
  obtain ⟨gr, ck, exb, hck, hgrB, hgrl, hfzr, hcr⟩ := cQ (E := rgE) HR.out rfl hfn; rw [(List.getElem?_eq_some_iff.1 hr).2, show rgE.k = 6 from rfl] at hcr; unfold AcG.v at exb; have exb := congrArg (fun v => match v with | Value.slice a _ _ => a | _ => none) exb; dsimp only at exb; subst exb; have y2 := kZ hkW (hcr 2 _ (by decide) rfl); have y3 := kZ hkW (hcr 3 _ (by decide) rfl); have y4 := kZ hkW (hcr 4 _ (by decide) rfl); have y5 := kZ hkW (hcr 5 _ (by decide) rfl); have HRR := hD hr; have HT := hD (fun w1 : World => refTurned15 ⟨zp, ze, zt, zh⟩ (⟨3, fn, fs, fr, fe, fp, fq, fo, fd, fa, ft, fh, fc, fx⟩ : FX) w1); dsimp only [seatV, FX.cells] at HT; have hzr : ∀ w', Kp w w' → ∀ j, w'.frozen? ⟨gr, j, none⟩ = false := fun w' h j => by rw [Below.frozen h hgrl]; exact hfzr j
  have HZR := hD hzr; have hact : actS m i ⟨⟨xn, xs, xo, xd, xx⟩, xp, xc, xr⟩ (⟨3, fn, fs, fr, fe, fp, fq, fo, fd, fa, ft, fh, fc, fx⟩ : FX) = if turnOk ⟨zp, ze, zt, zh⟩ ft fh = true then some { m with acts := m.acts.set i ⟨⟨xn, xs, xo, xd, xx⟩, xp, xc, xr.set fr.toNat ⟨rn, rp, ⟨zp, ze, ft, fh⟩⟩⟩ } else none := by
   unfold actS; dsimp only; rw [if_neg (show ¬ (3 : Int) = 2 by decide), if_pos rfl, hr]; dsimp only; rw [turnS_eq]
   by_cases ht : turnOk ⟨zp, ze, zt, zh⟩ ft fh = true
   ·rw [if_pos ht, if_pos ht]
    rfl
   ·rw [if_neg ht, if_neg ht]
    rfl
  obtain ⟨tk, htk⟩ : ∃ b, turnOk ⟨zp, ze, zt, zh⟩ ft fh = b := ⟨_, rfl⟩
  rw [htk] at HT hact; rw [hact]; have Y := hD (And.intro y2 (And.intro y3 (And.intro y4 y5))); have X := hD (And.intro x7 e0); have FF := hD (And.intro f2 (And.intro f10 f11)); clear hr hcr hzr hact htk hck hgrB hgrl hfzr hfn Hs hg hl hn hi hgi hcell htn hgB hgl hfz hii hcpa hkW; go_enter Tryz.func33, Tryz.ntmps33; go_wp2_with fail
  go_region
  go_wp2_with fail
  obtain ⟨WD, hWD⟩ : ∃ x, W.drew.drew = x := ⟨_, rfl⟩
  have kD : Kp W WD := by rw [← hWD]; exact dQ (dQ (Kp.refl W))
  have HWD := hD hWD; clear hWD; refine rgW (fun w' => Kp W w') ?_ fun hH => ?_
  ·exact by rw [HWD.out]; exact kD
  rw [HWD.out] at hH ⊢; have hDD : Kp W WD := hH; refine tkP 0 ?_
  go_simp; refine tkP 1 ?_
  go_simp; refine tkP 2 ?_
  go_simp; refine tkP 3 ?_ (y := by intro w hZ; have g7 := kZ hZ x7; go_simp; try rfl)
  go_simp; refine tkP 4 ?_
  go_simp; refine tkP 5 ?_ (y := by intro w hZ; have gf := kZ hZ f3; go_simp; try rfl)
  go_simp; refine tkP 6 ?_
  go_simp; refine tkP 7 ?_
  go_simp; refine tkP 8 ?_ (y := by intro w hZ; obtain ⟨a2, a3, a4, a5⟩ := kZ4 hZ y2 y3 y4 y5; go_simp; try rfl)
  go_simp; refine tkP 9 ?_ (y := by intro w hZ; obtain ⟨a0, a1, a2, a3, a4, a5, a6, a7, a8, a9, a10, a11, a12, a13⟩ := kZ14 hZ f0 f1 f2 f3 f4 f5 f6 f7 f8 f9 f10 f11 f12 f13; go_simp; try rfl)
  go_simp; refine wpAnyH_ready (rs := [10, 14]) (by kernel_rfl) (by simp) ?_
  refine aC (fun K hK => ?_) (aC (fun K hK => ?_) aN0)
  ·go_simp; go_wp2_with (go_at_call 31; (with_reducible refine (HT.out _).mono ?_); rintro e' w5 ⟨rfl, hk5⟩)
   refine hK.out _ _ (kT hH hk5) fun hH => ?_
   clear hK K; have h55 : Kp W w5 := hH; refine tkP 11 ?_
   go_simp; refine tkP 12 ?_
   go_simp; refine tkP 13 ?_
   go_simp; refine rdW 14 fun K hK => ?_
   go_simp; refine hK.out _ _ (kT hH (kA _ _)) fun hH => ?_
   clear hK K; obtain ⟨Y14, hY14⟩ : ∃ x, w5.alloc (.cells #[(0:Int), (0:Int), (0:Int), (0:Int)] 90) = x := ⟨_, rfl⟩
   have r14 : Y14.heap[w5.heap.size]? = some (.cells #[(0:Int), (0:Int), (0:Int), (0:Int)] 90) := by rw [← hY14]; exact (mH w5 (.cells #[(0:Int), (0:Int), (0:Int), (0:Int)] 90))
   have b14 : W.heap.size ≤ w5.heap.size := kS (show Kp W w5 from by assumption); obtain ⟨p14, hp14⟩ : ∃ x, w5.heap.size = x := ⟨_, rfl⟩
   rw [hp14] at r14 b14; rw [hY14] at hH ⊢
   try rw [hp14]
   clear hY14 hp14; have hYY : Kp W Y14 := hH; refine rdW 15 fun K hK => ?_
   obtain ⟨v0, v1, v2, v3⟩ := cells_4 r14; have fz5 := fQ r14; go_simp; refine hK.out _ _ (set_4_kp hH b14 _ _ _ _) fun hH => ?_
   clear hK K; obtain ⟨w6, hw6⟩ : ∃ x, (((Y14.setCell ⟨p14, 0, none⟩ (.int .i64 zp)).setCell ⟨p14, 1, none⟩ (.int .i64 ze)).setCell ⟨p14, 2, none⟩ (.int .i64 ft)).setCell ⟨p14, 3, none⟩ (.int .i64 fh) = x := ⟨_, rfl⟩
   have r10 : w6.heap[p14]? = some (.cells #[zp, ze, ft, fh] 90) := by rw [← hw6]; exact set_4 _ _ _ _ r14
   rw [hw6] at hH ⊢; have kw6 : Kp W w6 := hH; clear hw6 v0 v1 v2 v3 fz5; refine tkP 16 ?_
   go_simp; refine dnW ?_ _
   obtain ⟨g0, g7, gf, h2, h3, h4, h5⟩ := kZ7 kw6 e0 x7 f3 y2 y3 y4 y5; obtain ⟨s0, s1, s2, s3⟩ := cells_4 r10; have zz := HZR.out w6 (kT KW.out kw6); have KW6 := hD kw6
   cases tk with
   | false =>
    clear kw6 hH; go_wp2; go_ret; exact ⟨rfl, gs, _, HS.out.kp (kT KW.out KW6.out), Asd.of_kp _ (kT KW.out KW6.out)⟩
   | true =>
    clear kw6 hH; go_wp2_with fail
    go_still_tail 9, (by kernel_rfl)
    change wpList _ _ _ _ _ w6.drew
    go_wp2; have FIN := (HS.out.kp (kT KW.out KW6.out).drew).seatR tyD_ok HG.out HRR.out ⟨zp, ze, ft, fh⟩; go_ret; exact ⟨rfl, _, _, FIN.1, (Asd.of_kp _ (kT KW.out KW6.out).drew).trans FIN.2⟩
  ·go_simp; refine hK.out _ _ (kT hH (kA _ _)) fun hH => ?_
   clear hK K; obtain ⟨Y14, hY14⟩ : ∃ x, WD.alloc (.cells #[(0:Int), (0:Int), (0:Int), (0:Int)] 90) = x := ⟨_, rfl⟩
   have r14 : Y14.heap[WD.heap.size]? = some (.cells #[(0:Int), (0:Int), (0:Int), (0:Int)] 90) := by rw [← hY14]; exact (mH WD (.cells #[(0:Int), (0:Int), (0:Int), (0:Int)] 90))
   have b14 : W.heap.size ≤ WD.heap.size := kS (show Kp W WD from by assumption); obtain ⟨p14, hp14⟩ : ∃ x, WD.heap.size = x := ⟨_, rfl⟩
   rw [hp14] at r14 b14; rw [hY14] at hH ⊢
   try rw [hp14]
   clear hY14 hp14; have hYY : Kp W Y14 := hH; refine rdW 10 fun K hK => ?_
   go_simp; go_wp2_with (go_at_call 31; (with_reducible refine (HT.out _).mono ?_); rintro e' w5 ⟨rfl, hk5⟩)
   refine hK.out _ _ (kT hH hk5) fun hH => ?_
   clear hK K; have h55 : Kp W w5 := hH; have r14 := rZ hk5 r14; refine tkP 11 ?_
   go_simp; refine tkP 12 ?_
   go_simp; refine tkP 13 ?_
   go_simp; refine rdW 15 fun K hK => ?_
   obtain ⟨v0, v1, v2, v3⟩ := cells_4 r14; have fz5 := fQ r14; go_simp; refine hK.out _ _ (set_4_kp hH b14 _ _ _ _) fun hH => ?_
   clear hK K; obtain ⟨w6, hw6⟩ : ∃ x, (((w5.setCell ⟨p14, 0, none⟩ (.int .i64 zp)).setCell ⟨p14, 1, none⟩ (.int .i64 ze)).setCell ⟨p14, 2, none⟩ (.int .i64 ft)).setCell ⟨p14, 3, none⟩ (.int .i64 fh) = x := ⟨_, rfl⟩
   have r10 : w6.heap[p14]? = some (.cells #[zp, ze, ft, fh] 90) := by rw [← hw6]; exact set_4 _ _ _ _ r14
   rw [hw6] at hH ⊢; have kw6 : Kp W w6 := hH; clear hw6 v0 v1 v2 v3 fz5; refine tkP 16 ?_
   go_simp; refine dnW ?_ _
   obtain ⟨g0, g7, gf, h2, h3, h4, h5⟩ := kZ7 kw6 e0 x7 f3 y2 y3 y4 y5; obtain ⟨s0, s1, s2, s3⟩ := cells_4 r10; have zz := HZR.out w6 (kT KW.out kw6); have KW6 := hD kw6
   cases tk with
   | false =>
    clear kw6 hH; go_wp2; go_ret; exact ⟨rfl, gs, _, HS.out.kp (kT KW.out KW6.out), Asd.of_kp _ (kT KW.out KW6.out)⟩
   | true =>
    clear kw6 hH; go_wp2_with fail
    go_still_tail 9, (by kernel_rfl)
    change wpList _ _ _ _ _ w6.drew
    go_wp2; have FIN := (HS.out.kp (kT KW.out KW6.out).drew).seatR tyD_ok HG.out HRR.out ⟨zp, ze, ft, fh⟩; go_ret; exact ⟨rfl, _, _, FIN.1, (Asd.of_kp _ (kT KW.out KW6.out).drew).trans FIN.2⟩
 ·have g1 : ¬ fr < N := h1; have hno : xr[fr.toNat]? = none := List.getElem?_eq_none (by have := HN.out; omega); have HM := hD (show actS m i ⟨⟨xn, xs, xo, xd, xx⟩, xp, xc, xr⟩ (⟨3, fn, fs, fr, fe, fp, fq, fo, fd, fa, ft, fh, fc, fx⟩ : FX) = none by unfold actS; dsimp only; rw [if_neg (show ¬ (3 : Int) = 2 by decide), if_pos rfl, hno]); rw [HM.out]; clear hno h1 Hs hg hl hn hi hgi hcell htn hgB hgl hfz hii hcpa hkW; go_enter Tryz.func33, Tryz.ntmps33; go_wp2_with fail
  go_region
  go_wp2; go_ret; exact ⟨rfl, gs, _, HS.out.kp (dQ KW.out), Asd.of_kp _ (dQ KW.out)⟩
end Go.Proofs.YtpemeenfhkgmpaaGreatDoor
