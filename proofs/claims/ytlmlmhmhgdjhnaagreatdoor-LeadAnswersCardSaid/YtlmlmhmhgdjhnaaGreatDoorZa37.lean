/- Parts of this proof (own work). -/
import Derived.Test.YtlmlmhmhgdjhnaaGreatDoorZa36
set_option maxRecDepth 100000
set_option maxHeartbeats 40000000
namespace Go.Proofs.YtlmlmhmhgdjhnaaGreatDoor
open Go.RowKit Go.ChangeShapes Go.WideShapes
variable {w0 w w' W w3 : World} {B q : Nat} {m : StM} {ads : List Addr}
theorem rightX_wf17 {c : CX} (h : rightX c = true) : c.x < 18446744073709551616 := by
 unfold rightX at h; simp only [Bool.and_eq_true] at h
 have := tmX_le h.2.2.2; omega
theorem own_one1 {B : Nat} (w : World) (o : Obj) (f : FX) (hb : B ≤ w.heap.size) : ((w.alloc o).alloc (.cells f.cells 87)).ownsRow B 87 14 (.slice (some ⟨w.heap.size + 1, 0, none⟩) 1 1) 1 (fcE.row [f]) := by
 have := own_oneF (w := w.alloc o) (t := 87) (B := B) f (by have := kS (kA w o); omega); rwa [show (w.alloc o).heap.size = w.heap.size + 1 by simp] at this
theorem lEnrolls (V : St ads w) (T : Tab w) (h : SL B q m w) (ok : OkS m) (mk mf mt mn ms mr mp mo mc : Int) (now : Nat) (hnow : now < 18446744073709551616) : Calls Tryz.prog 74 #[.pointer (some ⟨q, 0, none⟩), .agg #[mk, mf, mt, mn, ms, mr, mp, mo, mc], .float .f64 now] w fun r w' => ∃ v, r = .returned v ∧ RsV 87 w.heap.size (registerE m (⟨mk, mf, mt, mn, ms, mr, mp, mo, mc⟩ : MM) now) v w' ∧ Kp w w' := by
 have R0 := hD (nX0 w (.cells #[mk, mf, mt, mn, ms, mr, mp, mo, mc] 63) (.cells #[.slice none 0 0, .slice none 0 0, (0:Int)] 37)); have R1 := hD (nX1 w (.cells #[mk, mf, mt, mn, ms, mr, mp, mo, mc] 63) (.cells #[.slice none 0 0, .slice none 0 0, (0:Int)] 37)); have K2 := hD (pk2 w (.cells #[mk, mf, mt, mn, ms, mr, mp, mo, mc] 63) (.cells #[.slice none 0 0, .slice none 0 0, (0:Int)] 37)); obtain ⟨b0, b1, b2, b3, b4, b5, b6, b7, b8⟩ := cells9 R0.out; have hsf := sF; have hmf : ∀ (fn : Fn) (first cap : Array Value) (w : World), (Instr.makeFunc fn first cap).run Tryz.prog w = .ok (.func fn first cap) w := fun _ _ _ _ => rfl
 cases ha : actE m mn ms with
 | none =>
  have hG : registerE m (⟨mk, mf, mt, mn, ms, mr, mp, mo, mc⟩ : MM) now = ⟨[], [answerM (⟨mk, mf, mt, mn, ms, mr, mp, mo, mc⟩ : MM) 19 5], 0⟩ := by unfold registerE; dsimp only; rw [ha]
  rw [hG]; have HF := hD (fun w1 (hk : Kp w w1) => lFindN (h.kp hk) ok mn ms ha); have HRS := hD (fun w1 (hk : Kp w w1) => toForm (lAnswer (w := w1) (⟨mk, mf, mt, mn, ms, mr, mp, mo, mc⟩ : MM) 19 5) (lf := 0) (lm := 1) (wk := 0) rfl rfl rfl); dsimp only [MM.cells] at HRS; clear V T h ok ha hG hnow; go_enter Tryz.func74, Tryz.ntmps74; go_wp2_with (first | (go_at_call 60; (with_reducible refine (HF.out _ K2.out).mono ?_); rintro e' w3 ⟨rfl, hk⟩; have kz := kT hk (kA w3 (.cells #[(0:Int), (0:Int), (0:Int), (0:Int), .float .f64 0, (0:Int), (0:Int), .slice none 0 0] 92)); have K3 := hD (kT K2.out kz); have R30 := hD (rZ kz R0.out); have R31 := hD (rZ kz R1.out); obtain ⟨i0, i1, i2, i3, i4, i5, i6, i7, i8⟩ := cells9 R30.out; obtain ⟨j0, j1, j2⟩ := cellsR3 R31.out; have f3 := frozN R31.out; clear hk kz) | (go_at_call 128; (with_reducible refine (HRS.out _ K3.out).mono ?_); rintro e' w5 ⟨fa, fc, la, lc, rfl, of, om, hk⟩; have OF := hD (bG of (kS K3.out)); have OM := hD (bG om (kS K3.out)); have K5 := hD (kT K3.out hk); have R5 := hD (rZ hk R31.out); obtain ⟨d0, d1, d2⟩ := cellsR3 R5.out; have f5 := frozN R5.out; clear hk of om))
  refine bodyPost_ret (results_cell_row (p := 6) rfl _ _ (w.heap.size + 1) 37 _ (0, 0) _ rfl (setR3 _ _ _ R5.out) Tryz.underlying37 rfl (by kernel_rfl)) rfl ?_
  exact ⟨_, rfl, RsV.setN R5.out (by decide) (by decide) rfl rfl OF.out OM.out, setR3_kp K5.out (by omega) _ _ _⟩
 | some a =>
  obtain ⟨_, _, _, hen, hew⟩ := actE_some ha; obtain ⟨hA, hR⟩ := actE_ok ok ha; obtain ⟨⟨an, aw, ao, ad, ax⟩, ap, ac, regs⟩ := a; dsimp only at hen hew; subst hen hew; have hax : ax < 18446744073709551616 := rightX_wf17 hA.c; have hap : 0 ≤ ap ∧ ap ≤ 8 := ⟨hA.p0, hA.p8⟩
  have hal6 : regs.length ≤ 6 := hA.l; obtain ⟨al, hal⟩ : ∃ n, regs.length = n := ⟨_, rfl⟩
  obtain ⟨N, hN⟩ : ∃ N : Int, (al : Int) = N := ⟨_, rfl⟩
  have HF := hD (fun w1 (hk : Kp w w1) => lFindS (h.kp hk) ok an aw an aw ao ad ax ap ac regs al hal ha); have hix := fun (w1 : World) (oo : Option Addr) (ak : Nat) (ho : w1.ownsRow _ 96 6 (.slice oo al ak) al (rgE.row regs)) (hr : w1.heap[w.heap.size]? = some (.cells #[mk, mf, mt, an, aw, mr, mp, mo, mc] 63)) => ixrSay (B := ((w.alloc (.cells #[mk, mf, mt, an, aw, mr, mp, mo, mc] 63)).alloc (.cells #[.slice none 0 0, .slice none 0 0, (0:Int)] 37)).heap.size) (w := w1) ho hal (by omega) mk mf mt an aw mr mp mo mc hr
  cases hr : fromE regs mf mp with
  | some i =>
   have hil := fromE_lt hr; obtain ⟨⟨rn, rp, ⟨rq, re, rs, rh⟩⟩, hx⟩ : ∃ x, regs[i]'hil = x := ⟨_, rfl⟩
   have hG : registerE m (⟨mk, mf, mt, an, aw, mr, mp, mo, mc⟩ : MM) now = if rq ≠ mo then ⟨[], [answerM (⟨mk, mf, mt, an, aw, mr, mp, mo, mc⟩ : MM) 19 2], 0⟩ else ⟨[], [registeredE (⟨mk, mf, mt, an, aw, mr, mp, mo, mc⟩ : MM) i], 0⟩ := by
    unfold registerE; dsimp only; rw [ha]; dsimp only; rw [hr]; dsimp only; rw [List.getElem?_eq_getElem hil, hx]
    rfl
   rw [hG]; have hpq : placeQ (regs.findIdx? (fun g => decide (g.node = mf ∧ g.part = mp))) = (i : Int) := by rw [show regs.findIdx? (fun g => decide (g.node = mf ∧ g.part = mp)) = some i from hr]; rfl
   obtain ⟨I, hI⟩ : ∃ I : Int, (i : Int) = I := ⟨_, rfl⟩
   rw [hpq, hI] at hix; rw [hI]; have HIX := hD hix; have HIL := hD (show i < al by omega); obtain ⟨HII, HLN⟩ := hD2 hI hal; have HXX := hD (fun h : i < regs.length => show regs[i]'h = (⟨rn, rp, ⟨rq, re, rs, rh⟩⟩ : RgM) from hx); have hI0 : 0 ≤ I := by omega
   have hI1 : I < N := by omega
   have d0 : decide (I ≥ 0) = true := dT hI0
   by_cases hw : rq = mo
   ·have g1 : (rq != mo) = false := by simp [hw]
    rw [if_neg (by simpa using hw)]; have HCF := hD (fun w1 (hk : Kp w w1) => toForm (lConfirms (w := w1) mk mf mt an aw mr mp mo mc I) (lf := 0) (lm := 1) (wk := 0) rfl rfl rfl); clear V T h ok ha hG hnow hA hR hax hap hal6 hix hr hil hx hpq hw; go_enter Tryz.func74, Tryz.ntmps74; go_wp2_with (first | (go_at_call 60; (with_reducible refine (HF.out _ K2.out).mono ?_); rintro e' w3 ⟨oo, ak, rfl, ho, hk⟩; have kz := kT hk (kA w3 (.cells #[an, aw, ao, ad, ax, ap, ac, .slice oo al ak] 92)); have K3 := hD (kT K2.out kz); have R30 := hD (rZ kz R0.out); have R31 := hD (rZ kz R1.out); have RA3 := hD (mH w3 (.cells #[an, aw, ao, ad, ax, ap, ac, .slice oo al ak] 92)); have OO := hD (oK ho (kA w3 (.cells #[an, aw, ao, ad, ax, ap, ac, .slice oo al ak] 92))); obtain ⟨i0, i1, i2, i3, i4, i5, i6, i7, i8⟩ := cells9 R30.out; obtain ⟨j0, j1, j2⟩ := cellsR3 R31.out; obtain ⟨k0, k1, k2, k3, k4, k5, k6, k7⟩ := c8X RA3.out; have f3 := frozN R31.out; clear hk kz ho) | (go_at_call 129; (with_reducible refine (HIX.out _ _ _ OO.out R30.out).mono ?_); rintro e' w4 ⟨rfl, hk⟩; have K4 := hD (kT K3.out hk); have R40 := hD (rZ hk R30.out); have R41 := hD (rZ hk R31.out); have RA4 := hD (rZ hk RA3.out); have O4 := hD (oK OO.out hk); clear hk))
    obtain ⟨ga, ck, ev, _, _, hgl, _, hc0⟩ := cQ (E := rgE) O4.out HLN.out HIL.out; have ev := congrArg (fun v => match v with | Value.slice a _ _ => a | _ => none) ev; dsimp only at ev; subst ev; have hc0 : ∀ (j : Nat) (u : Value), j < 6 → (rgE.enc (regs[i]'(by have := HIL.out; have := HLN.out; omega)))[j]? = some u → w4.cell? ⟨ga, i * 6 + j, none⟩ = some u := hc0; rw [HXX.out, show i = I.toNat by have := HII.out; omega] at hc0; have cp : w4.cell? ⟨ga, I.toNat * 6 + 2, none⟩ = some (.int .i64 rq) := hc0 2 _ (by decide) rfl; clear hc0 hgl; obtain ⟨WD, hWD⟩ : ∃ x, w4.drew = x := ⟨_, rfl⟩
    have kD : Kp w4 WD := by rw [← hWD]; exact dQ (Kp.refl _)
    have HWD := hD hWD; have K5 := hD (kT K4.out kD); have R50 := hD (rZ kD R40.out); have R51 := hD (rZ kD R41.out); have RA5 := hD (rZ kD RA4.out); have CP5 := hD (kZ kD cp); clear hWD kD; refine rgW (fun w' => w' = WD) ?_ fun hH => ?_
    ·exact by rw [HWD.out]
    rw [HWD.out] at hH ⊢; refine tkP 0 ?_
    go_simp; refine tkP 1 ?_
    go_simp; refine tkP 2 ?_
    go_simp; refine tkP 3 ?_
    go_simp; refine tkP 4 ?_ (y := by intro w hZ; subst hZ; obtain ⟨x0, x1, x2, x3, x4, x5, x6, x7⟩ := c8X RA5.out; go_simp; try rfl)
    go_simp; refine tkP 5 ?_
    go_simp; refine tkP 6 ?_
    go_simp; refine tkP 7 ?_
    go_simp; refine tkP 8 ?_
    go_simp; refine tkP 9 ?_ (y := by intro w hZ; subst hZ; have x2 := CP5.out; go_simp; try rfl)
    go_simp; refine tkP 10 ?_
    go_simp; refine tkP 11 ?_ (y := by intro w hZ; subst hZ; obtain ⟨y0, y1, y2, y3, y4, y5, y6, y7, y8⟩ := cells9 R50.out; go_simp; try rfl)
    go_simp; refine tkP 12 ?_
    go_simp; refine tkP 13 ?_
    go_simp; refine tkP 14 ?_
    go_simp; refine dnW ?_ _
    clear hH; obtain ⟨c0, c1, c2, c3, c4, c5, c6, c7, c8⟩ := cells9 R50.out; obtain ⟨d0, d1, d2⟩ := cellsR3 R51.out; obtain ⟨h0, h1, h2, h3, h4, h5, h6, h7⟩ := c8X RA5.out; have f5 := frozN R51.out; go_wp2_with (go_at_call 132; (with_reducible refine (HCF.out _ K5.out).mono ?_); rintro e' w6 ⟨fa, fc, la, lc, rfl, of, om, hk⟩; have OF := hD (bG of (kS K5.out)); have OM := hD (bG om (kS K5.out)); have K6 := hD (kT K5.out hk); have R6 := hD (rZ hk R51.out); obtain ⟨b0, b1, b2⟩ := cellsR3 R6.out; have f6 := frozN R6.out; clear hk of om)
    refine bodyPost_ret (results_cell_row (p := 6) rfl _ _ (w.heap.size + 1) 37 _ (0, 0) _ rfl (setR3 _ _ _ R6.out) Tryz.underlying37 rfl (by kernel_rfl)) rfl ?_
    exact ⟨_, rfl, RsV.setN R6.out (by decide) (by decide) rfl rfl OF.out OM.out, setR3_kp K6.out (by omega) _ _ _⟩
   ·have g1 : (rq != mo) = true := by simp [hw]
    rw [if_pos hw]; have HRS := hD (fun w1 (hk : Kp w w1) => toForm (lAnswer (w := w1) (⟨mk, mf, mt, an, aw, mr, mp, mo, mc⟩ : MM) 19 2) (lf := 0) (lm := 1) (wk := 0) rfl rfl rfl); dsimp only [MM.cells] at HRS; clear V T h ok ha hG hnow hA hR hax hap hal6 hix hr hil hx hpq hw; go_enter Tryz.func74, Tryz.ntmps74; go_wp2_with (first | (go_at_call 60; (with_reducible refine (HF.out _ K2.out).mono ?_); rintro e' w3 ⟨oo, ak, rfl, ho, hk⟩; have kz := kT hk (kA w3 (.cells #[an, aw, ao, ad, ax, ap, ac, .slice oo al ak] 92)); have K3 := hD (kT K2.out kz); have R30 := hD (rZ kz R0.out); have R31 := hD (rZ kz R1.out); have RA3 := hD (mH w3 (.cells #[an, aw, ao, ad, ax, ap, ac, .slice oo al ak] 92)); have OO := hD (oK ho (kA w3 (.cells #[an, aw, ao, ad, ax, ap, ac, .slice oo al ak] 92))); obtain ⟨i0, i1, i2, i3, i4, i5, i6, i7, i8⟩ := cells9 R30.out; obtain ⟨j0, j1, j2⟩ := cellsR3 R31.out; obtain ⟨k0, k1, k2, k3, k4, k5, k6, k7⟩ := c8X RA3.out; have f3 := frozN R31.out; clear hk kz ho) | (go_at_call 129; (with_reducible refine (HIX.out _ _ _ OO.out R30.out).mono ?_); rintro e' w4 ⟨rfl, hk⟩; have K4 := hD (kT K3.out hk); have R40 := hD (rZ hk R30.out); have R41 := hD (rZ hk R31.out); have RA4 := hD (rZ hk RA3.out); have O4 := hD (oK OO.out hk); clear hk))
    obtain ⟨ga, ck, ev, _, _, hgl, _, hc0⟩ := cQ (E := rgE) O4.out HLN.out HIL.out; have ev := congrArg (fun v => match v with | Value.slice a _ _ => a | _ => none) ev; dsimp only at ev; subst ev; have hc0 : ∀ (j : Nat) (u : Value), j < 6 → (rgE.enc (regs[i]'(by have := HIL.out; have := HLN.out; omega)))[j]? = some u → w4.cell? ⟨ga, i * 6 + j, none⟩ = some u := hc0; rw [HXX.out, show i = I.toNat by have := HII.out; omega] at hc0; have cp : w4.cell? ⟨ga, I.toNat * 6 + 2, none⟩ = some (.int .i64 rq) := hc0 2 _ (by decide) rfl; clear hc0 hgl; obtain ⟨WD, hWD⟩ : ∃ x, w4.drew = x := ⟨_, rfl⟩
    have kD : Kp w4 WD := by rw [← hWD]; exact dQ (Kp.refl _)
    have HWD := hD hWD; have K5 := hD (kT K4.out kD); have R50 := hD (rZ kD R40.out); have R51 := hD (rZ kD R41.out); have RA5 := hD (rZ kD RA4.out); have CP5 := hD (kZ kD cp); clear hWD kD; refine rgW (fun w' => w' = WD) ?_ fun hH => ?_
    ·exact by rw [HWD.out]
    rw [HWD.out] at hH ⊢; refine tkP 0 ?_
    go_simp; refine tkP 1 ?_
    go_simp; refine tkP 2 ?_
    go_simp; refine tkP 3 ?_
    go_simp; refine tkP 4 ?_ (y := by intro w hZ; subst hZ; obtain ⟨x0, x1, x2, x3, x4, x5, x6, x7⟩ := c8X RA5.out; go_simp; try rfl)
    go_simp; refine tkP 5 ?_
    go_simp; refine tkP 6 ?_
    go_simp; refine tkP 7 ?_
    go_simp; refine tkP 8 ?_
    go_simp; refine tkP 9 ?_ (y := by intro w hZ; subst hZ; have x2 := CP5.out; go_simp; try rfl)
    go_simp; refine tkP 10 ?_
    go_simp; refine tkP 11 ?_ (y := by intro w hZ; subst hZ; obtain ⟨y0, y1, y2, y3, y4, y5, y6, y7, y8⟩ := cells9 R50.out; go_simp; try rfl)
    go_simp; refine tkP 12 ?_
    go_simp; refine tkP 13 ?_
    go_simp; refine tkP 14 ?_
    go_simp; refine dnW ?_ _
    clear hH; obtain ⟨c0, c1, c2, c3, c4, c5, c6, c7, c8⟩ := cells9 R50.out; obtain ⟨d0, d1, d2⟩ := cellsR3 R51.out; obtain ⟨h0, h1, h2, h3, h4, h5, h6, h7⟩ := c8X RA5.out; have f5 := frozN R51.out; go_wp2_with (go_at_call 128; (with_reducible refine (HRS.out _ K5.out).mono ?_); rintro e' w6 ⟨fa, fc, la, lc, rfl, of, om, hk⟩; have OF := hD (bG of (kS K5.out)); have OM := hD (bG om (kS K5.out)); have K6 := hD (kT K5.out hk); have R6 := hD (rZ hk R51.out); obtain ⟨b0, b1, b2⟩ := cellsR3 R6.out; have f6 := frozN R6.out; clear hk of om)
    refine bodyPost_ret (results_cell_row (p := 6) rfl _ _ (w.heap.size + 1) 37 _ (0, 0) _ rfl (setR3 _ _ _ R6.out) Tryz.underlying37 rfl (by kernel_rfl)) rfl ?_
    exact ⟨_, rfl, RsV.setN R6.out (by decide) (by decide) rfl rfl OF.out OM.out, setR3_kp K6.out (by omega) _ _ _⟩
  | none =>
   have hpq : placeQ (regs.findIdx? (fun g => decide (g.node = mf ∧ g.part = mp))) = (-1 : Int) := by rw [show regs.findIdx? (fun g => decide (g.node = mf ∧ g.part = mp)) = none from hr]; rfl
   rw [hpq] at hix; have HIX := hD hix; obtain ⟨tb, htb⟩ : ∃ b, takesE m ⟨⟨an, aw, ao, ad, ax⟩, ap, ac, regs⟩ now = b := ⟨_, rfl⟩
   have htk := fun w1 (hk : Kp w w1) (av : Option Addr) (ak : Nat) => lTakes (w := w1) (V.below hk) (T.kp hk) (h.kp hk) now hnow an aw ao ad ax ap ac regs hax hap av al ak hal tb htb
   have HTK := hD htk
   cases tb
   ·have hG : registerE m (⟨mk, mf, mt, an, aw, mr, mp, mo, mc⟩ : MM) now = ⟨[], [answerM (⟨mk, mf, mt, an, aw, mr, mp, mo, mc⟩ : MM) 19 4], 0⟩ := by
     unfold registerE; dsimp only; rw [ha]; dsimp only; rw [hr]; dsimp only; rw [if_pos htb]
    rw [hG]; have HRS := hD (fun w1 (hk : Kp w w1) => toForm (lAnswer (w := w1) (⟨mk, mf, mt, an, aw, mr, mp, mo, mc⟩ : MM) 19 4) (lf := 0) (lm := 1) (wk := 0) rfl rfl rfl); dsimp only [MM.cells] at HRS; clear V T h ok ha hG hnow hA hR hax hap hal6 hix hr hpq htb htk; go_enter Tryz.func74, Tryz.ntmps74; go_wp2_with (first | (go_at_call 60; (with_reducible refine (HF.out _ K2.out).mono ?_); rintro e' w3 ⟨oo, ak, rfl, ho, hk⟩; have kz := kT hk (kA w3 (.cells #[an, aw, ao, ad, ax, ap, ac, .slice oo al ak] 92)); have K3 := hD (kT K2.out kz); have R30 := hD (rZ kz R0.out); have R31 := hD (rZ kz R1.out); have RA3 := hD (mH w3 (.cells #[an, aw, ao, ad, ax, ap, ac, .slice oo al ak] 92)); have OO := hD (oK ho (kA w3 (.cells #[an, aw, ao, ad, ax, ap, ac, .slice oo al ak] 92))); obtain ⟨i0, i1, i2, i3, i4, i5, i6, i7, i8⟩ := cells9 R30.out; obtain ⟨j0, j1, j2⟩ := cellsR3 R31.out; obtain ⟨k0, k1, k2, k3, k4, k5, k6, k7⟩ := c8X RA3.out; have f3 := frozN R31.out; clear hk kz ho) | (go_at_call 129; (with_reducible refine (HIX.out _ _ _ OO.out R30.out).mono ?_); rintro e' w4 ⟨rfl, hk⟩; have K4 := hD (kT K3.out hk); have R40 := hD (rZ hk R30.out); have R41 := hD (rZ hk R31.out); have RA4 := hD (rZ hk RA3.out); have O4 := hD (oK OO.out hk); clear hk))
    obtain ⟨WD, hWD⟩ : ∃ x, w4.drew = x := ⟨_, rfl⟩
    have kD : Kp w4 WD := by rw [← hWD]; exact dQ (Kp.refl _)
    have HWD := hD hWD; have K5 := hD (kT K4.out kD); have R50 := hD (rZ kD R40.out); have R51 := hD (rZ kD R41.out); have RA5 := hD (rZ kD RA4.out); clear hWD kD; refine rgW (fun w' => w' = WD) ?_ fun hH => ?_
    ·exact by rw [HWD.out]
    rw [HWD.out] at hH ⊢; refine tkP 0 ?_
    go_simp; refine tkP 1 ?_
    go_simp; refine tkP 2 ?_
    go_simp; refine skW 3 ?_
    go_simp; refine skW 4 ?_
    go_simp; refine skW 5 ?_
    go_simp; refine skW 6 ?_
    go_simp; refine skW 7 ?_
    go_simp; refine skW 8 ?_
    go_simp; refine skW 9 ?_
    go_simp; refine skW 10 ?_
    go_simp; refine skW 11 ?_
    go_simp; refine skW 12 ?_
    go_simp; refine tkP 13 ?_
    go_simp; refine tkP 14 ?_
    go_simp; refine dnW ?_ _
    clear hH; obtain ⟨c0, c1, c2, c3, c4, c5, c6, c7, c8⟩ := cells9 R50.out; obtain ⟨d0, d1, d2⟩ := cellsR3 R51.out; obtain ⟨h0, h1, h2, h3, h4, h5, h6, h7⟩ := c8X RA5.out; have f5 := frozN R51.out; go_wp2_with (first | (go_at_call 70; (with_reducible refine (HTK.out _ K5.out _ _).mono ?_); rintro e' w6 ⟨rfl, hk⟩; have K6 := hD (kT K5.out hk); have R60 := hD (rZ hk R50.out); have R61 := hD (rZ hk R51.out); have RA6 := hD (rZ hk RA5.out); obtain ⟨l0, l1, l2, l3, l4, l5, l6, l7, l8⟩ := cells9 R60.out; obtain ⟨n0, n1, n2⟩ := cellsR3 R61.out; obtain ⟨o0, o1, o2, o3, o4, o5, o6, o7⟩ := c8X RA6.out; have f6 := frozN R61.out; clear hk) | (go_at_call 128; (with_reducible refine (HRS.out _ K6.out).mono ?_); rintro e' w8 ⟨fa, fc, la, lc, rfl, of, om, hk⟩; have OF := hD (bG of (kS K6.out)); have OM := hD (bG om (kS K6.out)); have K8 := hD (kT K6.out hk); have R8 := hD (rZ hk R61.out); obtain ⟨b0, b1, b2⟩ := cellsR3 R8.out; have f8 := frozN R8.out; clear hk of om))
    refine bodyPost_ret (results_cell_row (p := 6) rfl _ _ (w.heap.size + 1) 37 _ (0, 0) _ rfl (setR3 _ _ _ R8.out) Tryz.underlying37 rfl (by kernel_rfl)) rfl ?_
    exact ⟨_, rfl, RsV.setN R8.out (by decide) (by decide) rfl rfl OF.out OM.out, setR3_kp K8.out (by omega) _ _ _⟩
   have hG : registerE m (⟨mk, mf, mt, an, aw, mr, mp, mo, mc⟩ : MM) now = ⟨[(⟨2, an, aw, N, mf, mp, mo, 0, 0, 0, 0, 0, 0, 0⟩ : FX)], [registeredE (⟨mk, mf, mt, an, aw, mr, mp, mo, mc⟩ : MM) N], 0⟩ := by
    unfold registerE; dsimp only; rw [ha]; dsimp only; rw [hr]; dsimp only; rw [if_neg (by rw [htb]; decide), hal, hN]
    rfl
   rw [hG]; have HCF := hD (fun w1 (hk : Kp w w1) => toForm (lConfirms (w := w1) mk mf mt an aw mr mp mo mc N) (lf := 0) (lm := 1) (wk := 0) rfl rfl rfl); clear V T h ok ha hG hnow hA hR hax hap hal6 hix hr hpq htb htk hal; go_enter Tryz.func74, Tryz.ntmps74; go_wp2_with (first | (go_at_call 60; (with_reducible refine (HF.out _ K2.out).mono ?_); rintro e' w3 ⟨oo, ak, rfl, ho, hk⟩; have kz := kT hk (kA w3 (.cells #[an, aw, ao, ad, ax, ap, ac, .slice oo al ak] 92)); have K3 := hD (kT K2.out kz); have R30 := hD (rZ kz R0.out); have R31 := hD (rZ kz R1.out); have RA3 := hD (mH w3 (.cells #[an, aw, ao, ad, ax, ap, ac, .slice oo al ak] 92)); have OO := hD (oK ho (kA w3 (.cells #[an, aw, ao, ad, ax, ap, ac, .slice oo al ak] 92))); obtain ⟨i0, i1, i2, i3, i4, i5, i6, i7, i8⟩ := cells9 R30.out; obtain ⟨j0, j1, j2⟩ := cellsR3 R31.out; obtain ⟨k0, k1, k2, k3, k4, k5, k6, k7⟩ := c8X RA3.out; have f3 := frozN R31.out; clear hk kz ho) | (go_at_call 129; (with_reducible refine (HIX.out _ _ _ OO.out R30.out).mono ?_); rintro e' w4 ⟨rfl, hk⟩; have K4 := hD (kT K3.out hk); have R40 := hD (rZ hk R30.out); have R41 := hD (rZ hk R31.out); have RA4 := hD (rZ hk RA3.out); have O4 := hD (oK OO.out hk); clear hk))
   obtain ⟨WD, hWD⟩ : ∃ x, w4.drew = x := ⟨_, rfl⟩
   have kD : Kp w4 WD := by rw [← hWD]; exact dQ (Kp.refl _)
   have HWD := hD hWD; have K5 := hD (kT K4.out kD); have R50 := hD (rZ kD R40.out); have R51 := hD (rZ kD R41.out); have RA5 := hD (rZ kD RA4.out); clear hWD kD; refine rgW (fun w' => w' = WD) ?_ fun hH => ?_
   ·exact by rw [HWD.out]
   rw [HWD.out] at hH ⊢; refine tkP 0 ?_
   go_simp; refine tkP 1 ?_
   go_simp; refine tkP 2 ?_
   go_simp; refine skW 3 ?_
   go_simp; refine skW 4 ?_
   go_simp; refine skW 5 ?_
   go_simp; refine skW 6 ?_
   go_simp; refine skW 7 ?_
   go_simp; refine skW 8 ?_
   go_simp; refine skW 9 ?_
   go_simp; refine skW 10 ?_
   go_simp; refine skW 11 ?_
   go_simp; refine skW 12 ?_
   go_simp; refine tkP 13 ?_
   go_simp; refine tkP 14 ?_
   go_simp; refine dnW ?_ _
   clear hH; obtain ⟨c0, c1, c2, c3, c4, c5, c6, c7, c8⟩ := cells9 R50.out; obtain ⟨d0, d1, d2⟩ := cellsR3 R51.out; obtain ⟨h0, h1, h2, h3, h4, h5, h6, h7⟩ := c8X RA5.out; have f5 := frozN R51.out; go_wp2_with (first | (go_at_call 70; (with_reducible refine (HTK.out _ K5.out _ _).mono ?_); rintro e' w6 ⟨rfl, hk⟩; have K6 := hD (kT K5.out hk); have R60 := hD (rZ hk R50.out); have R61 := hD (rZ hk R51.out); have RA6 := hD (rZ hk RA5.out); obtain ⟨l0, l1, l2, l3, l4, l5, l6, l7, l8⟩ := cells9 R60.out; obtain ⟨n0, n1, n2⟩ := cellsR3 R61.out; obtain ⟨o0, o1, o2, o3, o4, o5, o6, o7⟩ := c8X RA6.out; have f6 := frozN R61.out; clear hk) | (go_at_call 132; (with_reducible refine (HCF.out _ K6.out).mono ?_); rintro e' w7 ⟨fa, fc, la, lc, rfl, of, om, hk⟩; have kz : Kp w7 ((w7.alloc (.cells #[.slice fa 0 fc, .slice la 1 lc, (0:Int)] 37)).alloc (.cells #[(2:Int), an, aw, N, mf, mp, mo, (0:Int), (0:Int), (0:Int), (0:Int), (0:Int), (0:Int), .float .f64 0] 87)) := pk2 _ _ _; have K7 := hD (kT K6.out (kT hk (pk2 w7 (.cells #[.slice (some ⟨w7.heap.size + 1, 0, none⟩) 1 1, .slice la 1 lc, (0:Int)] 37) (.cells #[(2:Int), an, aw, N, mf, mp, mo, (0:Int), (0:Int), (0:Int), (0:Int), (0:Int), (0:Int), .float .f64 0] 87)))); have R70 := hD (rZ (kT hk (kA w7 (.cells #[.slice fa 0 fc, .slice la 1 lc, (0:Int)] 37))) R60.out); have RA7 := hD (rZ (kT hk (kA w7 (.cells #[.slice fa 0 fc, .slice la 1 lc, (0:Int)] 37))) RA6.out); have R71 := hD (rZ (kT hk (pk2 w7 (.cells #[.slice (some ⟨w7.heap.size + 1, 0, none⟩) 1 1, .slice la 1 lc, (0:Int)] 37) (.cells #[(2:Int), an, aw, N, mf, mp, mo, (0:Int), (0:Int), (0:Int), (0:Int), (0:Int), (0:Int), .float .f64 0] 87))) R61.out); obtain ⟨p0, p1, p2, p3, p4, p5, p6, p7, p8⟩ := cells9 R70.out; obtain ⟨q0, q1, q2, q3, q4, q5, q6, q7⟩ := c8X RA7.out; obtain ⟨s0, s1, s2⟩ := cellsR3 (mH w7 (.cells #[.slice fa 0 fc, .slice la 1 lc, (0:Int)] 37)); obtain ⟨t0, t1, t2⟩ := cellsR3 (nX0 w7 (.cells #[.slice fa 0 fc, .slice la 1 lc, (0:Int)] 37) (.cells #[(2:Int), an, aw, N, mf, mp, mo, (0:Int), (0:Int), (0:Int), (0:Int), (0:Int), (0:Int), .float .f64 0] 87)); have g7 := frozN (nX0 w7 (.cells #[.slice fa 0 fc, .slice la 1 lc, (0:Int)] 37) (.cells #[(2:Int), an, aw, N, mf, mp, mo, (0:Int), (0:Int), (0:Int), (0:Int), (0:Int), (0:Int), .float .f64 0] 87)); obtain ⟨u0, u1, u2⟩ := cellsR3 (nX0 w7 (.cells #[.slice (some ⟨w7.heap.size + 1, 0, none⟩) 1 1, .slice la 1 lc, (0:Int)] 37) (.cells #[(2:Int), an, aw, N, mf, mp, mo, (0:Int), (0:Int), (0:Int), (0:Int), (0:Int), (0:Int), .float .f64 0] 87)); obtain ⟨v0, v1, v2⟩ := cellsR3 R71.out; have f7 := frozN R71.out; have OF := hD (own_one1 w7 (.cells #[.slice (some ⟨w7.heap.size + 1, 0, none⟩) 1 1, .slice la 1 lc, (0:Int)] 37) (⟨2, an, aw, N, mf, mp, mo, 0, 0, 0, 0, 0, 0, 0⟩ : FX) (kS (kT K6.out hk))); have OM := hD (bG (oK om (pk2 w7 (.cells #[.slice (some ⟨w7.heap.size + 1, 0, none⟩) 1 1, .slice la 1 lc, (0:Int)] 37) (.cells #[(2:Int), an, aw, N, mf, mp, mo, (0:Int), (0:Int), (0:Int), (0:Int), (0:Int), (0:Int), .float .f64 0] 87))) (kS K6.out)); clear hk of om kz))
   refine bodyPost_ret (results_cell_row (p := 6) rfl _ _ (w.heap.size + 1) 37 _ (0, 0) _ rfl (setR3 _ _ _ R71.out) Tryz.underlying37 rfl (by kernel_rfl)) rfl ?_
   exact ⟨_, rfl, RsV.setN (r := ⟨[(⟨2, an, aw, N, mf, mp, mo, 0, 0, 0, 0, 0, 0, 0⟩ : FX)], [registeredE (⟨mk, mf, mt, an, aw, mr, mp, mo, mc⟩ : MM) N], 0⟩) R71.out (by decide) (by decide) rfl rfl OF.out OM.out, setR3_kp K7.out (by omega) _ _ _⟩
theorem lTell0 (V : St ads w) (T : Tab w) (TC : TabC ads w) (TS : TabS ads w) (h : SL B q m w) (ok : OkS m) (mk mf mt mn ms mr mp mo mc : Int) (now : Nat) (hnow : now < 18446744073709551616) : Calls Tryz.prog 29 #[.pointer (some ⟨q, 0, none⟩), .agg #[mk, mf, mt, mn, ms, mr, mp, mo, mc], .float .f64 now] w fun r w' => ∃ v, r = .returned v ∧ RsV 87 w.heap.size (leadE m (⟨mk, mf, mt, mn, ms, mr, mp, mo, mc⟩ : MM) now) v w' ∧ Kp w w' := by
 have ce : w.cell? ⟨3, 0, none⟩ = some (errI ads 4) := (ep_of_st (S := [3]) V (by decide)).cell 3 (by decide); have R0 := hD (nX0 w (.cells #[mk, mf, mt, mn, ms, mr, mp, mo, mc] 63) (.cells #[.slice none 0 0, .slice none 0 0, (0:Int)] 37)); have R1 := hD (nX1 w (.cells #[mk, mf, mt, mn, ms, mr, mp, mo, mc] 63) (.cells #[.slice none 0 0, .slice none 0 0, (0:Int)] 37)); have K2 := hD (pk2 w (.cells #[mk, mf, mt, mn, ms, mr, mp, mo, mc] 63) (.cells #[.slice none 0 0, .slice none 0 0, (0:Int)] 37)); obtain ⟨b0, b1, b2, b3, b4, b5, b6, b7, b8⟩ := cells9 R0.out; obtain ⟨nd, hnd⟩ : ∃ n, m.node = n := ⟨_, rfl⟩
 have hno := fun w1 (hk : Kp w w1) => (h.kp hk).nodeOf
 rw [hnd] at hno; have HNO := hD hno; clear hno
 by_cases ht : mt = nd
 rotate_left
 ·have hG : leadE m (⟨mk, mf, mt, mn, ms, mr, mp, mo, mc⟩ : MM) now = rs0 := by unfold leadE; rw [if_pos (by rw [hnd]; exact ht)]
  rw [hG]; have g1 : (mt != nd) = true := by simp [ht]
  clear V T TC TS ce h ok hnow hnd ht hG; go_enter Tryz.func29, Tryz.ntmps29; go_wp2_with fail
  obtain ⟨WD, hWD⟩ : ∃ x, ((w.alloc (.cells #[mk, mf, mt, mn, ms, mr, mp, mo, mc] 63)).alloc (.cells #[.slice none 0 0, .slice none 0 0, (0:Int)] 37)).drew = x := ⟨_, rfl⟩
  have kD : Kp ((w.alloc (.cells #[mk, mf, mt, mn, ms, mr, mp, mo, mc] 63)).alloc (.cells #[.slice none 0 0, .slice none 0 0, (0:Int)] 37)) WD := by rw [← hWD]; exact dQ (Kp.refl _)
  have HWD := hD hWD; have R0D := hD (rZ kD R0.out); have R1D := hD (rZ kD R1.out); have KD := hD (kT K2.out kD); clear hWD kD; refine rgW (fun w' => w'.heap[w.heap.size]? = some (.cells #[mk, mf, mt, mn, ms, mr, mp, mo, mc] 63) ∧ Kp w w') ?_ fun hH => ?_
  ·exact by rw [HWD.out]; exact ⟨R0D.out, KD.out⟩
  rw [HWD.out] at hH ⊢; refine tkP 0 ?_
  go_simp; refine tkP 1 ?_
  go_simp; refine tkP 2 ?_
  go_simp; refine tkP 3 ?_
  go_simp; refine tkP 4 ?_ (y := by intro w hZ; obtain ⟨y0, y1, y2, y3, y4, y5, y6, y7, y8⟩ := cells9 hZ.1; go_simp; try rfl)
  go_simp; refine tkP 5 ?_
  go_simp; refine rdW 6 fun K hK => ?_
  go_simp; go_wp2_with (go_at_call 73; (with_reducible refine (HNO.out _ hH.2).mono ?_); rintro e' w' ⟨rfl, rfl⟩)
  refine hK.out _ _ (hH) fun hH => ?_
  clear hK K; refine tkP 7 ?_
  go_simp; refine tkP 8 ?_
  go_simp; refine tkP 9 ?_
  go_simp; refine dnW ?_ _
  clear hH; obtain ⟨a0, a1, a2, a3, a4, a5, a6, a7, a8⟩ := cells9 R0D.out; obtain ⟨c0, c1, c2⟩ := cellsR3 R1D.out; have fz := frozN R1D.out; go_wp2; refine bodyPost_ret (results_cell_row (p := 6) rfl _ _ (w.heap.size + 1) 37 _ (0, 0) _ rfl (setR3 (.slice none 0 0) (.slice none 0 0) (.int .i64 0) R1D.out) Tryz.underlying37 rfl (by kernel_rfl)) rfl ?_
  exact ⟨_, rfl, RsV.zero _ _ _, setR3_kp KD.out (by omega) _ _ _⟩
 have g1 : (mt != nd) = false := by simp [ht]
 by_cases h17 : mk = 17
 ·have hG : leadE m (⟨mk, mf, mt, mn, ms, mr, mp, mo, mc⟩ : MM) now = registerE m (⟨mk, mf, mt, mn, ms, mr, mp, mo, mc⟩ : MM) now := by unfold leadE; rw [if_neg (by rw [hnd]; simpa using ht), if_pos h17]
  rw [hG]; have hrs := fun w1 (hk : Kp w w1) => lEnrolls (w := w1) (V.below hk) (T.kp hk) (h.kp hk) ok mk mf mt mn ms mr mp mo mc now hnow
  obtain ⟨RR, hRR⟩ : ∃ r, registerE m (⟨mk, mf, mt, mn, ms, mr, mp, mo, mc⟩ : MM) now = r := ⟨_, rfl⟩
  obtain ⟨lf, hlf⟩ : ∃ n, RR.facts.length = n := ⟨_, rfl⟩
  obtain ⟨lm, hlm⟩ : ∃ n, RR.send.length = n := ⟨_, rfl⟩
  obtain ⟨wk, hwk⟩ : ∃ x, RR.work = x := ⟨_, rfl⟩
  obtain ⟨HLF, HLM, HWK⟩ := hD3 hlf hlm hwk; rw [hRR] at hrs ⊢; have HRS := hD (fun w1 (hk1 : Kp w w1) => toForm (hrs w1 hk1) hlf hlm hwk); have g17 : (mk == 17) = true := beq_iff_eq.2 h17; clear V T TC TS ce h ok hnow hnd ht hG h17 hrs hRR hlf hlm hwk; go_enter Tryz.func29, Tryz.ntmps29; go_wp2_with fail
  obtain ⟨WD, hWD⟩ : ∃ x, ((w.alloc (.cells #[mk, mf, mt, mn, ms, mr, mp, mo, mc] 63)).alloc (.cells #[.slice none 0 0, .slice none 0 0, (0:Int)] 37)).drew = x := ⟨_, rfl⟩
  have kD : Kp ((w.alloc (.cells #[mk, mf, mt, mn, ms, mr, mp, mo, mc] 63)).alloc (.cells #[.slice none 0 0, .slice none 0 0, (0:Int)] 37)) WD := by rw [← hWD]; exact dQ (Kp.refl _)
  have HWD := hD hWD; have R0D := hD (rZ kD R0.out); have R1D := hD (rZ kD R1.out); have KD := hD (kT K2.out kD); clear hWD kD; refine rgW (fun w' => w'.heap[w.heap.size]? = some (.cells #[mk, mf, mt, mn, ms, mr, mp, mo, mc] 63) ∧ Kp w w') ?_ fun hH => ?_
  ·exact by rw [HWD.out]; exact ⟨R0D.out, KD.out⟩
  rw [HWD.out] at hH ⊢; refine tkP 0 ?_
  go_simp; refine tkP 1 ?_
  go_simp; refine tkP 2 ?_
  go_simp; refine tkP 3 ?_
  go_simp; refine tkP 4 ?_ (y := by intro w hZ; obtain ⟨y0, y1, y2, y3, y4, y5, y6, y7, y8⟩ := cells9 hZ.1; go_simp; try rfl)
  go_simp; refine tkP 5 ?_
  go_simp; refine rdW 6 fun K hK => ?_
  go_simp; go_wp2_with (go_at_call 73; (with_reducible refine (HNO.out _ hH.2).mono ?_); rintro e' w' ⟨rfl, rfl⟩)
  refine hK.out _ _ (hH) fun hH => ?_
  clear hK K; refine tkP 7 ?_
  go_simp; refine tkP 8 ?_
  go_simp; refine tkP 9 ?_
  go_simp; refine dnW ?_ _
  clear hH; obtain ⟨a0, a1, a2, a3, a4, a5, a6, a7, a8⟩ := cells9 R0D.out; obtain ⟨c0, c1, c2⟩ := cellsR3 R1D.out; have fz := frozN R1D.out; go_wp2_with (go_at_call 74; (with_reducible refine (HRS.out _ (KD.out)).mono ?_); rintro e' w9 ⟨fa, fc, la, lc, rfl, of, om, hk⟩; have OF := hD (bG of (kS KD.out)); have OM := hD (bG om (kS KD.out)); have K9 := hD (kT KD.out hk); have R9 := hD (rZ hk R1D.out); obtain ⟨v0, v1, v2⟩ := cellsR3 R9.out; have f9 := frozN R9.out; clear hk of om)
  refine bodyPost_ret (results_cell_row (p := 6) rfl _ _ (w.heap.size + 1) 37 _ (0, 0) _ rfl (setR3 _ _ _ R9.out) Tryz.underlying37 rfl (by kernel_rfl)) rfl ?_
  refine ⟨_, rfl, ?_, setR3_kp K9.out (by omega) _ _ _⟩
  have e1 := HWK.out; subst e1; exact RsV.setN R9.out (by decide) (by decide) HLF.out HLM.out OF.out OM.out
 have g17 : (mk == 17) = false := by simpa using h17
 have hup0 := fun w => up_any mk w
 by_cases h15 : mk = 15
 ·have hG : leadE m (⟨mk, mf, mt, mn, ms, mr, mp, mo, mc⟩ : MM) now = hearsE m (⟨mk, mf, mt, mn, ms, mr, mp, mo, mc⟩ : MM) := leadE_hears (by rw [hnd]; exact ht) h17 (.inl h15); rw [hG]; have hrs := fun w1 (hk : Kp w w1) => lHears (w := w1) (TC.kp hk) (TS.kp hk) (kZ hk ce) (h.kp hk) ok mk mf mt mn ms mr mp mo mc (.inl h15)
  obtain ⟨RR, hRR⟩ : ∃ r, hearsE m (⟨mk, mf, mt, mn, ms, mr, mp, mo, mc⟩ : MM) = r := ⟨_, rfl⟩
  obtain ⟨lf, hlf⟩ : ∃ n, RR.facts.length = n := ⟨_, rfl⟩
  obtain ⟨lm, hlm⟩ : ∃ n, RR.send.length = n := ⟨_, rfl⟩
  obtain ⟨wk, hwk⟩ : ∃ x, RR.work = x := ⟨_, rfl⟩
  obtain ⟨HLF, HLM, HWK⟩ := hD3 hlf hlm hwk; rw [hRR] at hrs ⊢; have HRS := hD (fun w1 (hk1 : Kp w w1) => toForm (hrs w1 hk1) hlf hlm hwk); have g15 : (mk == 15) = true := beq_iff_eq.2 h15; clear V T TC TS ce h ok hnow hnd ht hG h17 h15 hrs hRR hlf hlm hwk hup0; go_enter Tryz.func29, Tryz.ntmps29; go_wp2_with fail
  obtain ⟨WD, hWD⟩ : ∃ x, ((w.alloc (.cells #[mk, mf, mt, mn, ms, mr, mp, mo, mc] 63)).alloc (.cells #[.slice none 0 0, .slice none 0 0, (0:Int)] 37)).drew = x := ⟨_, rfl⟩
  have kD : Kp ((w.alloc (.cells #[mk, mf, mt, mn, ms, mr, mp, mo, mc] 63)).alloc (.cells #[.slice none 0 0, .slice none 0 0, (0:Int)] 37)) WD := by rw [← hWD]; exact dQ (Kp.refl _)
  have HWD := hD hWD; have R0D := hD (rZ kD R0.out); have R1D := hD (rZ kD R1.out); have KD := hD (kT K2.out kD); clear hWD kD; refine rgW (fun w' => w'.heap[w.heap.size]? = some (.cells #[mk, mf, mt, mn, ms, mr, mp, mo, mc] 63) ∧ Kp w w') ?_ fun hH => ?_
  ·exact by rw [HWD.out]; exact ⟨R0D.out, KD.out⟩
  rw [HWD.out] at hH ⊢; refine tkP 0 ?_
  go_simp; refine tkP 1 ?_
  go_simp; refine tkP 2 ?_
  go_simp; refine tkP 3 ?_
  go_simp; refine tkP 4 ?_ (y := by intro w hZ; obtain ⟨y0, y1, y2, y3, y4, y5, y6, y7, y8⟩ := cells9 hZ.1; go_simp; try rfl)
  go_simp; refine tkP 5 ?_
  go_simp; refine rdW 6 fun K hK => ?_
  go_simp; go_wp2_with (go_at_call 73; (with_reducible refine (HNO.out _ hH.2).mono ?_); rintro e' w' ⟨rfl, rfl⟩)
  refine hK.out _ _ (hH) fun hH => ?_
  clear hK K; refine tkP 7 ?_
  go_simp; refine tkP 8 ?_
  go_simp; refine tkP 9 ?_
  go_simp; refine dnW ?_ _
  clear hH; obtain ⟨a0, a1, a2, a3, a4, a5, a6, a7, a8⟩ := cells9 R0D.out; obtain ⟨c0, c1, c2⟩ := cellsR3 R1D.out; have fz := frozN R1D.out; go_wp2_with (go_at_call 76; (with_reducible refine (HRS.out _ (KD.out)).mono ?_); rintro e' w9 ⟨fa, fc, la, lc, rfl, of, om, hk⟩; have OF := hD (bG of (kS KD.out)); have OM := hD (bG om (kS KD.out)); have K9 := hD (kT KD.out hk); have R9 := hD (rZ hk R1D.out); obtain ⟨v0, v1, v2⟩ := cellsR3 R9.out; have f9 := frozN R9.out; clear hk of om)
  refine bodyPost_ret (results_cell_row (p := 6) rfl _ _ (w.heap.size + 1) 37 _ (0, 0) _ rfl (setR3 _ _ _ R9.out) Tryz.underlying37 rfl (by kernel_rfl)) rfl ?_
  refine ⟨_, rfl, ?_, setR3_kp K9.out (by omega) _ _ _⟩
  have e1 := HWK.out; subst e1; exact RsV.setN R9.out (by decide) (by decide) HLF.out HLM.out OF.out OM.out
 have g15 : (mk == 15) = false := by simpa using h15
 cases hup : upM mk with
 | false =>
  have hG : leadE m (⟨mk, mf, mt, mn, ms, mr, mp, mo, mc⟩ : MM) now = rs0 := by unfold leadE; rw [if_neg (by rw [hnd]; simpa using ht), if_neg h17, if_pos ⟨h15, hup⟩]
  rw [hG]; rw [hup] at hup0; have HUP := hD hup0; clear V T TC TS ce h ok hnow hnd ht hG h17 h15 hup hup0; go_enter Tryz.func29, Tryz.ntmps29; go_wp2_with fail
  obtain ⟨WD, hWD⟩ : ∃ x, ((w.alloc (.cells #[mk, mf, mt, mn, ms, mr, mp, mo, mc] 63)).alloc (.cells #[.slice none 0 0, .slice none 0 0, (0:Int)] 37)).drew = x := ⟨_, rfl⟩
  have kD : Kp ((w.alloc (.cells #[mk, mf, mt, mn, ms, mr, mp, mo, mc] 63)).alloc (.cells #[.slice none 0 0, .slice none 0 0, (0:Int)] 37)) WD := by rw [← hWD]; exact dQ (Kp.refl _)
  have HWD := hD hWD; have R0D := hD (rZ kD R0.out); have R1D := hD (rZ kD R1.out); have KD := hD (kT K2.out kD); clear hWD kD; refine rgW (fun w' => w'.heap[w.heap.size]? = some (.cells #[mk, mf, mt, mn, ms, mr, mp, mo, mc] 63) ∧ Kp w w') ?_ fun hH => ?_
  ·exact by rw [HWD.out]; exact ⟨R0D.out, KD.out⟩
  rw [HWD.out] at hH ⊢; refine tkP 0 ?_
  go_simp; refine tkP 1 ?_
  go_simp; refine tkP 2 ?_
  go_simp; refine tkP 3 ?_
  go_simp; refine tkP 4 ?_ (y := by intro w hZ; obtain ⟨y0, y1, y2, y3, y4, y5, y6, y7, y8⟩ := cells9 hZ.1; go_simp; try rfl)
  go_simp; refine tkP 5 ?_
  go_simp; refine rdW 6 fun K hK => ?_
  go_simp; go_wp2_with (go_at_call 73; (with_reducible refine (HNO.out _ hH.2).mono ?_); rintro e' w' ⟨rfl, rfl⟩)
  refine hK.out _ _ (hH) fun hH => ?_
  clear hK K; refine tkP 7 ?_
  go_simp; refine tkP 8 ?_
  go_simp; refine tkP 9 ?_
  go_simp; refine dnW ?_ _
  clear hH; obtain ⟨a0, a1, a2, a3, a4, a5, a6, a7, a8⟩ := cells9 R0D.out; obtain ⟨c0, c1, c2⟩ := cellsR3 R1D.out; have fz := frozN R1D.out; go_wp2_with (go_at_call 75; (with_reducible refine (HUP.out _).mono ?_); rintro e' w8 ⟨rfl, rfl⟩)
  refine bodyPost_ret (results_cell_row (p := 6) rfl _ _ (w.heap.size + 1) 37 _ (0, 0) _ rfl (setR3 (.slice none 0 0) (.slice none 0 0) (.int .i64 0) R1D.out) Tryz.underlying37 rfl (by kernel_rfl)) rfl ?_
  exact ⟨_, rfl, RsV.zero _ _ _, setR3_kp KD.out (by omega) _ _ _⟩
 | true =>
  have hG : leadE m (⟨mk, mf, mt, mn, ms, mr, mp, mo, mc⟩ : MM) now = hearsE m (⟨mk, mf, mt, mn, ms, mr, mp, mo, mc⟩ : MM) := leadE_hears (by rw [hnd]; exact ht) h17 (.inr hup); rw [hG]; have hrs := fun w1 (hk : Kp w w1) => lHears (w := w1) (TC.kp hk) (TS.kp hk) (kZ hk ce) (h.kp hk) ok mk mf mt mn ms mr mp mo mc (.inr hup)
  obtain ⟨RR, hRR⟩ : ∃ r, hearsE m (⟨mk, mf, mt, mn, ms, mr, mp, mo, mc⟩ : MM) = r := ⟨_, rfl⟩
  obtain ⟨lf, hlf⟩ : ∃ n, RR.facts.length = n := ⟨_, rfl⟩
  obtain ⟨lm, hlm⟩ : ∃ n, RR.send.length = n := ⟨_, rfl⟩
  obtain ⟨wk, hwk⟩ : ∃ x, RR.work = x := ⟨_, rfl⟩
  obtain ⟨HLF, HLM, HWK⟩ := hD3 hlf hlm hwk; rw [hRR] at hrs ⊢; have HRS := hD (fun w1 (hk1 : Kp w w1) => toForm (hrs w1 hk1) hlf hlm hwk); rw [hup] at hup0; have HUP := hD hup0; clear V T TC TS ce h ok hnow hnd ht hG h17 h15 hrs hRR hlf hlm hwk hup hup0; go_enter Tryz.func29, Tryz.ntmps29; go_wp2_with fail
  obtain ⟨WD, hWD⟩ : ∃ x, ((w.alloc (.cells #[mk, mf, mt, mn, ms, mr, mp, mo, mc] 63)).alloc (.cells #[.slice none 0 0, .slice none 0 0, (0:Int)] 37)).drew = x := ⟨_, rfl⟩
  have kD : Kp ((w.alloc (.cells #[mk, mf, mt, mn, ms, mr, mp, mo, mc] 63)).alloc (.cells #[.slice none 0 0, .slice none 0 0, (0:Int)] 37)) WD := by rw [← hWD]; exact dQ (Kp.refl _)
  have HWD := hD hWD; have R0D := hD (rZ kD R0.out); have R1D := hD (rZ kD R1.out); have KD := hD (kT K2.out kD); clear hWD kD; refine rgW (fun w' => w'.heap[w.heap.size]? = some (.cells #[mk, mf, mt, mn, ms, mr, mp, mo, mc] 63) ∧ Kp w w') ?_ fun hH => ?_
  ·exact by rw [HWD.out]; exact ⟨R0D.out, KD.out⟩
  rw [HWD.out] at hH ⊢; refine tkP 0 ?_
  go_simp; refine tkP 1 ?_
  go_simp; refine tkP 2 ?_
  go_simp; refine tkP 3 ?_
  go_simp; refine tkP 4 ?_ (y := by intro w hZ; obtain ⟨y0, y1, y2, y3, y4, y5, y6, y7, y8⟩ := cells9 hZ.1; go_simp; try rfl)
  go_simp; refine tkP 5 ?_
  go_simp; refine rdW 6 fun K hK => ?_
  go_simp; go_wp2_with (go_at_call 73; (with_reducible refine (HNO.out _ hH.2).mono ?_); rintro e' w' ⟨rfl, rfl⟩)
  refine hK.out _ _ (hH) fun hH => ?_
  clear hK K; refine tkP 7 ?_
  go_simp; refine tkP 8 ?_
  go_simp; refine tkP 9 ?_
  go_simp; refine dnW ?_ _
  clear hH; obtain ⟨a0, a1, a2, a3, a4, a5, a6, a7, a8⟩ := cells9 R0D.out; obtain ⟨c0, c1, c2⟩ := cellsR3 R1D.out; have fz := frozN R1D.out; go_wp2_with (first | (go_at_call 75; (with_reducible refine (HUP.out _).mono ?_); rintro e' w8 ⟨rfl, rfl⟩) | (go_at_call 76; (with_reducible refine (HRS.out _ (KD.out)).mono ?_); rintro e' w9 ⟨fa, fc, la, lc, rfl, of, om, hk⟩; have OF := hD (bG of (kS KD.out)); have OM := hD (bG om (kS KD.out)); have K9 := hD (kT KD.out hk); have R9 := hD (rZ hk R1D.out); obtain ⟨v0, v1, v2⟩ := cellsR3 R9.out; have f9 := frozN R9.out; clear hk of om))
  refine bodyPost_ret (results_cell_row (p := 6) rfl _ _ (w.heap.size + 1) 37 _ (0, 0) _ rfl (setR3 _ _ _ R9.out) Tryz.underlying37 rfl (by kernel_rfl)) rfl ?_
  refine ⟨_, rfl, ?_, setR3_kp K9.out (by omega) _ _ _⟩
  have e1 := HWK.out; subst e1; exact RsV.setN R9.out (by decide) (by decide) HLF.out HLM.out OF.out OM.out
theorem lTell (V : St ads w) (T : Tab w) (TC : TabC ads w) (TS : TabS ads w) (h : SL B q m w) (ok : OkS m) (g : MM) (now : Nat) (hnow : now < 18446744073709551616) : Calls Tryz.prog 29 #[.pointer (some ⟨q, 0, none⟩), .agg g.cells, .float .f64 now] w fun r w' => ∃ v, r = .returned v ∧ RsV 87 w.heap.size (leadE m g now) v w' ∧ Kp w w' := lTell0 V T TC TS h ok g.k g.f g.t g.n g.s g.r g.p g.o g.c now hnow
end Go.Proofs.YtlmlmhmhgdjhnaaGreatDoor
