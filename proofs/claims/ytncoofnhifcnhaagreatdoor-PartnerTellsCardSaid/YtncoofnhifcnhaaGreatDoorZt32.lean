/- Parts of this proof (own work). -/
import Derived.Test.YtncoofnhifcnhaaGreatDoorZt31
set_option maxRecDepth 100000
set_option maxHeartbeats 40000000
namespace Go.Proofs.YtncoofnhifcnhaaGreatDoor
open Go.RowKit Go.ChangeShapes Go.WideShapes
variable {w0 w w' W w3 : World} {B q : Nat} {m : StM} {ads : List Addr}
theorem fits_dec {m : StM} {g : MM} {x : PaM} (h : prtP m g.p = some x) (hr : -1 ≤ x.reg) : fitsP m g = if (decide (g.n = x.n ∧ g.s = x.s) && (g.f == x.n && (g.t == m.node && (decide (x.reg = -1) || g.r == x.reg)))) = true then some x else none := by
 unfold fitsP; rw [h]; dsimp only
 by_cases hc : x.n = g.n ∧ x.s = g.s ∧ g.f = g.n ∧ g.t = m.node ∧ (x.reg < 0 ∨ x.reg = g.r)
 ·rw [if_pos hc]; obtain ⟨h1, h2, h3, h4, h5⟩ := hc; rw [if_pos]; simp only [Bool.and_eq_true, decide_eq_true_eq, beq_iff_eq, Bool.or_eq_true]
  exact ⟨⟨h1.symm, h2.symm⟩, by rw [h3, h1], h4, by omega⟩
 ·rw [if_neg hc, if_neg]; simp only [Bool.and_eq_true, decide_eq_true_eq, beq_iff_eq, Bool.or_eq_true]
  rintro ⟨⟨h1, h2⟩, h3, h4, h5⟩; exact hc ⟨h1.symm, h2.symm, by rw [h3, h1], h4, by omega⟩
theorem fits_none {m : StM} {g : MM} (h : prtP m g.p = none) : fitsP m g = none := by unfold fitsP; rw [h]
theorem down_not {k : Int} (h : downM k = true) : k ≠ 18 ∧ k ≠ 19 ∧ k ≠ 15 ∧ i64M k := by
 have := down_in h; refine ⟨by omega, by omega, by omega, ?_⟩
 unfold i64M; omega
theorem tell_not {m : StM} {g : MM} (h : fitsP m g = none) : tellP m g = if (decide (g.k = 15) || downM g.k) = true then ⟨[], [answerM g 19 3], 0⟩ else rs0 := by
 unfold tellP; rw [h]; dsimp only
 by_cases h1 : g.k = 18
 ·rw [if_pos h1, if_neg (by rw [h1]; decide)]
 rw [if_neg h1]
 by_cases h2 : g.k = 19
 ·rw [if_pos h2, if_neg (by rw [h2]; decide)]
 rw [if_neg h2]
 by_cases h3 : g.k = 15
 ·rw [if_pos h3, if_pos (by rw [h3]; decide)]
 rw [if_neg h3, dF h3, Bool.false_or]
 cases downM g.k <;> rfl
theorem pTell0 (V : St ads w) (TC : TabC ads w) (h : SL B q m w) (ok : OkS m) (gk gf gt gn gs gr gp go gc : Int) : Calls Tryz.prog 10 #[.pointer (some ⟨q, 0, none⟩), .agg #[gk, gf, gt, gn, gs, gr, gp, go, gc]] w fun r w' => ∃ v, r = .returned v ∧ RsV 73 w.heap.size (tellP m (⟨gk, gf, gt, gn, gs, gr, gp, go, gc⟩ : MM)) v w' ∧ Kp w w' := by
 obtain ⟨nd, hnd⟩ : ∃ n, m.node = n := ⟨_, rfl⟩
 have R0 := hD (nX0 w (.cells #[gk, gf, gt, gn, gs, gr, gp, go, gc] 26) (.cells #[.slice none 0 0, .slice none 0 0, (0:Int)] 34)); have R1 := hD (nX1 w (.cells #[gk, gf, gt, gn, gs, gr, gp, go, gc] 26) (.cells #[.slice none 0 0, .slice none 0 0, (0:Int)] 34)); have K1 := hD (pk2 w (.cells #[gk, gf, gt, gn, gs, gr, gp, go, gc] 26) (.cells #[.slice none 0 0, .slice none 0 0, (0:Int)] 34)); obtain ⟨s0, s1, s2, s3, s4, s5, s6, s7, s8⟩ := cells9 R0.out; have has := fun w => kAsks (w := w) gk
 cases hx : prtP m gp with
 | none =>
  have HF := hD (fun w1 (hk : Kp w w1) => pFind (h.kp hk) gp nd hnd 0 0 0 0 0 0 0 false (.inr ⟨hx, rfl, rfl⟩)); have hfits : fitsP m (⟨gk, gf, gt, gn, gs, gr, gp, go, gc⟩ : MM) = none := fits_none hx
  cases hask : (decide (gk = 15) || downM gk) with
  | true =>
   rw [hask] at has; have HAS := hD has; have hT : tellP m (⟨gk, gf, gt, gn, gs, gr, gp, go, gc⟩ : MM) = ⟨[], [answerM (⟨gk, gf, gt, gn, gs, gr, gp, go, gc⟩ : MM) 19 3], 0⟩ := by rw [tell_not hfits]; exact if_pos hask
   obtain ⟨RR, hRR⟩ : ∃ r, tellP m (⟨gk, gf, gt, gn, gs, gr, gp, go, gc⟩ : MM) = r := ⟨_, rfl⟩
   have hres := fun w1 (hk : Kp w w1) => kAnswer (w := w1) (⟨gk, gf, gt, gn, gs, gr, gp, go, gc⟩ : MM) 19 3
   rw [← hT, hRR] at hres; rw [hRR]; obtain ⟨lf, hlf⟩ : ∃ n, RR.facts.length = n := ⟨_, rfl⟩
   obtain ⟨lm, hlm⟩ : ∃ n, RR.send.length = n := ⟨_, rfl⟩
   obtain ⟨wk, hwk⟩ : ∃ x, RR.work = x := ⟨_, rfl⟩
   have HRS := hD (fun w1 (hk : Kp w w1) => (hres w1 hk).mono (R' := fun r w' => ∃ fa fc ma mc, r = .returned (.agg #[.slice fa lf fc, .slice ma lm mc, wk]) ∧ w'.ownsRow w1.heap.size 73 14 (.slice fa lf fc) lf (fcE.row RR.facts) ∧ w'.ownsRow w1.heap.size 26 9 (.slice ma lm mc) lm (mmE.row RR.send) ∧ Kp w1 w') (by
    rintro e w2 ⟨v, rfl, h, hk⟩; obtain ⟨fa, fc, ma, mc, rfl, h1, h2⟩ := RsV.form h hlf hlm; rw [hwk]; exact ⟨fa, fc, ma, mc, rfl, h1, h2, hk⟩))
   obtain ⟨HLF, HLM, HWK⟩ := hD3 hlf hlm hwk; dsimp only [MM.cells] at HRS; clear V TC h ok hx hT hres hRR hlf hlm hwk hfits has hask hnd; go_enter Tryz.func10, Tryz.ntmps10; go_wp2_with (first | (go_at_call 29; (with_reducible refine (HF.out _ K1.out).mono ?_); rintro e' w2 ⟨rfl, hk⟩; have kz := kT hk (kA w2 (.cells #[(0:Int), (0:Int), (0:Int), (0:Int), (0:Int), (0:Int), (0:Int), nd, gp] 84)); have KL := hD (kT K1.out kz); have RL0 := hD (rZ kz R0.out); have RL1 := hD (rZ kz R1.out); have RLK := hD (mH w2 (.cells #[(0:Int), (0:Int), (0:Int), (0:Int), (0:Int), (0:Int), (0:Int), nd, gp] 84)); obtain ⟨a0, a1, a2, a3, a4, a5, a6, a7, a8⟩ := cells9 RL0.out; obtain ⟨b0, b1, b2, b3, b4, b5, b6, b7, b8⟩ := cells9 RLK.out; obtain ⟨c0, c1, c2⟩ := cellsR3 RL1.out; have fL := frozN RL1.out; clear hk kz) | (go_at_call 31; (with_reducible refine (HAS.out _).mono ?_); rintro e' w3 ⟨rfl, rfl⟩) | (go_at_call 32; (with_reducible refine (HRS.out _ KL.out).mono ?_); rintro e' w5 ⟨fa, fc, ma, mc, rfl, of, om, hk⟩; have OF := hD (bG of (kS KL.out)); have OM := hD (bG om (kS KL.out)); have KL := hD (kT KL.out hk); have RL1 := hD (rZ hk RL1.out); obtain ⟨g0, g1, g2⟩ := cellsR3 RL1.out; have fL := frozN RL1.out; clear hk of om))
   refine bodyPost_ret (results_cell_row (p := 4) rfl _ _ (w.heap.size + 1) 34 _ (0, 0) _ rfl (setR3 _ _ _ RL1.out) Tryz.underlying34 rfl (by kernel_rfl)) rfl ?_
   refine ⟨_, rfl, ?_, setR3_kp KL.out (show w.heap.size ≤ w.heap.size + 1 by omega) _ _ _⟩
   have e1 := HWK.out; subst e1; exact RsV.setN RL1.out (by decide) (by decide) HLF.out HLM.out OF.out OM.out
  | false =>
   rw [hask] at has; have HAS := hD has; have hT : tellP m (⟨gk, gf, gt, gn, gs, gr, gp, go, gc⟩ : MM) = rs0 := by rw [tell_not hfits]; exact if_neg (by rw [hask]; decide)
   rw [hT]; clear V TC h ok hx hT hfits has hask hnd; go_enter Tryz.func10, Tryz.ntmps10; go_wp2_with (first | (go_at_call 29; (with_reducible refine (HF.out _ K1.out).mono ?_); rintro e' w2 ⟨rfl, hk⟩; have kz := kT hk (kA w2 (.cells #[(0:Int), (0:Int), (0:Int), (0:Int), (0:Int), (0:Int), (0:Int), nd, gp] 84)); have KL := hD (kT K1.out kz); have RL0 := hD (rZ kz R0.out); have RL1 := hD (rZ kz R1.out); have RLK := hD (mH w2 (.cells #[(0:Int), (0:Int), (0:Int), (0:Int), (0:Int), (0:Int), (0:Int), nd, gp] 84)); obtain ⟨a0, a1, a2, a3, a4, a5, a6, a7, a8⟩ := cells9 RL0.out; obtain ⟨b0, b1, b2, b3, b4, b5, b6, b7, b8⟩ := cells9 RLK.out; obtain ⟨c0, c1, c2⟩ := cellsR3 RL1.out; have fL := frozN RL1.out; clear hk kz) | (go_at_call 31; (with_reducible refine (HAS.out _).mono ?_); rintro e' w3 ⟨rfl, rfl⟩))
   refine bodyPost_ret (results_cell_row (p := 4) rfl _ _ (w.heap.size + 1) 34 _ (0, 0) _ rfl (setR3 (.slice none 0 0) (.slice none 0 0) (.int .i64 0) RL1.out) Tryz.underlying34 rfl (by kernel_rfl)) rfl ?_
   exact ⟨_, rfl, RsV.zero _ _ _, setR3_kp KL.out (show w.heap.size ≤ w.heap.size + 1 by omega) _ _ _⟩
 | some x =>
  have hle := prt_le ok hx; have hzo := okz_ok hle.2.2.2.2.2 (.inr rfl); have hzr := hle.2.2.2.2.2; have hrg := hle.2.2.2.1; obtain ⟨xn, xs, xr, ⟨y1, y2, y3, y4⟩⟩ := x; dsimp only at hzo hrg hzr; have HF := hD (fun w1 (hk : Kp w w1) => pFind (h.kp hk) gp nd hnd xn xs xr y1 y2 y3 y4 true (.inl ⟨hx, rfl⟩)); have hfd := fits_dec (g := (⟨gk, gf, gt, gn, gs, gr, gp, go, gc⟩ : MM)) hx hrg; rw [hnd] at hfd; dsimp only at hfd; obtain ⟨fb, hfb⟩ : ∃ b, (decide (gn = xn ∧ gs = xs) && (gf == xn && (gt == nd && (decide (xr = -1) || gr == xr)))) = b := ⟨_, rfl⟩
  have HFT := hD (fun w => kFits (w := w) xn xs xr y1 y2 y3 y4 nd gp gk gf gt gn gs gr gp go gc fb hfb); rw [hfb] at hfd
  cases fb with
  | false =>
   have hfits : fitsP m (⟨gk, gf, gt, gn, gs, gr, gp, go, gc⟩ : MM) = none := hfd
   cases hask : (decide (gk = 15) || downM gk) with
   | true =>
    rw [hask] at has; have HAS := hD has; have hT : tellP m (⟨gk, gf, gt, gn, gs, gr, gp, go, gc⟩ : MM) = ⟨[], [answerM (⟨gk, gf, gt, gn, gs, gr, gp, go, gc⟩ : MM) 19 3], 0⟩ := by rw [tell_not hfits]; exact if_pos hask
    obtain ⟨RR, hRR⟩ : ∃ r, tellP m (⟨gk, gf, gt, gn, gs, gr, gp, go, gc⟩ : MM) = r := ⟨_, rfl⟩
    have hres := fun w1 (hk : Kp w w1) => kAnswer (w := w1) (⟨gk, gf, gt, gn, gs, gr, gp, go, gc⟩ : MM) 19 3
    rw [← hT, hRR] at hres; rw [hRR]; obtain ⟨lf, hlf⟩ : ∃ n, RR.facts.length = n := ⟨_, rfl⟩
    obtain ⟨lm, hlm⟩ : ∃ n, RR.send.length = n := ⟨_, rfl⟩
    obtain ⟨wk, hwk⟩ : ∃ x, RR.work = x := ⟨_, rfl⟩
    have HRS := hD (fun w1 (hk : Kp w w1) => (hres w1 hk).mono (R' := fun r w' => ∃ fa fc ma mc, r = .returned (.agg #[.slice fa lf fc, .slice ma lm mc, wk]) ∧ w'.ownsRow w1.heap.size 73 14 (.slice fa lf fc) lf (fcE.row RR.facts) ∧ w'.ownsRow w1.heap.size 26 9 (.slice ma lm mc) lm (mmE.row RR.send) ∧ Kp w1 w') (by
     rintro e w2 ⟨v, rfl, h, hk⟩; obtain ⟨fa, fc, ma, mc, rfl, h1, h2⟩ := RsV.form h hlf hlm; rw [hwk]; exact ⟨fa, fc, ma, mc, rfl, h1, h2, hk⟩))
    obtain ⟨HLF, HLM, HWK⟩ := hD3 hlf hlm hwk; dsimp only [MM.cells] at HRS; clear V TC h ok hx hT hres hRR hlf hlm hwk hfits has hask hnd hle hzo hzr hrg hfd hfb; go_enter Tryz.func10, Tryz.ntmps10; go_wp2_with (first | (go_at_call 29; (with_reducible refine (HF.out _ K1.out).mono ?_); rintro e' w2 ⟨rfl, hk⟩; have kz := kT hk (kA w2 (.cells #[xn, xs, xr, y1, y2, y3, y4, nd, gp] 84)); have KL := hD (kT K1.out kz); have RL0 := hD (rZ kz R0.out); have RL1 := hD (rZ kz R1.out); have RLK := hD (mH w2 (.cells #[xn, xs, xr, y1, y2, y3, y4, nd, gp] 84)); obtain ⟨a0, a1, a2, a3, a4, a5, a6, a7, a8⟩ := cells9 RL0.out; obtain ⟨b0, b1, b2, b3, b4, b5, b6, b7, b8⟩ := cells9 RLK.out; obtain ⟨c0, c1, c2⟩ := cellsR3 RL1.out; have fL := frozN RL1.out; clear hk kz) | (go_at_call 30; (with_reducible refine (HFT.out _).mono ?_); rintro e' w3 ⟨rfl, hk⟩; have KL := hD (kT KL.out hk); have RL0 := hD (rZ hk RL0.out); have RL1 := hD (rZ hk RL1.out); have RLK := hD (rZ hk RLK.out); obtain ⟨d0, d1, d2, d3, d4, d5, d6, d7, d8⟩ := cells9 RL0.out; obtain ⟨e0, e1, e2, e3, e4, e5, e6, e7, e8⟩ := cells9 RLK.out; obtain ⟨f0, f1, f2⟩ := cellsR3 RL1.out; have fL := frozN RL1.out; clear hk) | (go_at_call 31; (with_reducible refine (HAS.out _).mono ?_); rintro e' w3 ⟨rfl, rfl⟩) | (go_at_call 32; (with_reducible refine (HRS.out _ KL.out).mono ?_); rintro e' w5 ⟨fa, fc, ma, mc, rfl, of, om, hk⟩; have OF := hD (bG of (kS KL.out)); have OM := hD (bG om (kS KL.out)); have KL := hD (kT KL.out hk); have RL1 := hD (rZ hk RL1.out); obtain ⟨g0, g1, g2⟩ := cellsR3 RL1.out; have fL := frozN RL1.out; clear hk of om))
    refine bodyPost_ret (results_cell_row (p := 4) rfl _ _ (w.heap.size + 1) 34 _ (0, 0) _ rfl (setR3 _ _ _ RL1.out) Tryz.underlying34 rfl (by kernel_rfl)) rfl ?_
    refine ⟨_, rfl, ?_, setR3_kp KL.out (show w.heap.size ≤ w.heap.size + 1 by omega) _ _ _⟩
    have e1 := HWK.out; subst e1; exact RsV.setN RL1.out (by decide) (by decide) HLF.out HLM.out OF.out OM.out
   | false =>
    rw [hask] at has; have HAS := hD has; have hT : tellP m (⟨gk, gf, gt, gn, gs, gr, gp, go, gc⟩ : MM) = rs0 := by rw [tell_not hfits]; exact if_neg (by rw [hask]; decide)
    rw [hT]; clear V TC h ok hx hT hfits has hask hnd hle hzo hzr hrg hfd hfb; go_enter Tryz.func10, Tryz.ntmps10; go_wp2_with (first | (go_at_call 29; (with_reducible refine (HF.out _ K1.out).mono ?_); rintro e' w2 ⟨rfl, hk⟩; have kz := kT hk (kA w2 (.cells #[xn, xs, xr, y1, y2, y3, y4, nd, gp] 84)); have KL := hD (kT K1.out kz); have RL0 := hD (rZ kz R0.out); have RL1 := hD (rZ kz R1.out); have RLK := hD (mH w2 (.cells #[xn, xs, xr, y1, y2, y3, y4, nd, gp] 84)); obtain ⟨a0, a1, a2, a3, a4, a5, a6, a7, a8⟩ := cells9 RL0.out; obtain ⟨b0, b1, b2, b3, b4, b5, b6, b7, b8⟩ := cells9 RLK.out; obtain ⟨c0, c1, c2⟩ := cellsR3 RL1.out; have fL := frozN RL1.out; clear hk kz) | (go_at_call 30; (with_reducible refine (HFT.out _).mono ?_); rintro e' w3 ⟨rfl, hk⟩; have KL := hD (kT KL.out hk); have RL0 := hD (rZ hk RL0.out); have RL1 := hD (rZ hk RL1.out); have RLK := hD (rZ hk RLK.out); obtain ⟨d0, d1, d2, d3, d4, d5, d6, d7, d8⟩ := cells9 RL0.out; obtain ⟨e0, e1, e2, e3, e4, e5, e6, e7, e8⟩ := cells9 RLK.out; obtain ⟨f0, f1, f2⟩ := cellsR3 RL1.out; have fL := frozN RL1.out; clear hk) | (go_at_call 31; (with_reducible refine (HAS.out _).mono ?_); rintro e' w3 ⟨rfl, rfl⟩))
    refine bodyPost_ret (results_cell_row (p := 4) rfl _ _ (w.heap.size + 1) 34 _ (0, 0) _ rfl (setR3 (.slice none 0 0) (.slice none 0 0) (.int .i64 0) RL1.out) Tryz.underlying34 rfl (by kernel_rfl)) rfl ?_
    exact ⟨_, rfl, RsV.zero _ _ _, setR3_kp KL.out (show w.heap.size ≤ w.heap.size + 1 by omega) _ _ _⟩
  | true =>
   have hfits : fitsP m (⟨gk, gf, gt, gn, gs, gr, gp, go, gc⟩ : MM) = some ⟨xn, xs, xr, ⟨y1, y2, y3, y4⟩⟩ := hfd; clear has; have FITSFACTS : gn = xn ∧ gs = xs ∧ (xr = -1 ∨ gr = xr) := by
    simp only [Bool.and_eq_true, decide_eq_true_eq, beq_iff_eq, Bool.or_eq_true] at hfb
    exact ⟨hfb.1.1, hfb.1.2, hfb.2.2.2⟩
   by_cases k18 : gk = 18
   ·have hT : tellP m (⟨gk, gf, gt, gn, gs, gr, gp, go, gc⟩ : MM) = ⟨(if xr = -1 then [(⟨7, 0, 0, gr, 0, gp, 0, 0, 0, 0, 0, 0, 0, 0⟩ : FX)] else []), [], 0⟩ := by
     unfold tellP; rw [if_pos k18, hfits]; unfold placeP fxPlaced; dsimp only
     by_cases h1 : xr = -1
     ·rw [if_pos h1, if_pos (by omega)]
     ·rw [if_neg h1, if_neg (by omega)]
    have g18 : (gk == 18) = true := beq_iff_eq.2 k18; obtain ⟨FS, hFS⟩ : ∃ x, (if xr = -1 then [(⟨7, 0, 0, gr, 0, gp, 0, 0, 0, 0, 0, 0, 0, 0⟩ : FX)] else []) = x := ⟨_, rfl⟩
    obtain ⟨n, hn⟩ : ∃ n, FS.length = n := ⟨_, rfl⟩
    have HPC := hD (fun w => kPlaces (w := w) xn xs xr y1 y2 y3 y4 nd gp gr FS hFS.symm n hn); rw [hT, hFS]; have HN := hD hn; clear V TC h ok hx hT hFS hn hle hrg hzo hzr hfits hfd hfb hnd k18 FITSFACTS; go_enter Tryz.func10, Tryz.ntmps10; go_wp2_with (first | (go_at_call 29; (with_reducible refine (HF.out _ K1.out).mono ?_); rintro e' w2 ⟨rfl, hk⟩; have kz := kT hk (kA w2 (.cells #[xn, xs, xr, y1, y2, y3, y4, nd, gp] 84)); have KL := hD (kT K1.out kz); have RL0 := hD (rZ kz R0.out); have RL1 := hD (rZ kz R1.out); have RLK := hD (mH w2 (.cells #[xn, xs, xr, y1, y2, y3, y4, nd, gp] 84)); obtain ⟨a0, a1, a2, a3, a4, a5, a6, a7, a8⟩ := cells9 RL0.out; obtain ⟨b0, b1, b2, b3, b4, b5, b6, b7, b8⟩ := cells9 RLK.out; obtain ⟨c0, c1, c2⟩ := cellsR3 RL1.out; have fL := frozN RL1.out; clear hk kz) | (go_at_call 30; (with_reducible refine (HFT.out _).mono ?_); rintro e' w3 ⟨rfl, hk⟩; have KL := hD (kT KL.out hk); have RL0 := hD (rZ hk RL0.out); have RL1 := hD (rZ hk RL1.out); have RLK := hD (rZ hk RLK.out); obtain ⟨d0, d1, d2, d3, d4, d5, d6, d7, d8⟩ := cells9 RL0.out; obtain ⟨e0, e1, e2, e3, e4, e5, e6, e7, e8⟩ := cells9 RLK.out; obtain ⟨f0, f1, f2⟩ := cellsR3 RL1.out; have fL := frozN RL1.out; clear hk) | (go_at_call 33; (with_reducible refine (HPC.out _).mono ?_); rintro e' w5 ⟨fa, fc, rfl, of, hk⟩; have OF := hD (bG of (kS KL.out)); have KL := hD (kT KL.out hk); have RL1 := hD (rZ hk RL1.out); obtain ⟨g0, g1, g2⟩ := cellsR3 RL1.out; have fL := frozN RL1.out; clear hk of))
    refine bodyPost_ret (results_cell_row (p := 4) rfl _ _ (w.heap.size + 1) 34 _ (0, 0) _ rfl (setR3 _ _ _ RL1.out) Tryz.underlying34 rfl (by kernel_rfl)) rfl ?_
    exact ⟨_, rfl, RsV.setN (r := ⟨FS, [], 0⟩) RL1.out (by decide) (by decide) HN.out rfl OF.out own_no, setR3_kp KL.out (show w.heap.size ≤ w.heap.size + 1 by omega) _ _ _⟩
   have g18 : (gk == 18) = false := by simpa using k18
   by_cases k19 : gk = 19
   ·have hT : tellP m (⟨gk, gf, gt, gn, gs, gr, gp, go, gc⟩ : MM) = ⟨(if xr = -1 ∧ y3 = 1 ∧ (gc = 2 ∨ gc = 4 ∨ gc = 5) then [(⟨8, 0, 0, 0, 0, gp, 0, 0, 0, 0, 14, 1, 0, 0⟩ : FX)] else []), [], 0⟩ := by
     unfold tellP; rw [if_neg k18, if_pos k19, hfits]; unfold fxTurned; dsimp only
     by_cases h1 : xr = -1 ∧ y3 = 1 ∧ (gc = 2 ∨ gc = 4 ∨ gc = 5)
     ·rw [if_pos h1, if_pos ⟨by omega, h1.2⟩]
     ·rw [if_neg h1, if_neg (fun e => h1 ⟨by omega, e.2⟩)]; rfl
    have g19 : (gk == 19) = true := beq_iff_eq.2 k19; obtain ⟨RR, hRR⟩ : ∃ r, tellP m (⟨gk, gf, gt, gn, gs, gr, gp, go, gc⟩ : MM) = r := ⟨_, rfl⟩
    have hres := fun w1 (_ : Kp w w1) => kRefused (w := w1) xn xs xr y1 y2 y3 y4 nd gp gk gf gt gn gs gr gp go gc
    rw [← hT, hRR] at hres; rw [hRR]; obtain ⟨lf, hlf⟩ : ∃ n, RR.facts.length = n := ⟨_, rfl⟩
    obtain ⟨lm, hlm⟩ : ∃ n, RR.send.length = n := ⟨_, rfl⟩
    obtain ⟨wk, hwk⟩ : ∃ x, RR.work = x := ⟨_, rfl⟩
    have HRS := hD (fun w1 (hk : Kp w w1) => (hres w1 hk).mono (R' := fun r w' => ∃ fa fc ma mc, r = .returned (.agg #[.slice fa lf fc, .slice ma lm mc, wk]) ∧ w'.ownsRow w1.heap.size 73 14 (.slice fa lf fc) lf (fcE.row RR.facts) ∧ w'.ownsRow w1.heap.size 26 9 (.slice ma lm mc) lm (mmE.row RR.send) ∧ Kp w1 w') (by
     rintro e w2 ⟨v, rfl, h, hk⟩; obtain ⟨fa, fc, ma, mc, rfl, h1, h2⟩ := RsV.form h hlf hlm; rw [hwk]; exact ⟨fa, fc, ma, mc, rfl, h1, h2, hk⟩))
    obtain ⟨HLF, HLM, HWK⟩ := hD3 hlf hlm hwk; clear V TC h ok hx hT hres hRR hlf hlm hwk hle hrg hzo hzr hfits hfd hfb hnd k18 k19 FITSFACTS; go_enter Tryz.func10, Tryz.ntmps10; go_wp2_with (first | (go_at_call 29; (with_reducible refine (HF.out _ K1.out).mono ?_); rintro e' w2 ⟨rfl, hk⟩; have kz := kT hk (kA w2 (.cells #[xn, xs, xr, y1, y2, y3, y4, nd, gp] 84)); have KL := hD (kT K1.out kz); have RL0 := hD (rZ kz R0.out); have RL1 := hD (rZ kz R1.out); have RLK := hD (mH w2 (.cells #[xn, xs, xr, y1, y2, y3, y4, nd, gp] 84)); obtain ⟨a0, a1, a2, a3, a4, a5, a6, a7, a8⟩ := cells9 RL0.out; obtain ⟨b0, b1, b2, b3, b4, b5, b6, b7, b8⟩ := cells9 RLK.out; obtain ⟨c0, c1, c2⟩ := cellsR3 RL1.out; have fL := frozN RL1.out; clear hk kz) | (go_at_call 30; (with_reducible refine (HFT.out _).mono ?_); rintro e' w3 ⟨rfl, hk⟩; have KL := hD (kT KL.out hk); have RL0 := hD (rZ hk RL0.out); have RL1 := hD (rZ hk RL1.out); have RLK := hD (rZ hk RLK.out); obtain ⟨d0, d1, d2, d3, d4, d5, d6, d7, d8⟩ := cells9 RL0.out; obtain ⟨e0, e1, e2, e3, e4, e5, e6, e7, e8⟩ := cells9 RLK.out; obtain ⟨f0, f1, f2⟩ := cellsR3 RL1.out; have fL := frozN RL1.out; clear hk) | (go_at_call 34; (with_reducible refine (HRS.out _ KL.out).mono ?_); rintro e' w5 ⟨fa, fc, ma, mc, rfl, of, om, hk⟩; have OF := hD (bG of (kS KL.out)); have OM := hD (bG om (kS KL.out)); have KL := hD (kT KL.out hk); have RL1 := hD (rZ hk RL1.out); obtain ⟨g0, g1, g2⟩ := cellsR3 RL1.out; have fL := frozN RL1.out; clear hk of om))
    refine bodyPost_ret (results_cell_row (p := 4) rfl _ _ (w.heap.size + 1) 34 _ (0, 0) _ rfl (setR3 _ _ _ RL1.out) Tryz.underlying34 rfl (by kernel_rfl)) rfl ?_
    refine ⟨_, rfl, ?_, setR3_kp KL.out (show w.heap.size ≤ w.heap.size + 1 by omega) _ _ _⟩
    have e1 := HWK.out; subst e1; exact RsV.setN RL1.out (by decide) (by decide) HLF.out HLM.out OF.out OM.out
   have g19 : (gk == 19) = false := by simpa using k19
   by_cases k15 : gk = 15
   ·have hT : tellP m (⟨gk, gf, gt, gn, gs, gr, gp, go, gc⟩ : MM) = ⟨[], [answerM (⟨gk, gf, gt, gn, gs, gr, gp, go, gc⟩ : MM) 16 y3], 0⟩ := by
     unfold tellP; rw [if_neg k18, if_neg k19, if_pos k15, hfits]
    have g15 : (gk == 15) = true := beq_iff_eq.2 k15; obtain ⟨RR, hRR⟩ : ∃ r, tellP m (⟨gk, gf, gt, gn, gs, gr, gp, go, gc⟩ : MM) = r := ⟨_, rfl⟩
    have hres := fun w1 (_ : Kp w w1) => kAnswer (w := w1) (⟨gk, gf, gt, gn, gs, gr, gp, go, gc⟩ : MM) 16 y3
    rw [← hT, hRR] at hres; rw [hRR]; obtain ⟨lf, hlf⟩ : ∃ n, RR.facts.length = n := ⟨_, rfl⟩
    obtain ⟨lm, hlm⟩ : ∃ n, RR.send.length = n := ⟨_, rfl⟩
    obtain ⟨wk, hwk⟩ : ∃ x, RR.work = x := ⟨_, rfl⟩
    have HRS := hD (fun w1 (hk : Kp w w1) => (hres w1 hk).mono (R' := fun r w' => ∃ fa fc ma mc, r = .returned (.agg #[.slice fa lf fc, .slice ma lm mc, wk]) ∧ w'.ownsRow w1.heap.size 73 14 (.slice fa lf fc) lf (fcE.row RR.facts) ∧ w'.ownsRow w1.heap.size 26 9 (.slice ma lm mc) lm (mmE.row RR.send) ∧ Kp w1 w') (by
     rintro e w2 ⟨v, rfl, h, hk⟩; obtain ⟨fa, fc, ma, mc, rfl, h1, h2⟩ := RsV.form h hlf hlm; rw [hwk]; exact ⟨fa, fc, ma, mc, rfl, h1, h2, hk⟩))
    obtain ⟨HLF, HLM, HWK⟩ := hD3 hlf hlm hwk; dsimp only [MM.cells] at HRS; clear V TC h ok hx hT hres hRR hlf hlm hwk hle hrg hzo hzr hfits hfd hfb hnd k18 k19 k15 FITSFACTS; go_enter Tryz.func10, Tryz.ntmps10; go_wp2_with (first | (go_at_call 29; (with_reducible refine (HF.out _ K1.out).mono ?_); rintro e' w2 ⟨rfl, hk⟩; have kz := kT hk (kA w2 (.cells #[xn, xs, xr, y1, y2, y3, y4, nd, gp] 84)); have KL := hD (kT K1.out kz); have RL0 := hD (rZ kz R0.out); have RL1 := hD (rZ kz R1.out); have RLK := hD (mH w2 (.cells #[xn, xs, xr, y1, y2, y3, y4, nd, gp] 84)); obtain ⟨a0, a1, a2, a3, a4, a5, a6, a7, a8⟩ := cells9 RL0.out; obtain ⟨b0, b1, b2, b3, b4, b5, b6, b7, b8⟩ := cells9 RLK.out; obtain ⟨c0, c1, c2⟩ := cellsR3 RL1.out; have fL := frozN RL1.out; clear hk kz) | (go_at_call 30; (with_reducible refine (HFT.out _).mono ?_); rintro e' w3 ⟨rfl, hk⟩; have KL := hD (kT KL.out hk); have RL0 := hD (rZ hk RL0.out); have RL1 := hD (rZ hk RL1.out); have RLK := hD (rZ hk RLK.out); obtain ⟨d0, d1, d2, d3, d4, d5, d6, d7, d8⟩ := cells9 RL0.out; obtain ⟨e0, e1, e2, e3, e4, e5, e6, e7, e8⟩ := cells9 RLK.out; obtain ⟨f0, f1, f2⟩ := cellsR3 RL1.out; have fL := frozN RL1.out; clear hk) | (go_at_call 32; (with_reducible refine (HRS.out _ KL.out).mono ?_); rintro e' w5 ⟨fa, fc, ma, mc, rfl, of, om, hk⟩; have OF := hD (bG of (kS KL.out)); have OM := hD (bG om (kS KL.out)); have KL := hD (kT KL.out hk); have RL1 := hD (rZ hk RL1.out); obtain ⟨g0, g1, g2⟩ := cellsR3 RL1.out; have fL := frozN RL1.out; clear hk of om))
    refine bodyPost_ret (results_cell_row (p := 4) rfl _ _ (w.heap.size + 1) 34 _ (0, 0) _ rfl (setR3 _ _ _ RL1.out) Tryz.underlying34 rfl (by kernel_rfl)) rfl ?_
    refine ⟨_, rfl, ?_, setR3_kp KL.out (show w.heap.size ≤ w.heap.size + 1 by omega) _ _ _⟩
    have e1 := HWK.out; subst e1; exact RsV.setN RL1.out (by decide) (by decide) HLF.out HLM.out OF.out OM.out
   have g15 : (gk == 15) = false := by simpa using k15
   have hdn := fun w => down_any gk w
   cases hd : downM gk with
   | false =>
    rw [hd] at hdn; have HDN := hD hdn; have hT : tellP m (⟨gk, gf, gt, gn, gs, gr, gp, go, gc⟩ : MM) = rs0 := by
     unfold tellP; rw [if_neg k18, if_neg k19, if_neg k15, if_pos hd]
    rw [hT]; clear V TC h ok hx hT hle hrg hzo hzr hfits hfd hfb hnd k18 k19 k15 hd hdn FITSFACTS; go_enter Tryz.func10, Tryz.ntmps10; go_wp2_with (first | (go_at_call 29; (with_reducible refine (HF.out _ K1.out).mono ?_); rintro e' w2 ⟨rfl, hk⟩; have kz := kT hk (kA w2 (.cells #[xn, xs, xr, y1, y2, y3, y4, nd, gp] 84)); have KL := hD (kT K1.out kz); have RL0 := hD (rZ kz R0.out); have RL1 := hD (rZ kz R1.out); have RLK := hD (mH w2 (.cells #[xn, xs, xr, y1, y2, y3, y4, nd, gp] 84)); obtain ⟨a0, a1, a2, a3, a4, a5, a6, a7, a8⟩ := cells9 RL0.out; obtain ⟨b0, b1, b2, b3, b4, b5, b6, b7, b8⟩ := cells9 RLK.out; obtain ⟨c0, c1, c2⟩ := cellsR3 RL1.out; have fL := frozN RL1.out; clear hk kz) | (go_at_call 30; (with_reducible refine (HFT.out _).mono ?_); rintro e' w3 ⟨rfl, hk⟩; have KL := hD (kT KL.out hk); have RL0 := hD (rZ hk RL0.out); have RL1 := hD (rZ hk RL1.out); have RLK := hD (rZ hk RLK.out); obtain ⟨d0, d1, d2, d3, d4, d5, d6, d7, d8⟩ := cells9 RL0.out; obtain ⟨e0, e1, e2, e3, e4, e5, e6, e7, e8⟩ := cells9 RLK.out; obtain ⟨f0, f1, f2⟩ := cellsR3 RL1.out; have fL := frozN RL1.out; clear hk) | (go_at_call 35; (with_reducible refine (HDN.out _).mono ?_); rintro e' w3 ⟨rfl, rfl⟩))
    refine bodyPost_ret (results_cell_row (p := 4) rfl _ _ (w.heap.size + 1) 34 _ (0, 0) _ rfl (setR3 (.slice none 0 0) (.slice none 0 0) (.int .i64 0) RL1.out) Tryz.underlying34 rfl (by kernel_rfl)) rfl ?_
    exact ⟨_, rfl, RsV.zero _ _ _, setR3_kp KL.out (show w.heap.size ≤ w.heap.size + 1 by omega) _ _ _⟩
   | true =>
    rw [hd] at hdn; have HDN := hD hdn; have hk14 := down_in hd; have hto := told_ok (z := ⟨y1, y2, y3, y4⟩) hzr hk14; obtain ⟨⟨⟨e1, e2, e3, e4⟩, es, ef, ew, ec⟩, hY⟩ : ∃ y, ((⟨y1, y2, y3, y4⟩ : SeatM).tell gk).2 = y := ⟨_, rfl⟩
    have hT : tellP m (⟨gk, gf, gt, gn, gs, gr, gp, go, gc⟩ : MM) = ⟨(if xr = -1 then [(⟨7, 0, 0, gr, 0, gp, 0, 0, 0, 0, 0, 0, 0, 0⟩ : FX)] else []) ++ (if ec = true then [(⟨8, 0, 0, 0, 0, gp, 0, 0, 0, 0, e3, e4, 0, 0⟩ : FX)] else []), (if es ≠ 0 then [(⟨es, nd, xn, xn, xs, gr, gp, 0, 0⟩ : MM)] else []) ++ (if ef ≠ 0 then [(⟨19, gt, gf, gn, gs, gr, gp, 0, ef⟩ : MM)] else []), ew⟩ := by
     unfold tellP; rw [if_neg k18, if_neg k19, if_neg k15, if_neg (by rw [hd]; decide), hfits]; dsimp only; rw [if_neg (by rw [hto.1]; simp), hY]; unfold seatP placeP fxPlaced fxTurned msgP answerM; dsimp only; rw [hnd]
     by_cases h1 : xr = -1
     ·rw [if_pos h1, if_pos (show xr < 0 by omega)]
     ·rw [if_neg h1, if_neg (show ¬ xr < 0 by omega)]
    obtain ⟨RR, hRR⟩ : ∃ r, tellP m (⟨gk, gf, gt, gn, gs, gr, gp, go, gc⟩ : MM) = r := ⟨_, rfl⟩
    have hres := fun w1 (hk : Kp w w1) => kTold (TC.kp hk) (kZ hk ((ep_of_st (S := [3]) V (by decide)).cell 3 (by decide))) xn xs xr y1 y2 y3 y4 nd gp gk gf gt gn gs gr gp go gc hzo (down_not hd).2.2.2 e1 e2 e3 e4 es ef ew ec hY _ _ rfl rfl _ _ rfl rfl
    rw [← hT, hRR] at hres; rw [hRR]; obtain ⟨lf, hlf⟩ : ∃ n, RR.facts.length = n := ⟨_, rfl⟩
    obtain ⟨lm, hlm⟩ : ∃ n, RR.send.length = n := ⟨_, rfl⟩
    obtain ⟨wk, hwk⟩ : ∃ x, RR.work = x := ⟨_, rfl⟩
    have HRS := hD (fun w1 (hk : Kp w w1) => (hres w1 hk).mono (R' := fun r w' => ∃ fa fc ma mc, r = .returned (.agg #[.slice fa lf fc, .slice ma lm mc, wk]) ∧ w'.ownsRow w1.heap.size 73 14 (.slice fa lf fc) lf (fcE.row RR.facts) ∧ w'.ownsRow w1.heap.size 26 9 (.slice ma lm mc) lm (mmE.row RR.send) ∧ Kp w1 w') (by
     rintro e w2 ⟨v, rfl, h, hk⟩; obtain ⟨fa, fc, ma, mc, rfl, h1, h2⟩ := RsV.form h hlf hlm; rw [hwk]; exact ⟨fa, fc, ma, mc, rfl, h1, h2, hk⟩))
    obtain ⟨HLF, HLM, HWK⟩ := hD3 hlf hlm hwk; clear V TC h ok hx hT hres hRR hlf hlm hwk hle hrg hzo hzr hfits hfd hfb hnd k18 k19 k15 hd hdn FITSFACTS hto hY hk14; go_enter Tryz.func10, Tryz.ntmps10; go_wp2_with (first | (go_at_call 29; (with_reducible refine (HF.out _ K1.out).mono ?_); rintro e' w2 ⟨rfl, hk⟩; have kz := kT hk (kA w2 (.cells #[xn, xs, xr, y1, y2, y3, y4, nd, gp] 84)); have KL := hD (kT K1.out kz); have RL0 := hD (rZ kz R0.out); have RL1 := hD (rZ kz R1.out); have RLK := hD (mH w2 (.cells #[xn, xs, xr, y1, y2, y3, y4, nd, gp] 84)); obtain ⟨a0, a1, a2, a3, a4, a5, a6, a7, a8⟩ := cells9 RL0.out; obtain ⟨b0, b1, b2, b3, b4, b5, b6, b7, b8⟩ := cells9 RLK.out; obtain ⟨c0, c1, c2⟩ := cellsR3 RL1.out; have fL := frozN RL1.out; clear hk kz) | (go_at_call 30; (with_reducible refine (HFT.out _).mono ?_); rintro e' w3 ⟨rfl, hk⟩; have KL := hD (kT KL.out hk); have RL0 := hD (rZ hk RL0.out); have RL1 := hD (rZ hk RL1.out); have RLK := hD (rZ hk RLK.out); obtain ⟨d0, d1, d2, d3, d4, d5, d6, d7, d8⟩ := cells9 RL0.out; obtain ⟨e0, e1, e2, e3, e4, e5, e6, e7, e8⟩ := cells9 RLK.out; obtain ⟨f0, f1, f2⟩ := cellsR3 RL1.out; have fL := frozN RL1.out; clear hk) | (go_at_call 35; (with_reducible refine (HDN.out _).mono ?_); rintro e' w3 ⟨rfl, rfl⟩) | (go_at_call 36; (with_reducible refine (HRS.out _ KL.out).mono ?_); rintro e' w5 ⟨fa, fc, ma, mc, rfl, of, om, hk⟩; have OF := hD (bG of (kS KL.out)); have OM := hD (bG om (kS KL.out)); have KL := hD (kT KL.out hk); have RL1 := hD (rZ hk RL1.out); obtain ⟨g0, g1, g2⟩ := cellsR3 RL1.out; have fL := frozN RL1.out; clear hk of om))
    refine bodyPost_ret (results_cell_row (p := 4) rfl _ _ (w.heap.size + 1) 34 _ (0, 0) _ rfl (setR3 _ _ _ RL1.out) Tryz.underlying34 rfl (by kernel_rfl)) rfl ?_
    refine ⟨_, rfl, ?_, setR3_kp KL.out (show w.heap.size ≤ w.heap.size + 1 by omega) _ _ _⟩
    have e1 := HWK.out; subst e1; exact RsV.setN RL1.out (by decide) (by decide) HLF.out HLM.out OF.out OM.out
theorem pTell (V : St ads w) (TC : TabC ads w) (h : SL B q m w) (ok : OkS m) (g : MM) : Calls Tryz.prog 10 #[.pointer (some ⟨q, 0, none⟩), .agg g.cells] w fun r w' => ∃ v, r = .returned v ∧ RsV 73 w.heap.size (tellP m g) v w' ∧ Kp w w' := pTell0 V TC h ok g.k g.f g.t g.n g.s g.r g.p g.o g.c
theorem refMoved_14 (p e s h _st how send : Int)  (w : World) : Calls Tryz.prog 86 #[.agg #[p, e, s, h], .int .i64 14, .int .i64 how, .int .i64 send] w fun r w' => r = .returned (.agg #[p, e, (14:Int), how, send, (0:Int), .int .i64 (SeatM.work ⟨p, e, 14, how⟩), .bool true]) ∧ Kp w w' := by
 have HW := fun w => refWork_any ⟨p, e, 14, how⟩ w
 obtain ⟨wk, hwk⟩ : ∃ x, SeatM.work ⟨p, e, 14, how⟩ = x := ⟨_, rfl⟩
 rw [hwk] at HW ⊢; dsimp only [seatV] at HW
 replace HW := hD HW
 obtain ⟨W1, hW1⟩ : ∃ W1, (w.alloc (.cells #[p, e, (14:Int), how] 93)).alloc (.cells #[(0:Int), (0:Int), (0:Int), (0:Int), (0:Int), (0:Int), (0:Int), .bool false] 98) = W1 := ⟨_, rfl⟩
 have HR := hD (show W1.heap[w.heap.size]? = some (.cells #[p, e, (14:Int), how] 93) by rw [← hW1]; exact rZ (kA _ _) (mH w (.cells #[p, e, (14:Int), how] 93))); have HZ := hD (show W1.heap[w.heap.size + 1]? = some (.cells #[(0:Int), (0:Int), (0:Int), (0:Int), (0:Int), (0:Int), (0:Int), .bool false] 98) by rw [← hW1]; have := (mH (w.alloc (.cells #[p, e, (14:Int), how] 93)) (.cells #[(0:Int), (0:Int), (0:Int), (0:Int), (0:Int), (0:Int), (0:Int), .bool false] 98)); simpa using this); have KW := hD (show Kp w W1 by rw [← hW1]; exact kT (kA _ _) (kA _ _)); obtain ⟨g0, g1, g2, g3⟩ := cells_4 HR.out; have fg := frozN HR.out; clear hwk; go_enter Tryz.func86, Tryz.ntmps86; go_wp2_with fail
 try rw [hW1]
 have hsz : W1.heap.size = w.heap.size + 1 + 1 := by rw [← hW1]; simp
 clear hW1; refine rgW (fun w' => Kp w w' ∧ w'.heap[w.heap.size]? = some (.cells #[p, e, (14:Int), how] 93)) ?_ fun hH => ?_
 ·exact ⟨kp_drewM KW.out, HR.out⟩
 refine tkP 0 ?_ (y := by intro w hZ; obtain ⟨q0, q1, q2, q3⟩ := cells_4 hZ.2; go_simp; try rfl)
 go_simp; refine tkP 1 ?_
 go_simp; refine tkP 2 ?_ (y := by intro w hZ; obtain ⟨q0, q1, q2, q3⟩ := cells_4 hZ.2; go_simp; try rfl)
 go_simp; refine rdW 3 fun K hK => ?_
 go_simp; go_wp2_with (go_at_call 126; (with_reducible refine (HW.out _).mono ?_); rintro e' w4 ⟨rfl, hk4⟩; have K4 := hD (kT hH.1 hk4); have R4 := hD (rZ hk4 hH.2); have RZ := rZ hk4 HZ.out; clear hk4)
 refine hK.out _ _ (⟨K4.out, R4.out⟩) fun hH => ?_
 clear hK K; refine tkP 4 ?_
 go_simp; refine rdW 5 fun K hK => ?_
 obtain ⟨z0, z1, z2, z3, z4, z5, z6, z7⟩ := c8X RZ; have fz := frozN RZ; go_simp; refine hK.out _ _ (⟨set_8_kp K4.out (Nat.le_succ _) _ _ _ _ _ _ _ _, set_8_ne _ _ _ _ _ _ _ _ R4.out (by omega)⟩) fun hH => ?_
 clear hK K; refine dnW ?_ _
 go_wp2; refine bodyPost_ret (results_cell_row (p := 8) rfl _ _ (w.heap.size + 1) 98 _ (0, 0) _ rfl (set_8 (.int .i64 p) (.int .i64 e) (.int .i64 14) (.int .i64 how) (.int .i64 send) (.int .i64 0) (.int .i64 wk) (.bool true) RZ) Tryz.underlying98 rfl (by kernel_rfl)) rfl ?_
 exact ⟨rfl, set_8_kp K4.out (Nat.le_succ _) _ _ _ _ _ _ _ _⟩
theorem refMoved_no (p e s h st how send : Int) (b14 : (st == 14) = false) (w : World) : Calls Tryz.prog 86 #[.agg #[p, e, s, h], .int .i64 st, .int .i64 how, .int .i64 send] w fun r w' => r = .returned (.agg #[p, e, st, h, send, (0:Int), .int .i64 (SeatM.work ⟨p, e, st, h⟩), .bool true]) ∧ Kp w w' := by
 have HW := fun w => refWork_any ⟨p, e, st, h⟩ w
 obtain ⟨wk, hwk⟩ : ∃ x, SeatM.work ⟨p, e, st, h⟩ = x := ⟨_, rfl⟩
 rw [hwk] at HW ⊢; dsimp only [seatV] at HW
 replace HW := hD HW
 obtain ⟨W1, hW1⟩ : ∃ W1, (w.alloc (.cells #[p, e, st, h] 93)).alloc (.cells #[(0:Int), (0:Int), (0:Int), (0:Int), (0:Int), (0:Int), (0:Int), .bool false] 98) = W1 := ⟨_, rfl⟩
 have HR := hD (show W1.heap[w.heap.size]? = some (.cells #[p, e, st, h] 93) by rw [← hW1]; exact rZ (kA _ _) (mH w (.cells #[p, e, st, h] 93))); have HZ := hD (show W1.heap[w.heap.size + 1]? = some (.cells #[(0:Int), (0:Int), (0:Int), (0:Int), (0:Int), (0:Int), (0:Int), .bool false] 98) by rw [← hW1]; have := (mH (w.alloc (.cells #[p, e, st, h] 93)) (.cells #[(0:Int), (0:Int), (0:Int), (0:Int), (0:Int), (0:Int), (0:Int), .bool false] 98)); simpa using this); have KW := hD (show Kp w W1 by rw [← hW1]; exact kT (kA _ _) (kA _ _)); obtain ⟨g0, g1, g2, g3⟩ := cells_4 HR.out; have fg := frozN HR.out; clear hwk; go_enter Tryz.func86, Tryz.ntmps86; go_wp2_with fail
 try rw [hW1]
 have hsz : W1.heap.size = w.heap.size + 1 + 1 := by rw [← hW1]; simp
 clear hW1; refine rgW (fun w' => Kp w w' ∧ w'.heap[w.heap.size]? = some (.cells #[p, e, st, h] 93)) ?_ fun hH => ?_
 ·exact ⟨kp_drewM KW.out, HR.out⟩
 refine tkP 0 ?_ (y := by intro w hZ; obtain ⟨q0, q1, q2, q3⟩ := cells_4 hZ.2; go_simp; try rfl)
 go_simp; refine tkP 1 ?_
 go_simp; refine tkP 2 ?_ (y := by intro w hZ; obtain ⟨q0, q1, q2, q3⟩ := cells_4 hZ.2; go_simp; try rfl)
 go_simp; refine rdW 3 fun K hK => ?_
 go_simp; go_wp2_with (go_at_call 126; (with_reducible refine (HW.out _).mono ?_); rintro e' w4 ⟨rfl, hk4⟩; have K4 := hD (kT hH.1 hk4); have R4 := hD (rZ hk4 hH.2); have RZ := rZ hk4 HZ.out; clear hk4)
 refine hK.out _ _ (⟨K4.out, R4.out⟩) fun hH => ?_
 clear hK K; refine tkP 4 ?_
 go_simp; refine rdW 5 fun K hK => ?_
 obtain ⟨z0, z1, z2, z3, z4, z5, z6, z7⟩ := c8X RZ; have fz := frozN RZ; go_simp; refine hK.out _ _ (⟨set_8_kp K4.out (Nat.le_succ _) _ _ _ _ _ _ _ _, set_8_ne _ _ _ _ _ _ _ _ R4.out (by omega)⟩) fun hH => ?_
 clear hK K; refine dnW ?_ _
 go_wp2; refine bodyPost_ret (results_cell_row (p := 8) rfl _ _ (w.heap.size + 1) 98 _ (0, 0) _ rfl (set_8 (.int .i64 p) (.int .i64 e) (.int .i64 st) (.int .i64 h) (.int .i64 send) (.int .i64 0) (.int .i64 wk) (.bool true) RZ) Tryz.underlying98 rfl (by kernel_rfl)) rfl ?_
 exact ⟨rfl, set_8_kp K4.out (Nat.le_succ _) _ _ _ _ _ _ _ _⟩
theorem refMoved_any (z : SeatM) (st how send : Int) (y : EffM) (hy : z.moved st how send = y) (w : World) : Calls Tryz.prog 86 #[.agg (seatV z), .int .i64 st, .int .i64 how, .int .i64 send] w fun r w' => r = .returned (.agg (effV y)) ∧ Kp w w' := by
 subst hy; obtain ⟨p, e, s, h⟩ := z
 by_cases h14 : st = 14
 ·subst h14; exact refMoved_14 p e s h 14 how send w
 ·have b14 : (st == 14) = false := by simpa using h14
  have := refMoved_no p e s h st how send b14 w
  simpa only [seatV, effV, SeatM.moved, if_neg h14] using this
end Go.Proofs.YtncoofnhifcnhaaGreatDoor
