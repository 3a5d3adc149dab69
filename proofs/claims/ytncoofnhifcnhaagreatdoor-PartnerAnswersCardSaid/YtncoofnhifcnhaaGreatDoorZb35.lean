/- Parts of this proof (own work). -/
import Derived.Test.YtncoofnhifcnhaaGreatDoorZb34
set_option maxRecDepth 100000
set_option maxHeartbeats 40000000
namespace Go.Proofs.YtncoofnhifcnhaaGreatDoor
open Go.RowKit Go.ChangeShapes Go.WideShapes
variable {w0 w w' W w3 : World} {B q : Nat} {m : StM} {ads : List Addr}
theorem fits_dec {m : StM} {g : MM} {x : PaM} (h : prtP m g.p = some x) (hr : -1 ≤ x.reg) : fitsP m g = if (decide (g.n = x.n ∧ g.s = x.s) && (g.f == x.n && (g.t == m.node && (decide (x.reg = -1) || g.r == x.reg)))) = true then some x else none := by
 unfold fitsP; rw [h]; dsimp only
 by_cases hc : x.n = g.n ∧ x.s = g.s ∧ g.f = g.n ∧ g.t = m.node ∧ (x.reg < 0 ∨ x.reg = g.r)
 ·rw [if_pos hc]; obtain ⟨h1, h2, h3, h4, h5⟩ := hc; rw [if_pos]; simp only [Bool.and_eq_true, decide_eq_true_eq, beq_iff_eq, Bool.or_eq_true]
  exact ⟨⟨h1.symm, h2.symm⟩, by rw [h3, h1], h4, by omega⟩
 ·rw [if_neg hc, if_neg]; simp only [Bool.and_eq_true, decide_eq_true_eq, beq_iff_eq, Bool.or_eq_true]
  rintro ⟨⟨h1, h2⟩, h3, h4, h5⟩; exact hc ⟨h1.symm, h2.symm, by rw [h3, h1], h4, by omega⟩
theorem fits_none {m : StM} {g : MM} (h : prtP m g.p = none) : fitsP m g = none := by unfold fitsP; rw [h]
theorem down_not {k : Int} (h : downM k = true) : k ≠ 18 ∧ k ≠ 19 ∧ k ≠ 15 ∧ i64M k := by
 have := down_in h; refine ⟨by omega, by omega, by omega, ?_⟩
 unfold i64M; omega
theorem tell_not {m : StM} {g : MM} (h : fitsP m g = none) : tellP m g = if (decide (g.k = 15) || downM g.k) = true then ⟨[], [answerM g 19 3], 0⟩ else rs0 := by
 unfold tellP; rw [h]; dsimp only
 by_cases h1 : g.k = 18
 ·rw [if_pos h1, if_neg (by rw [h1]; decide)]
 rw [if_neg h1]
 by_cases h2 : g.k = 19
 ·rw [if_pos h2, if_neg (by rw [h2]; decide)]
 rw [if_neg h2]
 by_cases h3 : g.k = 15
 ·rw [if_pos h3, if_pos (by rw [h3]; decide)]
 rw [if_neg h3, dF h3, Bool.false_or]
 cases downM g.k <;> rfl
theorem pTell0 (V : St ads w) (TC : TabC ads w) (h : SL B q m w) (ok : OkS m) (gk gf gt gn gs gr gp go gc : Int) : Calls Tryz.prog 10 #[.pointer (some ⟨q, 0, none⟩), .agg #[gk, gf, gt, gn, gs, gr, gp, go, gc]] w fun r w' => ∃ v, r = .returned v ∧ RsV 73 w.heap.size (tellP m (⟨gk, gf, gt, gn, gs, gr, gp, go, gc⟩ : MM)) v w' ∧ Kp w w' := by
 obtain ⟨nd, hnd⟩ : ∃ n, m.node = n := ⟨_, rfl⟩
 have R0 := hD (nX0 w (.cells #[gk, gf, gt, gn, gs, gr, gp, go, gc] 26) (.cells #[.slice none 0 0, .slice none 0 0, (0:Int)] 34)); have R1 := hD (nX1 w (.cells #[gk, gf, gt, gn, gs, gr, gp, go, gc] 26) (.cells #[.slice none 0 0, .slice none 0 0, (0:Int)] 34)); have K1 := hD (pk2 w (.cells #[gk, gf, gt, gn, gs, gr, gp, go, gc] 26) (.cells #[.slice none 0 0, .slice none 0 0, (0:Int)] 34)); obtain ⟨s0, s1, s2, s3, s4, s5, s6, s7, s8⟩ := cells9 R0.out; have has := fun w => kAsks (w := w) gk
 cases hx : prtP m gp with
 | none =>
  have HF := hD (fun w1 (hk : Kp w w1) => pFind (h.kp hk) gp nd hnd 0 0 0 0 0 0 0 false (.inr ⟨hx, rfl, rfl⟩)); have hfits : fitsP m (⟨gk, gf, gt, gn, gs, gr, gp, go, gc⟩ : MM) = none := fits_none hx
  cases hask : (decide (gk = 15) || downM gk) with
  | true =>
   rw [hask] at has; have HAS := hD has; have hT : tellP m (⟨gk, gf, gt, gn, gs, gr, gp, go, gc⟩ : MM) = ⟨[], [answerM (⟨gk, gf, gt, gn, gs, gr, gp, go, gc⟩ : MM) 19 3], 0⟩ := by rw [tell_not hfits]; exact if_pos hask
   obtain ⟨RR, hRR⟩ : ∃ r, tellP m (⟨gk, gf, gt, gn, gs, gr, gp, go, gc⟩ : MM) = r := ⟨_, rfl⟩
   have hres := fun w1 (hk : Kp w w1) => kAnswer (w := w1) (⟨gk, gf, gt, gn, gs, gr, gp, go, gc⟩ : MM) 19 3
   rw [← hT, hRR] at hres; rw [hRR]; obtain ⟨lf, hlf⟩ : ∃ n, RR.facts.length = n := ⟨_, rfl⟩
   obtain ⟨lm, hlm⟩ : ∃ n, RR.send.length = n := ⟨_, rfl⟩
   obtain ⟨wk, hwk⟩ : ∃ x, RR.work = x := ⟨_, rfl⟩
   have HRS := hD (fun w1 (hk : Kp w w1) => (hres w1 hk).mono (R' := fun r w' => ∃ fa fc ma mc, r = .returned (.agg #[.slice fa lf fc, .slice ma lm mc, wk]) ∧ w'.ownsRow w1.heap.size 73 14 (.slice fa lf fc) lf (fcE.row RR.facts) ∧ w'.ownsRow w1.heap.size 26 9 (.slice ma lm mc) lm (mmE.row RR.send) ∧ Kp w1 w') (by
    rintro e w2 ⟨v, rfl, h, hk⟩; obtain ⟨fa, fc, ma, mc, rfl, h1, h2⟩ := RsV.form h hlf hlm; rw [hwk]; exact ⟨fa, fc, ma, mc, rfl, h1, h2, hk⟩))
   obtain ⟨HLF, HLM, HWK⟩ := hD3 hlf hlm hwk; dsimp only [MM.cells] at HRS; clear V TC h ok hx hT hres hRR hlf hlm hwk hfits has hask hnd; go_enter Tryz.func10, Tryz.ntmps10; go_wp2_with (first | (go_at_call 29; (with_reducible refine (HF.out _ K1.out).mono ?_); rintro e' w2 ⟨rfl, hk⟩; have kz := kT hk (kA w2 (.cells #[(0:Int), (0:Int), (0:Int), (0:Int), (0:Int), (0:Int), (0:Int), nd, gp] 84)); have KL := hD (kT K1.out kz); have RL0 := hD (rZ kz R0.out); have RL1 := hD (rZ kz R1.out); have RLK := hD (mH w2 (.cells #[(0:Int), (0:Int), (0:Int), (0:Int), (0:Int), (0:Int), (0:Int), nd, gp] 84)); obtain ⟨a0, a1, a2, a3, a4, a5, a6, a7, a8⟩ := cells9 RL0.out; obtain ⟨b0, b1, b2, b3, b4, b5, b6, b7, b8⟩ := cells9 RLK.out; obtain ⟨c0, c1, c2⟩ := cellsR3 RL1.out; have fL := frozN RL1.out; clear hk kz) | (go_at_call 31; (with_reducible refine (HAS.out _).mono ?_); rintro e' w3 ⟨rfl, rfl⟩) | (go_at_call 32; (with_reducible refine (HRS.out _ KL.out).mono ?_); rintro e' w5 ⟨fa, fc, ma, mc, rfl, of, om, hk⟩; have OF := hD (bG of (kS KL.out)); have OM := hD (bG om (kS KL.out)); have KL := hD (kT KL.out hk); have RL1 := hD (rZ hk RL1.out); obtain ⟨g0, g1, g2⟩ := cellsR3 RL1.out; have fL := frozN RL1.out; clear hk of om))
   refine bodyPost_ret (results_cell_row (p := 4) rfl _ _ (w.heap.size + 1) 34 _ (0, 0) _ rfl (setR3 _ _ _ RL1.out) Tryz.underlying34 rfl (by kernel_rfl)) rfl ?_
   refine ⟨_, rfl, ?_, setR3_kp KL.out (show w.heap.size ≤ w.heap.size + 1 by omega) _ _ _⟩
   have e1 := HWK.out; subst e1; exact RsV.setN RL1.out (by decide) (by decide) HLF.out HLM.out OF.out OM.out
  | false =>
   rw [hask] at has; have HAS := hD has; have hT : tellP m (⟨gk, gf, gt, gn, gs, gr, gp, go, gc⟩ : MM) = rs0 := by rw [tell_not hfits]; exact if_neg (by rw [hask]; decide)
   rw [hT]; clear V TC h ok hx hT hfits has hask hnd; go_enter Tryz.func10, Tryz.ntmps10; go_wp2_with (first | (go_at_call 29; (with_reducible refine (HF.out _ K1.out).mono ?_); rintro e' w2 ⟨rfl, hk⟩; have kz := kT hk (kA w2 (.cells #[(0:Int), (0:Int), (0:Int), (0:Int), (0:Int), (0:Int), (0:Int), nd, gp] 84)); have KL := hD (kT K1.out kz); have RL0 := hD (rZ kz R0.out); have RL1 := hD (rZ kz R1.out); have RLK := hD (mH w2 (.cells #[(0:Int), (0:Int), (0:Int), (0:Int), (0:Int), (0:Int), (0:Int), nd, gp] 84)); obtain ⟨a0, a1, a2, a3, a4, a5, a6, a7, a8⟩ := cells9 RL0.out; obtain ⟨b0, b1, b2, b3, b4, b5, b6, b7, b8⟩ := cells9 RLK.out; obtain ⟨c0, c1, c2⟩ := cellsR3 RL1.out; have fL := frozN RL1.out; clear hk kz) | (go_at_call 31; (with_reducible refine (HAS.out _).mono ?_); rintro e' w3 ⟨rfl, rfl⟩))
   refine bodyPost_ret (results_cell_row (p := 4) rfl _ _ (w.heap.size + 1) 34 _ (0, 0) _ rfl (setR3 (.slice none 0 0) (.slice none 0 0) (.int .i64 0) RL1.out) Tryz.underlying34 rfl (by kernel_rfl)) rfl ?_
   exact ⟨_, rfl, RsV.zero _ _ _, setR3_kp KL.out (show w.heap.size ≤ w.heap.size + 1 by omega) _ _ _⟩
 | some x =>
  have hle := prt_le ok hx; have hzo := okz_ok hle.2.2.2.2.2 (.inr rfl); have hzr := hle.2.2.2.2.2; have hrg := hle.2.2.2.1; obtain ⟨xn, xs, xr, ⟨y1, y2, y3, y4⟩⟩ := x; dsimp only at hzo hrg hzr; have HF := hD (fun w1 (hk : Kp w w1) => pFind (h.kp hk) gp nd hnd xn xs xr y1 y2 y3 y4 true (.inl ⟨hx, rfl⟩)); have hfd := fits_dec (g := (⟨gk, gf, gt, gn, gs, gr, gp, go, gc⟩ : MM)) hx hrg; rw [hnd] at hfd; dsimp only at hfd; obtain ⟨fb, hfb⟩ : ∃ b, (decide (gn = xn ∧ gs = xs) && (gf == xn && (gt == nd && (decide (xr = -1) || gr == xr)))) = b := ⟨_, rfl⟩
  have HFT := hD (fun w => kFits (w := w) xn xs xr y1 y2 y3 y4 nd gp gk gf gt gn gs gr gp go gc fb hfb); rw [hfb] at hfd
  cases fb with
  | false =>
   have hfits : fitsP m (⟨gk, gf, gt, gn, gs, gr, gp, go, gc⟩ : MM) = none := hfd
   cases hask : (decide (gk = 15) || downM gk) with
   | true =>
    rw [hask] at has; have HAS := hD has; have hT : tellP m (⟨gk, gf, gt, gn, gs, gr, gp, go, gc⟩ : MM) = ⟨[], [answerM (⟨gk, gf, gt, gn, gs, gr, gp, go, gc⟩ : MM) 19 3], 0⟩ := by rw [tell_not hfits]; exact if_pos hask
    obtain ⟨RR, hRR⟩ : ∃ r, tellP m (⟨gk, gf, gt, gn, gs, gr, gp, go, gc⟩ : MM) = r := ⟨_, rfl⟩
    have hres := fun w1 (hk : Kp w w1) => kAnswer (w := w1) (⟨gk, gf, gt, gn, gs, gr, gp, go, gc⟩ : MM) 19 3
    rw [← hT, hRR] at hres; rw [hRR]; obtain ⟨lf, hlf⟩ : ∃ n, RR.facts.length = n := ⟨_, rfl⟩
    obtain ⟨lm, hlm⟩ : ∃ n, RR.send.length = n := ⟨_, rfl⟩
    obtain ⟨wk, hwk⟩ : ∃ x, RR.work = x := ⟨_, rfl⟩
    have HRS := hD (fun w1 (hk : Kp w w1) => (hres w1 hk).mono (R' := fun r w' => ∃ fa fc ma mc, r = .returned (.agg #[.slice fa lf fc, .slice ma lm mc, wk]) ∧ w'.ownsRow w1.heap.size 73 14 (.slice fa lf fc) lf (fcE.row RR.facts) ∧ w'.ownsRow w1.heap.size 26 9 (.slice ma lm mc) lm (mmE.row RR.send) ∧ Kp w1 w') (by
     rintro e w2 ⟨v, rfl, h, hk⟩; obtain ⟨fa, fc, ma, mc, rfl, h1, h2⟩ := RsV.form h hlf hlm; rw [hwk]; exact ⟨fa, fc, ma, mc, rfl, h1, h2, hk⟩))
    obtain ⟨HLF, HLM, HWK⟩ := hD3 hlf hlm hwk; dsimp only [MM.cells] at HRS; clear V TC h ok hx hT hres hRR hlf hlm hwk hfits has hask hnd hle hzo hzr hrg hfd hfb; go_enter Tryz.func10, Tryz.ntmps10; go_wp2_with (first | (go_at_call 29; (with_reducible refine (HF.out _ K1.out).mono ?_); rintro e' w2 ⟨rfl, hk⟩; have kz := kT hk (kA w2 (.cells #[xn, xs, xr, y1, y2, y3, y4, nd, gp] 84)); have KL := hD (kT K1.out kz); have RL0 := hD (rZ kz R0.out); have RL1 := hD (rZ kz R1.out); have RLK := hD (mH w2 (.cells #[xn, xs, xr, y1, y2, y3, y4, nd, gp] 84)); obtain ⟨a0, a1, a2, a3, a4, a5, a6, a7, a8⟩ := cells9 RL0.out; obtain ⟨b0, b1, b2, b3, b4, b5, b6, b7, b8⟩ := cells9 RLK.out; obtain ⟨c0, c1, c2⟩ := cellsR3 RL1.out; have fL := frozN RL1.out; clear hk kz) | (go_at_call 30; (with_reducible refine (HFT.out _).mono ?_); rintro e' w3 ⟨rfl, hk⟩; have KL := hD (kT KL.out hk); have RL0 := hD (rZ hk RL0.out); have RL1 := hD (rZ hk RL1.out); have RLK := hD (rZ hk RLK.out); obtain ⟨d0, d1, d2, d3, d4, d5, d6, d7, d8⟩ := cells9 RL0.out; obtain ⟨e0, e1, e2, e3, e4, e5, e6, e7, e8⟩ := cells9 RLK.out; obtain ⟨f0, f1, f2⟩ := cellsR3 RL1.out; have fL := frozN RL1.out; clear hk) | (go_at_call 31; (with_reducible refine (HAS.out _).mono ?_); rintro e' w3 ⟨rfl, rfl⟩) | (go_at_call 32; (with_reducible refine (HRS.out _ KL.out).mono ?_); rintro e' w5 ⟨fa, fc, ma, mc, rfl, of, om, hk⟩; have OF := hD (bG of (kS KL.out)); have OM := hD (bG om (kS KL.out)); have KL := hD (kT KL.out hk); have RL1 := hD (rZ hk RL1.out); obtain ⟨g0, g1, g2⟩ := cellsR3 RL1.out; have fL := frozN RL1.out; clear hk of om))
    refine bodyPost_ret (results_cell_row (p := 4) rfl _ _ (w.heap.size + 1) 34 _ (0, 0) _ rfl (setR3 _ _ _ RL1.out) Tryz.underlying34 rfl (by kernel_rfl)) rfl ?_
    refine ⟨_, rfl, ?_, setR3_kp KL.out (show w.heap.size ≤ w.heap.size + 1 by omega) _ _ _⟩
    have e1 := HWK.out; subst e1; exact RsV.setN RL1.out (by decide) (by decide) HLF.out HLM.out OF.out OM.out
   | false =>
    rw [hask] at has; have HAS := hD has; have hT : tellP m (⟨gk, gf, gt, gn, gs, gr, gp, go, gc⟩ : MM) = rs0 := by rw [tell_not hfits]; exact if_neg (by rw [hask]; decide)
    rw [hT]; clear V TC h ok hx hT hfits has hask hnd hle hzo hzr hrg hfd hfb; go_enter Tryz.func10, Tryz.ntmps10; go_wp2_with (first | (go_at_call 29; (with_reducible refine (HF.out _ K1.out).mono ?_); rintro e' w2 ⟨rfl, hk⟩; have kz := kT hk (kA w2 (.cells #[xn, xs, xr, y1, y2, y3, y4, nd, gp] 84)); have KL := hD (kT K1.out kz); have RL0 := hD (rZ kz R0.out); have RL1 := hD (rZ kz R1.out); have RLK := hD (mH w2 (.cells #[xn, xs, xr, y1, y2, y3, y4, nd, gp] 84)); obtain ⟨a0, a1, a2, a3, a4, a5, a6, a7, a8⟩ := cells9 RL0.out; obtain ⟨b0, b1, b2, b3, b4, b5, b6, b7, b8⟩ := cells9 RLK.out; obtain ⟨c0, c1, c2⟩ := cellsR3 RL1.out; have fL := frozN RL1.out; clear hk kz) | (go_at_call 30; (with_reducible refine (HFT.out _).mono ?_); rintro e' w3 ⟨rfl, hk⟩; have KL := hD (kT KL.out hk); have RL0 := hD (rZ hk RL0.out); have RL1 := hD (rZ hk RL1.out); have RLK := hD (rZ hk RLK.out); obtain ⟨d0, d1, d2, d3, d4, d5, d6, d7, d8⟩ := cells9 RL0.out; obtain ⟨e0, e1, e2, e3, e4, e5, e6, e7, e8⟩ := cells9 RLK.out; obtain ⟨f0, f1, f2⟩ := cellsR3 RL1.out; have fL := frozN RL1.out; clear hk) | (go_at_call 31; (with_reducible refine (HAS.out _).mono ?_); rintro e' w3 ⟨rfl, rfl⟩))
    refine bodyPost_ret (results_cell_row (p := 4) rfl _ _ (w.heap.size + 1) 34 _ (0, 0) _ rfl (setR3 (.slice none 0 0) (.slice none 0 0) (.int .i64 0) RL1.out) Tryz.underlying34 rfl (by kernel_rfl)) rfl ?_
    exact ⟨_, rfl, RsV.zero _ _ _, setR3_kp KL.out (show w.heap.size ≤ w.heap.size + 1 by omega) _ _ _⟩
  | true =>
   have hfits : fitsP m (⟨gk, gf, gt, gn, gs, gr, gp, go, gc⟩ : MM) = some ⟨xn, xs, xr, ⟨y1, y2, y3, y4⟩⟩ := hfd; clear has; have FITSFACTS : gn = xn ∧ gs = xs ∧ (xr = -1 ∨ gr = xr) := by
    simp only [Bool.and_eq_true, decide_eq_true_eq, beq_iff_eq, Bool.or_eq_true] at hfb
    exact ⟨hfb.1.1, hfb.1.2, hfb.2.2.2⟩
   by_cases k18 : gk = 18
   ·have hT : tellP m (⟨gk, gf, gt, gn, gs, gr, gp, go, gc⟩ : MM) = ⟨(if xr = -1 then [(⟨7, 0, 0, gr, 0, gp, 0, 0, 0, 0, 0, 0, 0, 0⟩ : FX)] else []), [], 0⟩ := by
     unfold tellP; rw [if_pos k18, hfits]; unfold placeP fxPlaced; dsimp only
     by_cases h1 : xr = -1
     ·rw [if_pos h1, if_pos (by omega)]
     ·rw [if_neg h1, if_neg (by omega)]
    have g18 : (gk == 18) = true := beq_iff_eq.2 k18; obtain ⟨FS, hFS⟩ : ∃ x, (if xr = -1 then [(⟨7, 0, 0, gr, 0, gp, 0, 0, 0, 0, 0, 0, 0, 0⟩ : FX)] else []) = x := ⟨_, rfl⟩
    obtain ⟨n, hn⟩ : ∃ n, FS.length = n := ⟨_, rfl⟩
    have HPC := hD (fun w => kPlaces (w := w) xn xs xr y1 y2 y3 y4 nd gp gr FS hFS.symm n hn); rw [hT, hFS]; have HN := hD hn; clear V TC h ok hx hT hFS hn hle hrg hzo hzr hfits hfd hfb hnd k18 FITSFACTS; go_enter Tryz.func10, Tryz.ntmps10; go_wp2_with (first | (go_at_call 29; (with_reducible refine (HF.out _ K1.out).mono ?_); rintro e' w2 ⟨rfl, hk⟩; have kz := kT hk (kA w2 (.cells #[xn, xs, xr, y1, y2, y3, y4, nd, gp] 84)); have KL := hD (kT K1.out kz); have RL0 := hD (rZ kz R0.out); have RL1 := hD (rZ kz R1.out); have RLK := hD (mH w2 (.cells #[xn, xs, xr, y1, y2, y3, y4, nd, gp] 84)); obtain ⟨a0, a1, a2, a3, a4, a5, a6, a7, a8⟩ := cells9 RL0.out; obtain ⟨b0, b1, b2, b3, b4, b5, b6, b7, b8⟩ := cells9 RLK.out; obtain ⟨c0, c1, c2⟩ := cellsR3 RL1.out; have fL := frozN RL1.out; clear hk kz) | (go_at_call 30; (with_reducible refine (HFT.out _).mono ?_); rintro e' w3 ⟨rfl, hk⟩; have KL := hD (kT KL.out hk); have RL0 := hD (rZ hk RL0.out); have RL1 := hD (rZ hk RL1.out); have RLK := hD (rZ hk RLK.out); obtain ⟨d0, d1, d2, d3, d4, d5, d6, d7, d8⟩ := cells9 RL0.out; obtain ⟨e0, e1, e2, e3, e4, e5, e6, e7, e8⟩ := cells9 RLK.out; obtain ⟨f0, f1, f2⟩ := cellsR3 RL1.out; have fL := frozN RL1.out; clear hk) | (go_at_call 33; (with_reducible refine (HPC.out _).mono ?_); rintro e' w5 ⟨fa, fc, rfl, of, hk⟩; have OF := hD (bG of (kS KL.out)); have KL := hD (kT KL.out hk); have RL1 := hD (rZ hk RL1.out); obtain ⟨g0, g1, g2⟩ := cellsR3 RL1.out; have fL := frozN RL1.out; clear hk of))
    refine bodyPost_ret (results_cell_row (p := 4) rfl _ _ (w.heap.size + 1) 34 _ (0, 0) _ rfl (setR3 _ _ _ RL1.out) Tryz.underlying34 rfl (by kernel_rfl)) rfl ?_
    exact ⟨_, rfl, RsV.setN (r := ⟨FS, [], 0⟩) RL1.out (by decide) (by decide) HN.out rfl OF.out own_no, setR3_kp KL.out (show w.heap.size ≤ w.heap.size + 1 by omega) _ _ _⟩
   have g18 : (gk == 18) = false := by simpa using k18
   by_cases k19 : gk = 19
   ·have hT : tellP m (⟨gk, gf, gt, gn, gs, gr, gp, go, gc⟩ : MM) = ⟨(if xr = -1 ∧ y3 = 1 ∧ (gc = 2 ∨ gc = 4 ∨ gc = 5) then [(⟨8, 0, 0, 0, 0, gp, 0, 0, 0, 0, 14, 1, 0, 0⟩ : FX)] else []), [], 0⟩ := by
     unfold tellP; rw [if_neg k18, if_pos k19, hfits]; unfold fxTurned; dsimp only
     by_cases h1 : xr = -1 ∧ y3 = 1 ∧ (gc = 2 ∨ gc = 4 ∨ gc = 5)
     ·rw [if_pos h1, if_pos ⟨by omega, h1.2⟩]
     ·rw [if_neg h1, if_neg (fun e => h1 ⟨by omega, e.2⟩)]; rfl
    have g19 : (gk == 19) = true := beq_iff_eq.2 k19; obtain ⟨RR, hRR⟩ : ∃ r, tellP m (⟨gk, gf, gt, gn, gs, gr, gp, go, gc⟩ : MM) = r := ⟨_, rfl⟩
    have hres := fun w1 (_ : Kp w w1) => kRefused (w := w1) xn xs xr y1 y2 y3 y4 nd gp gk gf gt gn gs gr gp go gc
    rw [← hT, hRR] at hres; rw [hRR]; obtain ⟨lf, hlf⟩ : ∃ n, RR.facts.length = n := ⟨_, rfl⟩
    obtain ⟨lm, hlm⟩ : ∃ n, RR.send.length = n := ⟨_, rfl⟩
    obtain ⟨wk, hwk⟩ : ∃ x, RR.work = x := ⟨_, rfl⟩
    have HRS := hD (fun w1 (hk : Kp w w1) => (hres w1 hk).mono (R' := fun r w' => ∃ fa fc ma mc, r = .returned (.agg #[.slice fa lf fc, .slice ma lm mc, wk]) ∧ w'.ownsRow w1.heap.size 73 14 (.slice fa lf fc) lf (fcE.row RR.facts) ∧ w'.ownsRow w1.heap.size 26 9 (.slice ma lm mc) lm (mmE.row RR.send) ∧ Kp w1 w') (by
     rintro e w2 ⟨v, rfl, h, hk⟩; obtain ⟨fa, fc, ma, mc, rfl, h1, h2⟩ := RsV.form h hlf hlm; rw [hwk]; exact ⟨fa, fc, ma, mc, rfl, h1, h2, hk⟩))
    obtain ⟨HLF, HLM, HWK⟩ := hD3 hlf hlm hwk; clear V TC h ok hx hT hres hRR hlf hlm hwk hle hrg hzo hzr hfits hfd hfb hnd k18 k19 FITSFACTS; go_enter Tryz.func10, Tryz.ntmps10; go_wp2_with (first | (go_at_call 29; (with_reducible refine (HF.out _ K1.out).mono ?_); rintro e' w2 ⟨rfl, hk⟩; have kz := kT hk (kA w2 (.cells #[xn, xs, xr, y1, y2, y3, y4, nd, gp] 84)); have KL := hD (kT K1.out kz); have RL0 := hD (rZ kz R0.out); have RL1 := hD (rZ kz R1.out); have RLK := hD (mH w2 (.cells #[xn, xs, xr, y1, y2, y3, y4, nd, gp] 84)); obtain ⟨a0, a1, a2, a3, a4, a5, a6, a7, a8⟩ := cells9 RL0.out; obtain ⟨b0, b1, b2, b3, b4, b5, b6, b7, b8⟩ := cells9 RLK.out; obtain ⟨c0, c1, c2⟩ := cellsR3 RL1.out; have fL := frozN RL1.out; clear hk kz) | (go_at_call 30; (with_reducible refine (HFT.out _).mono ?_); rintro e' w3 ⟨rfl, hk⟩; have KL := hD (kT KL.out hk); have RL0 := hD (rZ hk RL0.out); have RL1 := hD (rZ hk RL1.out); have RLK := hD (rZ hk RLK.out); obtain ⟨d0, d1, d2, d3, d4, d5, d6, d7, d8⟩ := cells9 RL0.out; obtain ⟨e0, e1, e2, e3, e4, e5, e6, e7, e8⟩ := cells9 RLK.out; obtain ⟨f0, f1, f2⟩ := cellsR3 RL1.out; have fL := frozN RL1.out; clear hk) | (go_at_call 34; (with_reducible refine (HRS.out _ KL.out).mono ?_); rintro e' w5 ⟨fa, fc, ma, mc, rfl, of, om, hk⟩; have OF := hD (bG of (kS KL.out)); have OM := hD (bG om (kS KL.out)); have KL := hD (kT KL.out hk); have RL1 := hD (rZ hk RL1.out); obtain ⟨g0, g1, g2⟩ := cellsR3 RL1.out; have fL := frozN RL1.out; clear hk of om))
    refine bodyPost_ret (results_cell_row (p := 4) rfl _ _ (w.heap.size + 1) 34 _ (0, 0) _ rfl (setR3 _ _ _ RL1.out) Tryz.underlying34 rfl (by kernel_rfl)) rfl ?_
    refine ⟨_, rfl, ?_, setR3_kp KL.out (show w.heap.size ≤ w.heap.size + 1 by omega) _ _ _⟩
    have e1 := HWK.out; subst e1; exact RsV.setN RL1.out (by decide) (by decide) HLF.out HLM.out OF.out OM.out
   have g19 : (gk == 19) = false := by simpa using k19
   by_cases k15 : gk = 15
   ·have hT : tellP m (⟨gk, gf, gt, gn, gs, gr, gp, go, gc⟩ : MM) = ⟨[], [answerM (⟨gk, gf, gt, gn, gs, gr, gp, go, gc⟩ : MM) 16 y3], 0⟩ := by
     unfold tellP; rw [if_neg k18, if_neg k19, if_pos k15, hfits]
    have g15 : (gk == 15) = true := beq_iff_eq.2 k15; obtain ⟨RR, hRR⟩ : ∃ r, tellP m (⟨gk, gf, gt, gn, gs, gr, gp, go, gc⟩ : MM) = r := ⟨_, rfl⟩
    have hres := fun w1 (_ : Kp w w1) => kAnswer (w := w1) (⟨gk, gf, gt, gn, gs, gr, gp, go, gc⟩ : MM) 16 y3
    rw [← hT, hRR] at hres; rw [hRR]; obtain ⟨lf, hlf⟩ : ∃ n, RR.facts.length = n := ⟨_, rfl⟩
    obtain ⟨lm, hlm⟩ : ∃ n, RR.send.length = n := ⟨_, rfl⟩
    obtain ⟨wk, hwk⟩ : ∃ x, RR.work = x := ⟨_, rfl⟩
    have HRS := hD (fun w1 (hk : Kp w w1) => (hres w1 hk).mono (R' := fun r w' => ∃ fa fc ma mc, r = .returned (.agg #[.slice fa lf fc, .slice ma lm mc, wk]) ∧ w'.ownsRow w1.heap.size 73 14 (.slice fa lf fc) lf (fcE.row RR.facts) ∧ w'.ownsRow w1.heap.size 26 9 (.slice ma lm mc) lm (mmE.row RR.send) ∧ Kp w1 w') (by
     rintro e w2 ⟨v, rfl, h, hk⟩; obtain ⟨fa, fc, ma, mc, rfl, h1, h2⟩ := RsV.form h hlf hlm; rw [hwk]; exact ⟨fa, fc, ma, mc, rfl, h1, h2, hk⟩))
    obtain ⟨HLF, HLM, HWK⟩ := hD3 hlf hlm hwk; dsimp only [MM.cells] at HRS; clear V TC h ok hx hT hres hRR hlf hlm hwk hle hrg hzo hzr hfits hfd hfb hnd k18 k19 k15 FITSFACTS; go_enter Tryz.func10, Tryz.ntmps10; go_wp2_with (first | (go_at_call 29; (with_reducible refine (HF.out _ K1.out).mono ?_); rintro e' w2 ⟨rfl, hk⟩; have kz := kT hk (kA w2 (.cells #[xn, xs, xr, y1, y2, y3, y4, nd, gp] 84)); have KL := hD (kT K1.out kz); have RL0 := hD (rZ kz R0.out); have RL1 := hD (rZ kz R1.out); have RLK := hD (mH w2 (.cells #[xn, xs, xr, y1, y2, y3, y4, nd, gp] 84)); obtain ⟨a0, a1, a2, a3, a4, a5, a6, a7, a8⟩ := cells9 RL0.out; obtain ⟨b0, b1, b2, b3, b4, b5, b6, b7, b8⟩ := cells9 RLK.out; obtain ⟨c0, c1, c2⟩ := cellsR3 RL1.out; have fL := frozN RL1.out; clear hk kz) | (go_at_call 30; (with_reducible refine (HFT.out _).mono ?_); rintro e' w3 ⟨rfl, hk⟩; have KL := hD (kT KL.out hk); have RL0 := hD (rZ hk RL0.out); have RL1 := hD (rZ hk RL1.out); have RLK := hD (rZ hk RLK.out); obtain ⟨d0, d1, d2, d3, d4, d5, d6, d7, d8⟩ := cells9 RL0.out; obtain ⟨e0, e1, e2, e3, e4, e5, e6, e7, e8⟩ := cells9 RLK.out; obtain ⟨f0, f1, f2⟩ := cellsR3 RL1.out; have fL := frozN RL1.out; clear hk) | (go_at_call 32; (with_reducible refine (HRS.out _ KL.out).mono ?_); rintro e' w5 ⟨fa, fc, ma, mc, rfl, of, om, hk⟩; have OF := hD (bG of (kS KL.out)); have OM := hD (bG om (kS KL.out)); have KL := hD (kT KL.out hk); have RL1 := hD (rZ hk RL1.out); obtain ⟨g0, g1, g2⟩ := cellsR3 RL1.out; have fL := frozN RL1.out; clear hk of om))
    refine bodyPost_ret (results_cell_row (p := 4) rfl _ _ (w.heap.size + 1) 34 _ (0, 0) _ rfl (setR3 _ _ _ RL1.out) Tryz.underlying34 rfl (by kernel_rfl)) rfl ?_
    refine ⟨_, rfl, ?_, setR3_kp KL.out (show w.heap.size ≤ w.heap.size + 1 by omega) _ _ _⟩
    have e1 := HWK.out; subst e1; exact RsV.setN RL1.out (by decide) (by decide) HLF.out HLM.out OF.out OM.out
   have g15 : (gk == 15) = false := by simpa using k15
   have hdn := fun w => down_any gk w
   cases hd : downM gk with
   | false =>
    rw [hd] at hdn; have HDN := hD hdn; have hT : tellP m (⟨gk, gf, gt, gn, gs, gr, gp, go, gc⟩ : MM) = rs0 := by
     unfold tellP; rw [if_neg k18, if_neg k19, if_neg k15, if_pos hd]
    rw [hT]; clear V TC h ok hx hT hle hrg hzo hzr hfits hfd hfb hnd k18 k19 k15 hd hdn FITSFACTS; go_enter Tryz.func10, Tryz.ntmps10; go_wp2_with (first | (go_at_call 29; (with_reducible refine (HF.out _ K1.out).mono ?_); rintro e' w2 ⟨rfl, hk⟩; have kz := kT hk (kA w2 (.cells #[xn, xs, xr, y1, y2, y3, y4, nd, gp] 84)); have KL := hD (kT K1.out kz); have RL0 := hD (rZ kz R0.out); have RL1 := hD (rZ kz R1.out); have RLK := hD (mH w2 (.cells #[xn, xs, xr, y1, y2, y3, y4, nd, gp] 84)); obtain ⟨a0, a1, a2, a3, a4, a5, a6, a7, a8⟩ := cells9 RL0.out; obtain ⟨b0, b1, b2, b3, b4, b5, b6, b7, b8⟩ := cells9 RLK.out; obtain ⟨c0, c1, c2⟩ := cellsR3 RL1.out; have fL := frozN RL1.out; clear hk kz) | (go_at_call 30; (with_reducible refine (HFT.out _).mono ?_); rintro e' w3 ⟨rfl, hk⟩; have KL := hD (kT KL.out hk); have RL0 := hD (rZ hk RL0.out); have RL1 := hD (rZ hk RL1.out); have RLK := hD (rZ hk RLK.out); obtain ⟨d0, d1, d2, d3, d4, d5, d6, d7, d8⟩ := cells9 RL0.out; obtain ⟨e0, e1, e2, e3, e4, e5, e6, e7, e8⟩ := cells9 RLK.out; obtain ⟨f0, f1, f2⟩ := cellsR3 RL1.out; have fL := frozN RL1.out; clear hk) | (go_at_call 35; (with_reducible refine (HDN.out _).mono ?_); rintro e' w3 ⟨rfl, rfl⟩))
    refine bodyPost_ret (results_cell_row (p := 4) rfl _ _ (w.heap.size + 1) 34 _ (0, 0) _ rfl (setR3 (.slice none 0 0) (.slice none 0 0) (.int .i64 0) RL1.out) Tryz.underlying34 rfl (by kernel_rfl)) rfl ?_
    exact ⟨_, rfl, RsV.zero _ _ _, setR3_kp KL.out (show w.heap.size ≤ w.heap.size + 1 by omega) _ _ _⟩
   | true =>
    rw [hd] at hdn; have HDN := hD hdn; have hk14 := down_in hd; have hto := told_ok (z := ⟨y1, y2, y3, y4⟩) hzr hk14; obtain ⟨⟨⟨e1, e2, e3, e4⟩, es, ef, ew, ec⟩, hY⟩ : ∃ y, ((⟨y1, y2, y3, y4⟩ : SeatM).tell gk).2 = y := ⟨_, rfl⟩
    have hT : tellP m (⟨gk, gf, gt, gn, gs, gr, gp, go, gc⟩ : MM) = ⟨(if xr = -1 then [(⟨7, 0, 0, gr, 0, gp, 0, 0, 0, 0, 0, 0, 0, 0⟩ : FX)] else []) ++ (if ec = true then [(⟨8, 0, 0, 0, 0, gp, 0, 0, 0, 0, e3, e4, 0, 0⟩ : FX)] else []), (if es ≠ 0 then [(⟨es, nd, xn, xn, xs, gr, gp, 0, 0⟩ : MM)] else []) ++ (if ef ≠ 0 then [(⟨19, gt, gf, gn, gs, gr, gp, 0, ef⟩ : MM)] else []), ew⟩ := by
     unfold tellP; rw [if_neg k18, if_neg k19, if_neg k15, if_neg (by rw [hd]; decide), hfits]; dsimp only; rw [if_neg (by rw [hto.1]; simp), hY]; unfold seatP placeP fxPlaced fxTurned msgP answerM; dsimp only; rw [hnd]
     by_cases h1 : xr = -1
     ·rw [if_pos h1, if_pos (show xr < 0 by omega)]
     ·rw [if_neg h1, if_neg (show ¬ xr < 0 by omega)]
    obtain ⟨RR, hRR⟩ : ∃ r, tellP m (⟨gk, gf, gt, gn, gs, gr, gp, go, gc⟩ : MM) = r := ⟨_, rfl⟩
    have hres := fun w1 (hk : Kp w w1) => kTold (TC.kp hk) (kZ hk ((ep_of_st (S := [3]) V (by decide)).cell 3 (by decide))) xn xs xr y1 y2 y3 y4 nd gp gk gf gt gn gs gr gp go gc hzo (down_not hd).2.2.2 e1 e2 e3 e4 es ef ew ec hY _ _ rfl rfl _ _ rfl rfl
    rw [← hT, hRR] at hres; rw [hRR]; obtain ⟨lf, hlf⟩ : ∃ n, RR.facts.length = n := ⟨_, rfl⟩
    obtain ⟨lm, hlm⟩ : ∃ n, RR.send.length = n := ⟨_, rfl⟩
    obtain ⟨wk, hwk⟩ : ∃ x, RR.work = x := ⟨_, rfl⟩
    have HRS := hD (fun w1 (hk : Kp w w1) => (hres w1 hk).mono (R' := fun r w' => ∃ fa fc ma mc, r = .returned (.agg #[.slice fa lf fc, .slice ma lm mc, wk]) ∧ w'.ownsRow w1.heap.size 73 14 (.slice fa lf fc) lf (fcE.row RR.facts) ∧ w'.ownsRow w1.heap.size 26 9 (.slice ma lm mc) lm (mmE.row RR.send) ∧ Kp w1 w') (by
     rintro e w2 ⟨v, rfl, h, hk⟩; obtain ⟨fa, fc, ma, mc, rfl, h1, h2⟩ := RsV.form h hlf hlm; rw [hwk]; exact ⟨fa, fc, ma, mc, rfl, h1, h2, hk⟩))
    obtain ⟨HLF, HLM, HWK⟩ := hD3 hlf hlm hwk; clear V TC h ok hx hT hres hRR hlf hlm hwk hle hrg hzo hzr hfits hfd hfb hnd k18 k19 k15 hd hdn FITSFACTS hto hY hk14; go_enter Tryz.func10, Tryz.ntmps10; go_wp2_with (first | (go_at_call 29; (with_reducible refine (HF.out _ K1.out).mono ?_); rintro e' w2 ⟨rfl, hk⟩; have kz := kT hk (kA w2 (.cells #[xn, xs, xr, y1, y2, y3, y4, nd, gp] 84)); have KL := hD (kT K1.out kz); have RL0 := hD (rZ kz R0.out); have RL1 := hD (rZ kz R1.out); have RLK := hD (mH w2 (.cells #[xn, xs, xr, y1, y2, y3, y4, nd, gp] 84)); obtain ⟨a0, a1, a2, a3, a4, a5, a6, a7, a8⟩ := cells9 RL0.out; obtain ⟨b0, b1, b2, b3, b4, b5, b6, b7, b8⟩ := cells9 RLK.out; obtain ⟨c0, c1, c2⟩ := cellsR3 RL1.out; have fL := frozN RL1.out; clear hk kz) | (go_at_call 30; (with_reducible refine (HFT.out _).mono ?_); rintro e' w3 ⟨rfl, hk⟩; have KL := hD (kT KL.out hk); have RL0 := hD (rZ hk RL0.out); have RL1 := hD (rZ hk RL1.out); have RLK := hD (rZ hk RLK.out); obtain ⟨d0, d1, d2, d3, d4, d5, d6, d7, d8⟩ := cells9 RL0.out; obtain ⟨e0, e1, e2, e3, e4, e5, e6, e7, e8⟩ := cells9 RLK.out; obtain ⟨f0, f1, f2⟩ := cellsR3 RL1.out; have fL := frozN RL1.out; clear hk) | (go_at_call 35; (with_reducible refine (HDN.out _).mono ?_); rintro e' w3 ⟨rfl, rfl⟩) | (go_at_call 36; (with_reducible refine (HRS.out _ KL.out).mono ?_); rintro e' w5 ⟨fa, fc, ma, mc, rfl, of, om, hk⟩; have OF := hD (bG of (kS KL.out)); have OM := hD (bG om (kS KL.out)); have KL := hD (kT KL.out hk); have RL1 := hD (rZ hk RL1.out); obtain ⟨g0, g1, g2⟩ := cellsR3 RL1.out; have fL := frozN RL1.out; clear hk of om))
    refine bodyPost_ret (results_cell_row (p := 4) rfl _ _ (w.heap.size + 1) 34 _ (0, 0) _ rfl (setR3 _ _ _ RL1.out) Tryz.underlying34 rfl (by kernel_rfl)) rfl ?_
    refine ⟨_, rfl, ?_, setR3_kp KL.out (show w.heap.size ≤ w.heap.size + 1 by omega) _ _ _⟩
    have e1 := HWK.out; subst e1; exact RsV.setN RL1.out (by decide) (by decide) HLF.out HLM.out OF.out OM.out
theorem pTell (V : St ads w) (TC : TabC ads w) (h : SL B q m w) (ok : OkS m) (g : MM) : Calls Tryz.prog 10 #[.pointer (some ⟨q, 0, none⟩), .agg g.cells] w fun r w' => ∃ v, r = .returned v ∧ RsV 73 w.heap.size (tellP m g) v w' ∧ Kp w w' := pTell0 V TC h ok g.k g.f g.t g.n g.s g.r g.p g.o g.c
structure ParC (ads : List Addr) (w : World) : Prop where
 tell : ∀ w1, Kp w w1 → ∀ (B q : Nat) (m : StM), SL B q m w1 → OkS m → ∀ g : MM, Calls Tryz.prog 10 #[.pointer (some ⟨q, 0, none⟩), .agg g.cells] w1 fun r w' => ∃ v, r = .returned v ∧ RsV 73 w1.heap.size (tellP m g) v w' ∧ Kp w1 w'
 asked : ∀ w1, Kp w w1 → ∀ (q : Nat) (g : MM), Calls Tryz.prog 14 #[.pointer (some ⟨q, 0, none⟩), .agg g.cells] w1 fun r w' => r = .returned (.bool (askedP g)) ∧ Kp w1 w'
 does : ∀ w1, Kp w w1 → ∀ (B q : Nat) (m : StM), SL B q m w1 → OkS m → ∀ i k : Int, i64M k → Calls Tryz.prog 17 #[.pointer (some ⟨q, 0, none⟩), .int .i64 i, .int .i64 k] w1 fun r w' => ∃ v, r = .returned (.tuple #[v, errI ads (doP m i k).1]) ∧ RsV 73 w1.heap.size (doP m i k).2 v w' ∧ Kp w1 w'
 again : ∀ w1, Kp w w1 → ∀ (B q : Nat) (m : StM), SL B q m w1 → OkS m → ∀ (i : Int) (g : MM) (b : Bool), ((againP m i = some g ∧ b = true) ∨ (againP m i = none ∧ b = false ∧ g = ⟨0, 0, 0, 0, 0, 0, 0, 0, 0⟩)) → Calls Tryz.prog 20 #[.pointer (some ⟨q, 0, none⟩), .int .i64 i] w1 fun r w' => r = .returned (.tuple #[.agg g.cells, .bool b]) ∧ Kp w1 w'
 join : ∀ w1, Kp w w1 → ∀ (B q : Nat) (m : StM), SL B q m w1 → OkS m → ∀ (c : CX) (p : Int) (now : Nat), c.wf → now < 18446744073709551616 → i64M p → Calls Tryz.prog 22 #[.pointer (some ⟨q, 0, none⟩), .agg c.cells, .int .i64 p, .float .f64 now] w1 fun r w' => ∃ v, r = .returned (.tuple #[v, errI ads (joinP m c p now).1]) ∧ RsV 73 w1.heap.size (joinP m c p now).2 v w' ∧ Kp w1 w'
theorem ParC.kp (C : ParC ads w) (hk : Kp w w') : ParC ads w' where
 tell := fun w1 h => C.tell w1 (kT hk h)
 asked := fun w1 h => C.asked w1 (kT hk h)
 does := fun w1 h => C.does w1 (kT hk h)
 again := fun w1 h => C.again w1 (kT hk h)
 join := fun w1 h => C.join w1 (kT hk h)
def bldM (m : StM) (fs : List FX) : StM := fs.foldl (fun m f => (applyQ m f).2) m
theorem bld_ok : ∀ (fs : List FX) {m : StM}, OkS m → OkS (bldM m fs)
 | [], _, h => h
 | f :: l, _, h => bld_ok l (applyQ_ok (f := f) h)
theorem apply_node16 {m : StM} {f : FX} : (applyQ m f).2.node = m.node := applyQ_node
theorem bld_node : ∀ (fs : List FX) (m : StM), (bldM m fs).node = m.node
 | [], _ => rfl
 | _ :: l, _ => (bld_node l _).trans apply_node16
theorem bld_take (fs : List FX) (m : StM) (j : Nat) (hj : j < fs.length) : bldM m (fs.take (j + 1)) = (applyQ (bldM m (fs.take j)) (fs[j]'hj)).2 := by
 unfold bldM; rw [List.take_succ_eq_append_getElem hj, List.foldl_append]
 rfl
theorem built_no (E : EP [0, 3, 4, 8, 13] ads w) (nd : Int) (a : Option Addr) (n cap : Nat) (h : ¬ inN nd ∨ 60 < n) : Calls Tryz.prog 9 #[.int .i64 nd, .slice a n cap] w fun r w' => r = .returned (.tuple #[.pointer none, .pointer none, .bool false]) ∧ Kp w w' := by
 obtain ⟨N, hN⟩ : ∃ N : Int, (n : Int) = N := ⟨_, rfl⟩
 have hsf := sF
 by_cases hin : inN nd
 ·have h60 : 60 < n := h.elim (fun e => absurd hin e) id; have d1 : decide (N > 60) = true := dT (by omega); have HNEW := hD (SL.new E nd hin); clear h h60 hin E; go_enter Tryz.func9, Tryz.ntmps9; go_wp2_with (go_at_call 26; (with_reducible refine HNEW.out.mono ?_); rintro e' w1 ⟨q, rfl, hg1, hk1⟩; obtain ⟨G1, K1⟩ := hD2 hg1 hk1; clear hg1 hk1)
  go_ret3
  exact ⟨rfl, K1.out⟩
 ·have hnew := SL.noNew E nd hin; obtain ⟨er, her⟩ := errI_some14 ads 1 (by decide); rw [her] at hnew; have HNEW := hD hnew; clear h hin E hnew her; go_enter Tryz.func9, Tryz.ntmps9; go_wp2_with (go_at_call 26; (with_reducible refine HNEW.out.mono ?_); rintro e' w1 ⟨rfl, hk1⟩; have K1 := hD hk1; clear hk1)
  go_ret3
  exact ⟨rfl, K1.out⟩
theorem built_any (C : FacC ads w) (E : EP [0, 3, 4, 8, 13] ads w) (nd : Int) (v : Value) (fs : List FX) (hin : inN nd) (hl : fs.length ≤ 60) (hs : SlFc v fs w) : Calls Tryz.prog 9 #[.int .i64 nd, v] w fun r w' => ∃ q q', r = .returned (.tuple #[.pointer (some ⟨q, 0, none⟩), .pointer (some ⟨q', 0, none⟩), .bool true]) ∧ SL w.heap.size q (bldM (newSt nd) fs) w' ∧ SD w.heap.size q' (bldM (newSt nd) fs) w' ∧ Kp w w' := by
 obtain ⟨a, cap, rfl, _⟩ := id hs; obtain ⟨n, hn⟩ : ∃ n, fs.length = n := ⟨_, rfl⟩
 rw [hn] at hs hl ⊢; obtain ⟨N, hN⟩ : ∃ N : Int, (n : Int) = N := ⟨_, rfl⟩
 have d1 : decide (N > 60) = false := dF (by omega); have HNEW := hD (SL.new E nd hin); obtain ⟨HC, HE, HN, HS, HNN, HL⟩ := hD6 C E hn hs hN hl; have hsf := sF; have HOK0 := hD (newSt_ok hin); clear hin C E hn hs hl; go_enter Tryz.func9, Tryz.ntmps9; go_wp2_with (go_at_call 26; (with_reducible refine HNEW.out.mono ?_); rintro e' w1 ⟨q, rfl, hg1, hk1⟩; obtain ⟨G1, K1⟩ := hD2 hg1 hk1; clear hg1 hk1)
 have KX := hD (kT K1.out (kA w1 (.cells #[nd, (0:Int), .slice none 0 0, .slice none 0 0] 79))); have SL0 := hD (G1.out.kp (kA w1 (.cells #[nd, (0:Int), .slice none 0 0, .slice none 0 0] 79))); have SD0 := hD (SD.new (B := w.heap.size) (mH w1 (.cells #[nd, (0:Int), .slice none 0 0, .slice none 0 0] 79)) (kS K1.out)); go_loopw [29] (fun i wr => ∃ (j : Nat) (m : StM), j ≤ n ∧ i = .int .i64 j ∧ m = bldM (newSt nd) (fs.take j) ∧ SL w.heap.size q m wr ∧ SD w.heap.size w1.heap.size m wr ∧ Kp w wr) (fun i _ => n - (intOf i).toNat)
 case atStart => exact ⟨0, newSt nd, Nat.zero_le _, rfl, rfl, SL0.out, SD0.out, KX.out⟩
 case round =>
  obtain ⟨j, m, hj, rfl, hm, hsl, hsd, hk⟩ := hrel; obtain ⟨kk, hkk⟩ : ∃ x : Int, (j : Int) = x := ⟨_, rfl⟩
  rw [hkk]; obtain ⟨HKK, KR⟩ := hD2 hkk hk
  by_cases hlt : j < n
  ·have hjl : kk < N := by have := HNN.out; omega
   have hk0 : 0 ≤ kk := by omega
   have htk : kk.toNat = j := by omega
   have hN8 : N ≤ 60 := by have := HNN.out; have := HL.out; omega
   have hw1 : wrap64 (kk + 1) = kk + 1 := IntWalk.wrap64_in _ (by omega); have HLT := hD hlt; have hjx : j < fs.length := by have := HN.out; omega
   have hok : OkS m := by rw [hm]; exact bld_ok _ HOK0.out
   have hnx := bld_take fs (newSt nd) j hjx; rw [← hm] at hnx; obtain ⟨bb, bo, rfl, hwf, hcell⟩ := (HS.out.kp hk).at j hjx; obtain ⟨⟨fk, fn, fs, fr, fe, fp, fq, fo, fd, fa, ft, fh, fc, fx⟩, hF⟩ : ∃ f, fs[j]'hjx = f := ⟨_, rfl⟩
   rw [hF] at hwf hcell hnx; rw [← htk] at hcell; have zf0 : wr.cell? ⟨bb, bo + kk.toNat * 14, none⟩ = some (.int .i64 fk) := hcell 0 _ rfl; have zf1 : wr.cell? ⟨bb, bo + kk.toNat * 14 + 1, none⟩ = some (.int .i64 fn) := hcell 1 _ rfl; have zf2 : wr.cell? ⟨bb, bo + kk.toNat * 14 + 2, none⟩ = some (.int .i64 fs) := hcell 2 _ rfl; have zf3 : wr.cell? ⟨bb, bo + kk.toNat * 14 + 3, none⟩ = some (.int .i64 fr) := hcell 3 _ rfl; have zf4 : wr.cell? ⟨bb, bo + kk.toNat * 14 + 4, none⟩ = some (.int .i64 fe) := hcell 4 _ rfl; have zf5 : wr.cell? ⟨bb, bo + kk.toNat * 14 + 5, none⟩ = some (.int .i64 fp) := hcell 5 _ rfl; have zf6 : wr.cell? ⟨bb, bo + kk.toNat * 14 + 6, none⟩ = some (.int .i64 fq) := hcell 6 _ rfl; have zf7 : wr.cell? ⟨bb, bo + kk.toNat * 14 + 7, none⟩ = some (.int .i64 fo) := hcell 7 _ rfl; have zf8 : wr.cell? ⟨bb, bo + kk.toNat * 14 + 8, none⟩ = some (.int .i64 fd) := hcell 8 _ rfl; have zf9 : wr.cell? ⟨bb, bo + kk.toNat * 14 + 9, none⟩ = some (.int .i64 fa) := hcell 9 _ rfl
   have zf10 : wr.cell? ⟨bb, bo + kk.toNat * 14 + 10, none⟩ = some (.int .i64 ft) := hcell 10 _ rfl; have zf11 : wr.cell? ⟨bb, bo + kk.toNat * 14 + 11, none⟩ = some (.int .i64 fh) := hcell 11 _ rfl; have zf12 : wr.cell? ⟨bb, bo + kk.toNat * 14 + 12, none⟩ = some (.int .i64 fc) := hcell 12 _ rfl; have zf13 : wr.cell? ⟨bb, bo + kk.toNat * 14 + 13, none⟩ = some (.float .f64 fx) := hcell 13 _ rfl; have kb := kA wr (.cells #[fk, fn, fs, fr, fe, fp, fq, fo, fd, fa, ft, fh, fc, fx] 73); obtain ⟨u0, u1, u2, u3, u4, u5, u6, u7, u8, u9, u10, u11, u12, u13⟩ := cZ (mH wr (.cells #[fk, fn, fs, fr, fe, fp, fq, fo, fd, fa, ft, fh, fc, fx] 73)); have RF := hD (mH wr (.cells #[fk, fn, fs, fr, fe, fp, fq, fo, fd, fa, ft, fh, fc, fx] 73)); have hap := SL.apply (HC.out.kp (kT hk kb)) (HE.out.kp (kT hk kb)) (hsl.kp kb) hok (⟨fk, fn, fs, fr, fe, fp, fq, fo, fd, fa, ft, fh, fc, fx⟩ : FX) hwf; have had := fun w2 (h : SD w.heap.size w1.heap.size m w2) => SD.apply h hok (⟨fk, fn, fs, fr, fe, fp, fq, fo, fd, fa, ft, fh, fc, fx⟩ : FX) hwf
   dsimp only [FX.cells] at hap had; obtain ⟨AQ, hAQ⟩ : ∃ x, applyQ m (⟨fk, fn, fs, fr, fe, fp, fq, fo, fd, fa, ft, fh, fc, fx⟩ : FX) = x := ⟨_, rfl⟩
   rw [hAQ] at hap had hnx; obtain ⟨ac, m2⟩ := AQ; dsimp only at hap had hnx; obtain ⟨er, her⟩ : ∃ x, errI ads ac = x := ⟨_, rfl⟩
   rw [her] at hap; obtain ⟨HAP, HAD, HNX⟩ := hD3 hap had hnx; have HSD := hD (hsd.kp kb); have KB := hD (kT hk kb); clear hkk hj hlt hm hok hsl hsd hk htk hjx hwf hcell hF kb hap had hAQ hnx her; go_wp2_with (first | (go_at_call 27; (with_reducible refine HAP.out.mono ?_); rintro e' w5 ⟨rfl, s5, d5, x5, k5⟩; have D5 := hD (d5 _ _ _ HSD.out); have S5 := hD s5; have R5 := hD (x5 _ _ _ offL_fct RF.out); obtain ⟨v0, v1, v2, v3, v4, v5, v6, v7, v8, v9, v10, v11, v12, v13⟩ := cZ R5.out; have K5 := hD (k5 _ KB.out (Nat.le_refl _)); clear s5 d5 x5 k5) | (go_at_call 28; (with_reducible refine (HAD.out _ D5.out).mono ?_); rintro e' w7 ⟨rfl, s7, d7, x7, k7⟩; have S7 := hD (d7 _ _ _ S5.out); have D7 := hD s7; have K7 := hD (k7 _ K5.out (Nat.le_refl _)); clear s7 d7 x7 k7))
   go_roundw
   case rel => exact ⟨j + 1, m2, by have := HLT.out; omega, by have := HKK.out; first | rw [show ((j + 1 : Nat) : Int) = kk + 1 by omega] | rw [show ((j + 1 : Nat) : Int) = kk + 1 by omega, hw1], HNX.out.symm, S7.out, D7.out, K7.out⟩
   case measure => have := HKK.out; have := HLT.out; simp [intOf]; omega
  ·have hje : ¬ kk < N := by have := HNN.out; omega
   have hmm : m = bldM (newSt nd) fs := by rw [hm, List.take_of_length_le (by have := HN.out; omega)]
   subst hmm; obtain ⟨SF, DF⟩ := hD2 hsl hsd; clear hkk hj hlt hk hm hsl hsd; go_wp2; go_ret3
   exact ⟨_, _, rfl, SF.out, DF.out, KR.out⟩
theorem facC_of (ads : List Addr) (W : World) (V : St ads W) (T : Tab W) : FacC ads W where
 right := fun w1 hk f hf => facRight_any ads f hf w1 (V.below hk) (T.kp hk)
theorem parC_of (ads : List Addr) (W : World) (V : St ads W) (T : Tab W) : ParC ads W where
 tell := fun w1 hk _ _ _ h ok g => pTell (V.below hk) (tabC_of ads w1 (ep_of_st (V.below hk) (by decide))) h ok g
 asked := fun _ _ _ g => pAsked g.k g.f g.t g.n g.s g.r g.p g.o g.c
 does := fun w1 hk _ _ _ h ok i k ik => pDo (V.below hk) (tabC_of ads w1 (ep_of_st (V.below hk) (by decide))) (tabS_of ads w1 (ep_of_st (V.below hk) (by decide))) h ok i k ik
 again := fun w1 hk _ _ _ h ok i g b hg => pAgain (tabC_of ads w1 (ep_of_st (V.below hk) (by decide))) h ok i g b hg
 join := fun w1 hk _ _ _ h ok c p now hc hn ip => pJoin (V.below hk) (T.kp hk) (tabC_of ads w1 (ep_of_st (V.below hk) (by decide))) h ok c.n c.s c.o c.d p c.x now hc hn ip
end Go.Proofs.YtncoofnhifcnhaaGreatDoor
