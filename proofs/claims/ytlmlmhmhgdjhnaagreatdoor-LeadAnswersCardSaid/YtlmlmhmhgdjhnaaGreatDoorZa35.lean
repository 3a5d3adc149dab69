/- Parts of this proof (own work). -/
import Derived.Test.YtlmlmhmhgdjhnaaGreatDoorZa34
set_option maxRecDepth 100000
set_option maxHeartbeats 40000000
namespace Go.Proofs.YtlmlmhmhgdjhnaaGreatDoor
open Go.RowKit Go.ChangeShapes Go.WideShapes
variable {w0 w w' W w3 : World} {B q : Nat} {m : StM} {ads : List Addr}
theorem toForm {fn : FuncId} {args : Array Value} {R : RsM} {lf lm : Nat} {wk : Int} (h : Calls Tryz.prog fn args w (fun r w' => ∃ v, r = .returned v ∧ RsV 87 w.heap.size R v w' ∧ Kp w w')) (h1 : R.facts.length = lf) (h2 : R.send.length = lm) (h3 : R.work = wk) : Calls Tryz.prog fn args w (fun r w' => ∃ fa fc la lc, r = .returned (.agg #[.slice fa lf fc, .slice la lm lc, wk]) ∧ w'.ownsRow w.heap.size 87 14 (.slice fa lf fc) lf (fcE.row R.facts) ∧ w'.ownsRow w.heap.size 63 9 (.slice la lm lc) lm (mmE.row R.send) ∧ Kp w w') :=
 h.mono (by
  rintro e w2 ⟨v, rfl, h, hk⟩; obtain ⟨fa, fc, ma, mc, rfl, h4, h5⟩ := RsV.form h h1 h2; rw [h3]; exact ⟨fa, fc, ma, mc, rfl, h4, h5, hk⟩)
theorem lTakes (V : St ads w) (T : Tab w) (h : SL B q m w) (now : Nat) (hnow : now < 18446744073709551616) (an aw ao ad : Int) (ax : Nat) (ap ac : Int) (regs : List RgM) (hax : ax < 18446744073709551616) (hap : 0 ≤ ap ∧ ap ≤ 8) (av : Option Addr) (al ak : Nat) (hl : regs.length = al) (b : Bool) (hb : takesE m ⟨⟨an, aw, ao, ad, ax⟩, ap, ac, regs⟩ now = b) : Calls Tryz.prog 70 #[.pointer (some ⟨q, 0, none⟩), .agg #[an, aw, ao, ad, ax, ap, ac, .slice av al ak], .float .f64 now] w fun r w' => r = .returned (.bool b) ∧ Kp w w' := by
 have hop := fun w1 (hk : Kp w w1) => scoOpen_any ads ⟨an, aw, ao, ad, ax⟩ now hax hnow w1 (V.below hk) (T.kp hk)
 have K1 := hD (kA w (.cells #[an, aw, ao, ad, ax, ap, ac, .slice av al ak] 92)); have R1 := hD (mH w (.cells #[an, aw, ao, ad, ax, ap, ac, .slice av al ak] 92)); obtain ⟨a0, a1, a2, a3, a4, a5, a6, a7⟩ := c8X R1.out; obtain ⟨N, hN⟩ : ∃ N : Int, (al : Int) = N := ⟨_, rfl⟩
 unfold takesE at hb; dsimp only at hb; rw [hl] at hb; obtain ⟨tb, htb⟩ : ∃ x, openX ⟨an, aw, ao, ad, ax⟩ now = x := ⟨_, rfl⟩
 rw [htb] at hop hb; dsimp only [CX.cells] at hop; have HOP := hD hop; clear hop htb V T
 cases tb
 ·have hb : false = b := by rw [← hb]; simp
  subst hb; clear h; go_enter Tryz.func70, Tryz.ntmps70; go_wp2_with (go_at_call 124; (with_reducible refine (HOP.out _ K1.out).mono ?_); rintro e' wA ⟨rfl, hk⟩; have KA := hD (kT K1.out hk); have RA := hD (rZ hk R1.out); obtain ⟨b0, b1, b2, b3, b4, b5, b6, b7⟩ := c8X RA.out; clear hk)
  go_ret; exact ⟨rfl, KA.out⟩
 by_cases hc : ac = 0
 rotate_left
 ·have hb : false = b := by rw [← hb]; simp [hc]
  subst hb; have g1 : (ac != 0) = true := by simp [hc]
  clear h hc; go_enter Tryz.func70, Tryz.ntmps70; go_wp2_with (go_at_call 124; (with_reducible refine (HOP.out _ K1.out).mono ?_); rintro e' wA ⟨rfl, hk⟩; have KA := hD (kT K1.out hk); have RA := hD (rZ hk R1.out); obtain ⟨b0, b1, b2, b3, b4, b5, b6, b7⟩ := c8X RA.out; clear hk)
  go_ret; exact ⟨rfl, KA.out⟩
 have g1 : (ac != 0) = false := by simp [hc]
 by_cases h6 : al < 6
 rotate_left
 ·have hb : false = b := by rw [← hb]; simp [h6]
  subst hb; have g2 : decide (N ≥ 6) = true := dT (by omega); clear h h6 hc; go_enter Tryz.func70, Tryz.ntmps70; go_wp2_with (go_at_call 124; (with_reducible refine (HOP.out _ K1.out).mono ?_); rintro e' wA ⟨rfl, hk⟩; have KA := hD (kT K1.out hk); have RA := hD (rZ hk R1.out); obtain ⟨b0, b1, b2, b3, b4, b5, b6, b7⟩ := c8X RA.out; clear hk)
  go_ret; exact ⟨rfl, KA.out⟩
 have g2 : decide (N ≥ 6) = false := dF (by omega)
 by_cases h0 : ap = 0
 ·have hb : true = b := by rw [← hb]; simp [h0, hc, h6]
  subst hb; have g3 : (ap == 0) = true := beq_iff_eq.2 h0; clear h h6 hc h0 hap; go_enter Tryz.func70, Tryz.ntmps70; go_wp2_with (go_at_call 124; (with_reducible refine (HOP.out _ K1.out).mono ?_); rintro e' wA ⟨rfl, hk⟩; have KA := hD (kT K1.out hk); have RA := hD (rZ hk R1.out); obtain ⟨b0, b1, b2, b3, b4, b5, b6, b7⟩ := c8X RA.out; clear hk)
  go_ret; exact ⟨rfl, KA.out⟩
 have g3 : (ap == 0) = false := by simpa using h0
 have hb : worksE m (ap - 1) = b := by rw [← hb]; simp [h0, hc, h6]
 obtain ⟨p1, hp1⟩ : ∃ x, ap - 1 = x := ⟨_, rfl⟩
 rw [hp1] at hb; have hw1 : IntKind.i64.wrap p1 = p1 := IntWalk.i64_in p1 (by omega); have hw2 : wrap64 p1 = p1 := IntWalk.wrap64_in p1 (by omega); unfold worksE at hb
 cases hx : prtP m p1 with
 | none =>
  rw [hx] at hb; have hb : false = b := hb; subst hb; have HPT := hD (fun w1 (hk : Kp w w1) => (h.kp hk).part p1 zeroP false (.inr ⟨hx, rfl, rfl⟩)); dsimp only [paV, zeroP] at HPT; clear h h6 hc h0 hap hx; go_enter Tryz.func70, Tryz.ntmps70; go_wp2_with (first | (go_at_call 124; (with_reducible refine (HOP.out _ K1.out).mono ?_); rintro e' wA ⟨rfl, hk⟩; have KA := hD (kT K1.out hk); have RA := hD (rZ hk R1.out); obtain ⟨b0, b1, b2, b3, b4, b5, b6, b7⟩ := c8X RA.out; clear hk) | (go_at_call 107; (with_reducible refine (HPT.out _ KA.out).mono ?_); rintro e' wP ⟨rfl, hk⟩; have kz := kT hk (kA wP (.cells #[(0:Int), (0:Int), (0:Int), (0:Int), (0:Int), (0:Int), (0:Int)] 119)); have KP := hD (kT KA.out kz); have RP := hD (mH wP (.cells #[(0:Int), (0:Int), (0:Int), (0:Int), (0:Int), (0:Int), (0:Int)] 119)); obtain ⟨e0, e1, e2, e3, e4, e5, e6⟩ := c7X RP.out; clear hk kz))
  go_ret; exact ⟨rfl, KP.out⟩
 | some x =>
  rw [hx] at hb; obtain ⟨xn, xs, xr, ⟨y1, y2, y3, y4⟩⟩ := x; dsimp only at hb; have HPT := hD (fun w1 (hk : Kp w w1) => (h.kp hk).part p1 ⟨xn, xs, xr, ⟨y1, y2, y3, y4⟩⟩ true (.inl ⟨hx, rfl⟩)); dsimp only [paV] at HPT; have HWO := hD (fun w => lWorks (w := w) xn xs xr y1 y2 y3 y4 b hb); clear h h6 hc h0 hap hx hb; go_enter Tryz.func70, Tryz.ntmps70; go_wp2_with (first | (go_at_call 124; (with_reducible refine (HOP.out _ K1.out).mono ?_); rintro e' wA ⟨rfl, hk⟩; have KA := hD (kT K1.out hk); have RA := hD (rZ hk R1.out); obtain ⟨b0, b1, b2, b3, b4, b5, b6, b7⟩ := c8X RA.out; clear hk) | (go_at_call 107; (with_reducible refine (HPT.out _ KA.out).mono ?_); rintro e' wP ⟨rfl, hk⟩; have kz := kT hk (kA wP (.cells #[xn, xs, xr, y1, y2, y3, y4] 119)); have KP := hD (kT KA.out kz); have RP := hD (mH wP (.cells #[xn, xs, xr, y1, y2, y3, y4] 119)); obtain ⟨e0, e1, e2, e3, e4, e5, e6⟩ := c7X RP.out; clear hk kz) | (go_at_call 52; (with_reducible refine (HWO.out _).mono ?_); rintro e' wW ⟨rfl, hk⟩; have KW := hD (kT KP.out hk); clear hk))
  go_ret; exact ⟨rfl, KW.out⟩
theorem SL.nextOf (h : SL B q m w) : Calls Tryz.prog 97 #[.pointer (some ⟨q, 0, none⟩)] w fun r w' => r = .returned (.int .i64 m.next) ∧ w = w' := by
 obtain ⟨gs, va, vp, H⟩ := h; have h1 := cU (i := 1) H.row rfl; clear H; go_enter Tryz.func97, Tryz.ntmps97; go_wp2; go_ret; exact ⟨rfl, rfl⟩
theorem look_gone (k : Int) (hk : upM k = true) : ∃ d t s : Int, lookT 1 1 k 14 = (0, d, t, s) ∧ (d = 3 → (k = 1 ∧ s = 13) ∨ (k = 4 ∧ s = 12) ∨ (k = 5 ∧ s = 14)) ∧ (d ≠ 3 → k ≠ 1 ∧ k ≠ 4 ∧ k ≠ 5) := by
 have h := up_in hk; simp only [List.mem_cons, List.not_mem_nil, or_false] at h
 rcases h with rfl | rfl | rfl | rfl | rfl | rfl | rfl <;> exact ⟨_, _, _, rfl, by decide, by decide⟩
theorem gone_eq17 {m : StM} {g : MM} (h : ¬ (g.n ≠ m.node ∨ g.s < 0 ∨ m.next ≤ g.s)) (h15 : g.k ≠ 15) {d s : Int} (h1 : d = 3 → (g.k = 1 ∧ s = 13) ∨ (g.k = 4 ∧ s = 12) ∨ (g.k = 5 ∧ s = 14)) (h2 : d ≠ 3 → g.k ≠ 1 ∧ g.k ≠ 4 ∧ g.k ≠ 5) : goneE m g = if d = 3 then ⟨[], [answerM g s 0], 0⟩ else rs0 := by
 unfold goneE; rw [if_neg h, if_neg h15]
 by_cases hd : d = 3
 ·rw [if_pos hd]
  rcases h1 hd with ⟨a, rfl⟩ | ⟨a, rfl⟩ | ⟨a, rfl⟩
  ·rw [if_pos a]
  ·rw [if_neg (by omega), if_pos a]
  ·rw [if_neg (by omega), if_neg (by omega), if_pos a]
 ·obtain ⟨a, b, c⟩ := h2 hd; rw [if_neg hd, if_neg a, if_neg b, if_neg c]
theorem lRecalls (TC : TabC ads w) (h : SL B q m w) (nd nx : Int) (hnd : m.node = nd) (hnx : m.next = nx) (mk mf mt mn ms mr mp mo mc : Int) (hk : mk = 15 ∨ upM mk = true) : Calls Tryz.prog 133 #[.pointer (some ⟨q, 0, none⟩), .agg #[mk, mf, mt, mn, ms, mr, mp, mo, mc]] w fun r w' => ∃ v, r = .returned v ∧ RsV 87 w.heap.size (goneE m (⟨mk, mf, mt, mn, ms, mr, mp, mo, mc⟩ : MM)) v w' ∧ Kp w w' := by
 have R0 := hD (nX0 w (.cells #[mk, mf, mt, mn, ms, mr, mp, mo, mc] 63) (.cells #[.slice none 0 0, .slice none 0 0, (0:Int)] 37)); have R1 := hD (nX1 w (.cells #[mk, mf, mt, mn, ms, mr, mp, mo, mc] 63) (.cells #[.slice none 0 0, .slice none 0 0, (0:Int)] 37)); have K2 := hD (pk2 w (.cells #[mk, mf, mt, mn, ms, mr, mp, mo, mc] 63) (.cells #[.slice none 0 0, .slice none 0 0, (0:Int)] 37)); have hno := fun w1 (hk : Kp w w1) => (h.kp hk).nodeOf
 have hne := fun w1 (hk : Kp w w1) => (h.kp hk).nextOf
 rw [hnd] at hno; rw [hnx] at hne; obtain ⟨HNO, HNX⟩ := hD2 hno hne; clear hno hne h
 by_cases hbad : mn ≠ nd ∨ ms < 0 ∨ nx ≤ ms
 ·have hG : goneE m (⟨mk, mf, mt, mn, ms, mr, mp, mo, mc⟩ : MM) = ⟨[], [answerM (⟨mk, mf, mt, mn, ms, mr, mp, mo, mc⟩ : MM) 19 5], 0⟩ := by unfold goneE; rw [if_pos (by rw [hnd, hnx]; exact hbad)]
  rw [hG]; have HRS := hD (fun w1 (hk : Kp w w1) => toForm (lAnswer (w := w1) (⟨mk, mf, mt, mn, ms, mr, mp, mo, mc⟩ : MM) 19 5) (lf := 0) (lm := 1) (wk := 0) rfl rfl rfl); dsimp only [MM.cells] at HRS
  by_cases h1 : mn = nd
  rotate_left
  ·have g1 : (mn != nd) = true := by simp [h1]
   clear h1 hbad hG TC hk hnd hnx; go_enter Tryz.func133, Tryz.ntmps133; go_wp2_with fail
   obtain ⟨WD, hWD⟩ : ∃ x, ((w.alloc (.cells #[mk, mf, mt, mn, ms, mr, mp, mo, mc] 63)).alloc (.cells #[.slice none 0 0, .slice none 0 0, (0:Int)] 37)).drew = x := ⟨_, rfl⟩
   have kD : Kp ((w.alloc (.cells #[mk, mf, mt, mn, ms, mr, mp, mo, mc] 63)).alloc (.cells #[.slice none 0 0, .slice none 0 0, (0:Int)] 37)) WD := by rw [← hWD]; exact dQ (Kp.refl _)
   have HWD := hD hWD; have R0D := hD (rZ kD R0.out); have R1D := hD (rZ kD R1.out); have KD := hD (kT K2.out kD); clear hWD kD; refine rgW (fun w' => w'.heap[w.heap.size]? = some (.cells #[mk, mf, mt, mn, ms, mr, mp, mo, mc] 63) ∧ Kp w w') ?_ fun hH => ?_
   ·exact by rw [HWD.out]; exact ⟨R0D.out, KD.out⟩
   rw [HWD.out] at hH ⊢; refine tkP 0 ?_
   go_simp; refine tkP 1 ?_
   go_simp; refine tkP 2 ?_ (y := by intro w hZ; obtain ⟨y0, y1, y2, y3, y4, y5, y6, y7, y8⟩ := cells9 hZ.1; go_simp; try rfl)
   go_simp; refine tkP 3 ?_
   go_simp; refine rdW 4 fun K hK => ?_
   go_simp; go_wp2_with (go_at_call 73; (with_reducible refine (HNO.out _ hH.2).mono ?_); rintro e' w' ⟨rfl, rfl⟩)
   refine hK.out _ _ (hH) fun hH => ?_
   clear hK K; refine tkP 5 ?_
   go_simp; refine tkP 6 ?_
   go_simp; refine skW 7 ?_
   go_simp; refine skW 8 ?_
   go_simp; refine skW 9 ?_
   go_simp; refine skW 10 ?_
   go_simp; refine tkP 11 ?_
   go_simp; refine tkP 12 ?_
   go_simp; refine skW 13 ?_
   go_simp; refine skW 14 ?_
   go_simp; refine skW 15 ?_
   go_simp; refine skW 16 ?_
   go_simp; refine skW 17 ?_
   go_simp; refine skW 18 ?_
   go_simp; refine tkP 19 ?_
   go_simp; refine tkP 20 ?_
   go_simp; refine dnW ?_ _
   clear hH; obtain ⟨a0, a1, a2, a3, a4, a5, a6, a7, a8⟩ := cells9 R0D.out; obtain ⟨c0, c1, c2⟩ := cellsR3 R1D.out; have fz := frozN R1D.out; go_wp2_with (go_at_call 128; (with_reducible refine (HRS.out _ KD.out).mono ?_); rintro e' w5 ⟨fa, fc, la, lc, rfl, of, om, hk⟩; have OF := hD (bG of (kS KD.out)); have OM := hD (bG om (kS KD.out)); have K5 := hD (kT KD.out hk); have R5 := hD (rZ hk R1D.out); obtain ⟨d0, d1, d2⟩ := cellsR3 R5.out; have f5 := frozN R5.out; clear hk of om)
   refine bodyPost_ret (results_cell_row (p := 4) rfl _ _ (w.heap.size + 1) 37 _ (0, 0) _ rfl (setR3 _ _ _ R5.out) Tryz.underlying37 rfl (by kernel_rfl)) rfl ?_
   exact ⟨_, rfl, RsV.setN R5.out (by decide) (by decide) rfl rfl OF.out OM.out, setR3_kp K5.out (by omega) _ _ _⟩
  have g1 : (mn != nd) = false := by simp [h1]
  by_cases h2 : ms < 0
  ·have g2 : decide (ms < 0) = true := dT h2; clear h1 h2 hbad hG TC hk hnd hnx; go_enter Tryz.func133, Tryz.ntmps133; go_wp2_with fail
   obtain ⟨WD, hWD⟩ : ∃ x, ((w.alloc (.cells #[mk, mf, mt, mn, ms, mr, mp, mo, mc] 63)).alloc (.cells #[.slice none 0 0, .slice none 0 0, (0:Int)] 37)).drew = x := ⟨_, rfl⟩
   have kD : Kp ((w.alloc (.cells #[mk, mf, mt, mn, ms, mr, mp, mo, mc] 63)).alloc (.cells #[.slice none 0 0, .slice none 0 0, (0:Int)] 37)) WD := by rw [← hWD]; exact dQ (Kp.refl _)
   have HWD := hD hWD; have R0D := hD (rZ kD R0.out); have R1D := hD (rZ kD R1.out); have KD := hD (kT K2.out kD); clear hWD kD; refine rgW (fun w' => w'.heap[w.heap.size]? = some (.cells #[mk, mf, mt, mn, ms, mr, mp, mo, mc] 63) ∧ Kp w w') ?_ fun hH => ?_
   ·exact by rw [HWD.out]; exact ⟨R0D.out, KD.out⟩
   rw [HWD.out] at hH ⊢; refine tkP 0 ?_
   go_simp; refine tkP 1 ?_
   go_simp; refine tkP 2 ?_ (y := by intro w hZ; obtain ⟨y0, y1, y2, y3, y4, y5, y6, y7, y8⟩ := cells9 hZ.1; go_simp; try rfl)
   go_simp; refine tkP 3 ?_
   go_simp; refine rdW 4 fun K hK => ?_
   go_simp; go_wp2_with (go_at_call 73; (with_reducible refine (HNO.out _ hH.2).mono ?_); rintro e' w' ⟨rfl, rfl⟩)
   refine hK.out _ _ (hH) fun hH => ?_
   clear hK K; refine tkP 5 ?_
   go_simp; refine tkP 6 ?_
   go_simp; refine tkP 7 ?_
   go_simp; refine tkP 8 ?_
   go_simp; refine tkP 9 ?_ (y := by intro w hZ; obtain ⟨y0, y1, y2, y3, y4, y5, y6, y7, y8⟩ := cells9 hZ.1; go_simp; try rfl)
   go_simp; refine tkP 10 ?_
   go_simp; refine tkP 11 ?_
   go_simp; refine tkP 12 ?_
   go_simp; refine skW 13 ?_
   go_simp; refine skW 14 ?_
   go_simp; refine skW 15 ?_
   go_simp; refine skW 16 ?_
   go_simp; refine skW 17 ?_
   go_simp; refine skW 18 ?_
   go_simp; refine tkP 19 ?_
   go_simp; refine tkP 20 ?_
   go_simp; refine dnW ?_ _
   clear hH; obtain ⟨a0, a1, a2, a3, a4, a5, a6, a7, a8⟩ := cells9 R0D.out; obtain ⟨c0, c1, c2⟩ := cellsR3 R1D.out; have fz := frozN R1D.out; go_wp2_with (go_at_call 128; (with_reducible refine (HRS.out _ KD.out).mono ?_); rintro e' w5 ⟨fa, fc, la, lc, rfl, of, om, hk⟩; have OF := hD (bG of (kS KD.out)); have OM := hD (bG om (kS KD.out)); have K5 := hD (kT KD.out hk); have R5 := hD (rZ hk R1D.out); obtain ⟨d0, d1, d2⟩ := cellsR3 R5.out; have f5 := frozN R5.out; clear hk of om)
   refine bodyPost_ret (results_cell_row (p := 4) rfl _ _ (w.heap.size + 1) 37 _ (0, 0) _ rfl (setR3 _ _ _ R5.out) Tryz.underlying37 rfl (by kernel_rfl)) rfl ?_
   exact ⟨_, rfl, RsV.setN R5.out (by decide) (by decide) rfl rfl OF.out OM.out, setR3_kp K5.out (by omega) _ _ _⟩
  have g2 : decide (ms < 0) = false := dF h2; have g3 : decide (ms ≥ nx) = true := dT (by omega); clear h1 h2 hbad hG TC hk hnd hnx; go_enter Tryz.func133, Tryz.ntmps133; go_wp2_with fail
  obtain ⟨WD, hWD⟩ : ∃ x, ((w.alloc (.cells #[mk, mf, mt, mn, ms, mr, mp, mo, mc] 63)).alloc (.cells #[.slice none 0 0, .slice none 0 0, (0:Int)] 37)).drew = x := ⟨_, rfl⟩
  have kD : Kp ((w.alloc (.cells #[mk, mf, mt, mn, ms, mr, mp, mo, mc] 63)).alloc (.cells #[.slice none 0 0, .slice none 0 0, (0:Int)] 37)) WD := by rw [← hWD]; exact dQ (Kp.refl _)
  have HWD := hD hWD; have R0D := hD (rZ kD R0.out); have R1D := hD (rZ kD R1.out); have KD := hD (kT K2.out kD); clear hWD kD; refine rgW (fun w' => w'.heap[w.heap.size]? = some (.cells #[mk, mf, mt, mn, ms, mr, mp, mo, mc] 63) ∧ Kp w w') ?_ fun hH => ?_
  ·exact by rw [HWD.out]; exact ⟨R0D.out, KD.out⟩
  rw [HWD.out] at hH ⊢; refine tkP 0 ?_
  go_simp; refine tkP 1 ?_
  go_simp; refine tkP 2 ?_ (y := by intro w hZ; obtain ⟨y0, y1, y2, y3, y4, y5, y6, y7, y8⟩ := cells9 hZ.1; go_simp; try rfl)
  go_simp; refine tkP 3 ?_
  go_simp; refine rdW 4 fun K hK => ?_
  go_simp; go_wp2_with (go_at_call 73; (with_reducible refine (HNO.out _ hH.2).mono ?_); rintro e' w' ⟨rfl, rfl⟩)
  refine hK.out _ _ (hH) fun hH => ?_
  clear hK K; refine tkP 5 ?_
  go_simp; refine tkP 6 ?_
  go_simp; refine tkP 7 ?_
  go_simp; refine tkP 8 ?_
  go_simp; refine tkP 9 ?_ (y := by intro w hZ; obtain ⟨y0, y1, y2, y3, y4, y5, y6, y7, y8⟩ := cells9 hZ.1; go_simp; try rfl)
  go_simp; refine tkP 10 ?_
  go_simp; refine tkP 11 ?_
  go_simp; refine tkP 12 ?_
  go_simp; refine tkP 13 ?_
  go_simp; refine tkP 14 ?_
  go_simp; refine tkP 15 ?_ (y := by intro w hZ; obtain ⟨y0, y1, y2, y3, y4, y5, y6, y7, y8⟩ := cells9 hZ.1; go_simp; try rfl)
  go_simp; refine tkP 16 ?_
  go_simp; refine rdW 17 fun K hK => ?_
  go_simp; go_wp2_with (go_at_call 97; (with_reducible refine (HNX.out _ hH.2).mono ?_); rintro e' w' ⟨rfl, rfl⟩)
  refine hK.out _ _ (hH) fun hH => ?_
  clear hK K; refine tkP 18 ?_
  go_simp; refine tkP 19 ?_
  go_simp; refine tkP 20 ?_
  go_simp; refine dnW ?_ _
  clear hH; obtain ⟨a0, a1, a2, a3, a4, a5, a6, a7, a8⟩ := cells9 R0D.out; obtain ⟨c0, c1, c2⟩ := cellsR3 R1D.out; have fz := frozN R1D.out; go_wp2_with (go_at_call 128; (with_reducible refine (HRS.out _ KD.out).mono ?_); rintro e' w5 ⟨fa, fc, la, lc, rfl, of, om, hk⟩; have OF := hD (bG of (kS KD.out)); have OM := hD (bG om (kS KD.out)); have K5 := hD (kT KD.out hk); have R5 := hD (rZ hk R1D.out); obtain ⟨d0, d1, d2⟩ := cellsR3 R5.out; have f5 := frozN R5.out; clear hk of om)
  refine bodyPost_ret (results_cell_row (p := 4) rfl _ _ (w.heap.size + 1) 37 _ (0, 0) _ rfl (setR3 _ _ _ R5.out) Tryz.underlying37 rfl (by kernel_rfl)) rfl ?_
  exact ⟨_, rfl, RsV.setN R5.out (by decide) (by decide) rfl rfl OF.out OM.out, setR3_kp K5.out (by omega) _ _ _⟩
 have g1 : (mn != nd) = false := by
  have : mn = nd := by omega
  simp [this]
 have g2 : decide (ms < 0) = false := dF (by omega); have g3 : decide (ms ≥ nx) = false := dF (by omega); have hbad' : ¬ (((⟨mk, mf, mt, mn, ms, mr, mp, mo, mc⟩ : MM)).n ≠ m.node ∨ ((⟨mk, mf, mt, mn, ms, mr, mp, mo, mc⟩ : MM)).s < 0 ∨ m.next ≤ ((⟨mk, mf, mt, mn, ms, mr, mp, mo, mc⟩ : MM)).s) := by rw [hnd, hnx]; exact hbad
 by_cases k15 : mk = 15
 ·have hG : goneE m (⟨mk, mf, mt, mn, ms, mr, mp, mo, mc⟩ : MM) = ⟨[], [answerM (⟨mk, mf, mt, mn, ms, mr, mp, mo, mc⟩ : MM) 16 14], 0⟩ := by unfold goneE; rw [if_neg hbad', if_pos k15]
  rw [hG]; have g4 : (mk == 15) = true := beq_iff_eq.2 k15; have HRS := hD (fun w1 (hk : Kp w w1) => toForm (lAnswer (w := w1) (⟨mk, mf, mt, mn, ms, mr, mp, mo, mc⟩ : MM) 16 14) (lf := 0) (lm := 1) (wk := 0) rfl rfl rfl); dsimp only [MM.cells] at HRS; clear hbad hbad' hG TC hk hnd hnx k15; go_enter Tryz.func133, Tryz.ntmps133; go_wp2_with fail
  obtain ⟨WD, hWD⟩ : ∃ x, ((w.alloc (.cells #[mk, mf, mt, mn, ms, mr, mp, mo, mc] 63)).alloc (.cells #[.slice none 0 0, .slice none 0 0, (0:Int)] 37)).drew = x := ⟨_, rfl⟩
  have kD : Kp ((w.alloc (.cells #[mk, mf, mt, mn, ms, mr, mp, mo, mc] 63)).alloc (.cells #[.slice none 0 0, .slice none 0 0, (0:Int)] 37)) WD := by rw [← hWD]; exact dQ (Kp.refl _)
  have HWD := hD hWD; have R0D := hD (rZ kD R0.out); have R1D := hD (rZ kD R1.out); have KD := hD (kT K2.out kD); clear hWD kD; refine rgW (fun w' => w'.heap[w.heap.size]? = some (.cells #[mk, mf, mt, mn, ms, mr, mp, mo, mc] 63) ∧ Kp w w') ?_ fun hH => ?_
  ·exact by rw [HWD.out]; exact ⟨R0D.out, KD.out⟩
  rw [HWD.out] at hH ⊢; refine tkP 0 ?_
  go_simp; refine tkP 1 ?_
  go_simp; refine tkP 2 ?_ (y := by intro w hZ; obtain ⟨y0, y1, y2, y3, y4, y5, y6, y7, y8⟩ := cells9 hZ.1; go_simp; try rfl)
  go_simp; refine tkP 3 ?_
  go_simp; refine rdW 4 fun K hK => ?_
  go_simp; go_wp2_with (go_at_call 73; (with_reducible refine (HNO.out _ hH.2).mono ?_); rintro e' w' ⟨rfl, rfl⟩)
  refine hK.out _ _ (hH) fun hH => ?_
  clear hK K; refine tkP 5 ?_
  go_simp; refine tkP 6 ?_
  go_simp; refine tkP 7 ?_
  go_simp; refine tkP 8 ?_
  go_simp; refine tkP 9 ?_ (y := by intro w hZ; obtain ⟨y0, y1, y2, y3, y4, y5, y6, y7, y8⟩ := cells9 hZ.1; go_simp; try rfl)
  go_simp; refine tkP 10 ?_
  go_simp; refine tkP 11 ?_
  go_simp; refine tkP 12 ?_
  go_simp; refine tkP 13 ?_
  go_simp; refine tkP 14 ?_
  go_simp; refine tkP 15 ?_ (y := by intro w hZ; obtain ⟨y0, y1, y2, y3, y4, y5, y6, y7, y8⟩ := cells9 hZ.1; go_simp; try rfl)
  go_simp; refine tkP 16 ?_
  go_simp; refine rdW 17 fun K hK => ?_
  go_simp; go_wp2_with (go_at_call 97; (with_reducible refine (HNX.out _ hH.2).mono ?_); rintro e' w' ⟨rfl, rfl⟩)
  refine hK.out _ _ (hH) fun hH => ?_
  clear hK K; refine tkP 18 ?_
  go_simp; refine tkP 19 ?_
  go_simp; refine tkP 20 ?_
  go_simp; refine dnW ?_ _
  clear hH; obtain ⟨a0, a1, a2, a3, a4, a5, a6, a7, a8⟩ := cells9 R0D.out; obtain ⟨c0, c1, c2⟩ := cellsR3 R1D.out; have fz := frozN R1D.out; go_wp2_with (go_at_call 128; (with_reducible refine (HRS.out _ KD.out).mono ?_); rintro e' w5 ⟨fa, fc, la, lc, rfl, of, om, hk⟩; have OF := hD (bG of (kS KD.out)); have OM := hD (bG om (kS KD.out)); have K5 := hD (kT KD.out hk); have R5 := hD (rZ hk R1D.out); obtain ⟨d0, d1, d2⟩ := cellsR3 R5.out; have f5 := frozN R5.out; clear hk of om)
  refine bodyPost_ret (results_cell_row (p := 4) rfl _ _ (w.heap.size + 1) 37 _ (0, 0) _ rfl (setR3 _ _ _ R5.out) Tryz.underlying37 rfl (by kernel_rfl)) rfl ?_
  exact ⟨_, rfl, RsV.setN R5.out (by decide) (by decide) rfl rfl OF.out OM.out, setR3_kp K5.out (by omega) _ _ _⟩
 have hup : upM mk = true := hk.resolve_left k15; have g4 : (mk == 15) = false := by simpa using k15
 obtain ⟨d, t, s, hlk, hd3, hdn⟩ := look_gone mk hup; have hG := gone_eq17 (g := (⟨mk, mf, mt, mn, ms, mr, mp, mo, mc⟩ : MM)) hbad' k15 hd3 hdn; rw [hG]; have ik : i64T mk := by
  have := up_in hup; simp only [List.mem_cons, List.not_mem_nil, or_false] at this
  unfold i64T; omega
 have hlc := fun w1 (hk : Kp w w1) => TC.look w1 hk 1 1 mk 14 (by unfold i64T; omega) (by unfold i64T; omega) ik (by unfold i64T; omega)
 rw [hlk] at hlc; dsimp only [cellV] at hlc; rw [eN] at hlc; have HLK := hD hlc; clear hbad hbad' hG TC hk hnd hnx k15 hup hlk hlc ik hd3 hdn
 by_cases h3 : d = 3
 ·rw [if_pos h3]; have g5 : (d != 3) = false := by simp [h3]
  clear h3; have HRS := hD (fun w1 (hk : Kp w w1) => toForm (lAnswer (w := w1) (⟨mk, mf, mt, mn, ms, mr, mp, mo, mc⟩ : MM) s 0) (lf := 0) (lm := 1) (wk := 0) rfl rfl rfl); dsimp only [MM.cells] at HRS; go_enter Tryz.func133, Tryz.ntmps133; go_wp2_with fail
  obtain ⟨WD, hWD⟩ : ∃ x, ((w.alloc (.cells #[mk, mf, mt, mn, ms, mr, mp, mo, mc] 63)).alloc (.cells #[.slice none 0 0, .slice none 0 0, (0:Int)] 37)).drew = x := ⟨_, rfl⟩
  have kD : Kp ((w.alloc (.cells #[mk, mf, mt, mn, ms, mr, mp, mo, mc] 63)).alloc (.cells #[.slice none 0 0, .slice none 0 0, (0:Int)] 37)) WD := by rw [← hWD]; exact dQ (Kp.refl _)
  have HWD := hD hWD; have R0D := hD (rZ kD R0.out); have R1D := hD (rZ kD R1.out); have KD := hD (kT K2.out kD); clear hWD kD; refine rgW (fun w' => w'.heap[w.heap.size]? = some (.cells #[mk, mf, mt, mn, ms, mr, mp, mo, mc] 63) ∧ Kp w w') ?_ fun hH => ?_
  ·exact by rw [HWD.out]; exact ⟨R0D.out, KD.out⟩
  rw [HWD.out] at hH ⊢; refine tkP 0 ?_
  go_simp; refine tkP 1 ?_
  go_simp; refine tkP 2 ?_ (y := by intro w hZ; obtain ⟨y0, y1, y2, y3, y4, y5, y6, y7, y8⟩ := cells9 hZ.1; go_simp; try rfl)
  go_simp; refine tkP 3 ?_
  go_simp; refine rdW 4 fun K hK => ?_
  go_simp; go_wp2_with (go_at_call 73; (with_reducible refine (HNO.out _ hH.2).mono ?_); rintro e' w' ⟨rfl, rfl⟩)
  refine hK.out _ _ (hH) fun hH => ?_
  clear hK K; refine tkP 5 ?_
  go_simp; refine tkP 6 ?_
  go_simp; refine tkP 7 ?_
  go_simp; refine tkP 8 ?_
  go_simp; refine tkP 9 ?_ (y := by intro w hZ; obtain ⟨y0, y1, y2, y3, y4, y5, y6, y7, y8⟩ := cells9 hZ.1; go_simp; try rfl)
  go_simp; refine tkP 10 ?_
  go_simp; refine tkP 11 ?_
  go_simp; refine tkP 12 ?_
  go_simp; refine tkP 13 ?_
  go_simp; refine tkP 14 ?_
  go_simp; refine tkP 15 ?_ (y := by intro w hZ; obtain ⟨y0, y1, y2, y3, y4, y5, y6, y7, y8⟩ := cells9 hZ.1; go_simp; try rfl)
  go_simp; refine tkP 16 ?_
  go_simp; refine rdW 17 fun K hK => ?_
  go_simp; go_wp2_with (go_at_call 97; (with_reducible refine (HNX.out _ hH.2).mono ?_); rintro e' w' ⟨rfl, rfl⟩)
  refine hK.out _ _ (hH) fun hH => ?_
  clear hK K; refine tkP 18 ?_
  go_simp; refine tkP 19 ?_
  go_simp; refine tkP 20 ?_
  go_simp; refine dnW ?_ _
  clear hH; obtain ⟨a0, a1, a2, a3, a4, a5, a6, a7, a8⟩ := cells9 R0D.out; obtain ⟨c0, c1, c2⟩ := cellsR3 R1D.out; have fz := frozN R1D.out; go_wp2_with (first | (go_at_call 172; (with_reducible refine (HLK.out _ KD.out).mono ?_); rintro e' w3 ⟨rfl, hk⟩; have kz := kT hk (kA w3 (.cells #[d, t, s] 238)); have K3 := hD (kT KD.out kz); have R30 := hD (rZ kz R0D.out); have R31 := hD (rZ kz R1D.out); obtain ⟨k0, k1, k2⟩ := cellsR3 (mH w3 (.cells #[d, t, s] 238)); obtain ⟨i0, i1, i2, i3, i4, i5, i6, i7, i8⟩ := cells9 R30.out; obtain ⟨j0, j1, j2⟩ := cellsR3 R31.out; have f3 := frozN R31.out; clear hk kz) | (go_at_call 128; (with_reducible refine (HRS.out _ K3.out).mono ?_); rintro e' w5 ⟨fa, fc, la, lc, rfl, of, om, hk⟩; have OF := hD (bG of (kS K3.out)); have OM := hD (bG om (kS K3.out)); have K5 := hD (kT K3.out hk); have R5 := hD (rZ hk R31.out); obtain ⟨d0, d1, d2⟩ := cellsR3 R5.out; have f5 := frozN R5.out; clear hk of om))
  refine bodyPost_ret (results_cell_row (p := 4) rfl _ _ (w.heap.size + 1) 37 _ (0, 0) _ rfl (setR3 _ _ _ R5.out) Tryz.underlying37 rfl (by kernel_rfl)) rfl ?_
  exact ⟨_, rfl, RsV.setN R5.out (by decide) (by decide) rfl rfl OF.out OM.out, setR3_kp K5.out (by omega) _ _ _⟩
 ·rw [if_neg h3]; have g5 : (d != 3) = true := by simp [h3]
  clear h3; go_enter Tryz.func133, Tryz.ntmps133; go_wp2_with fail
  obtain ⟨WD, hWD⟩ : ∃ x, ((w.alloc (.cells #[mk, mf, mt, mn, ms, mr, mp, mo, mc] 63)).alloc (.cells #[.slice none 0 0, .slice none 0 0, (0:Int)] 37)).drew = x := ⟨_, rfl⟩
  have kD : Kp ((w.alloc (.cells #[mk, mf, mt, mn, ms, mr, mp, mo, mc] 63)).alloc (.cells #[.slice none 0 0, .slice none 0 0, (0:Int)] 37)) WD := by rw [← hWD]; exact dQ (Kp.refl _)
  have HWD := hD hWD; have R0D := hD (rZ kD R0.out); have R1D := hD (rZ kD R1.out); have KD := hD (kT K2.out kD); clear hWD kD; refine rgW (fun w' => w'.heap[w.heap.size]? = some (.cells #[mk, mf, mt, mn, ms, mr, mp, mo, mc] 63) ∧ Kp w w') ?_ fun hH => ?_
  ·exact by rw [HWD.out]; exact ⟨R0D.out, KD.out⟩
  rw [HWD.out] at hH ⊢; refine tkP 0 ?_
  go_simp; refine tkP 1 ?_
  go_simp; refine tkP 2 ?_ (y := by intro w hZ; obtain ⟨y0, y1, y2, y3, y4, y5, y6, y7, y8⟩ := cells9 hZ.1; go_simp; try rfl)
  go_simp; refine tkP 3 ?_
  go_simp; refine rdW 4 fun K hK => ?_
  go_simp; go_wp2_with (go_at_call 73; (with_reducible refine (HNO.out _ hH.2).mono ?_); rintro e' w' ⟨rfl, rfl⟩)
  refine hK.out _ _ (hH) fun hH => ?_
  clear hK K; refine tkP 5 ?_
  go_simp; refine tkP 6 ?_
  go_simp; refine tkP 7 ?_
  go_simp; refine tkP 8 ?_
  go_simp; refine tkP 9 ?_ (y := by intro w hZ; obtain ⟨y0, y1, y2, y3, y4, y5, y6, y7, y8⟩ := cells9 hZ.1; go_simp; try rfl)
  go_simp; refine tkP 10 ?_
  go_simp; refine tkP 11 ?_
  go_simp; refine tkP 12 ?_
  go_simp; refine tkP 13 ?_
  go_simp; refine tkP 14 ?_
  go_simp; refine tkP 15 ?_ (y := by intro w hZ; obtain ⟨y0, y1, y2, y3, y4, y5, y6, y7, y8⟩ := cells9 hZ.1; go_simp; try rfl)
  go_simp; refine tkP 16 ?_
  go_simp; refine rdW 17 fun K hK => ?_
  go_simp; go_wp2_with (go_at_call 97; (with_reducible refine (HNX.out _ hH.2).mono ?_); rintro e' w' ⟨rfl, rfl⟩)
  refine hK.out _ _ (hH) fun hH => ?_
  clear hK K; refine tkP 18 ?_
  go_simp; refine tkP 19 ?_
  go_simp; refine tkP 20 ?_
  go_simp; refine dnW ?_ _
  clear hH; obtain ⟨a0, a1, a2, a3, a4, a5, a6, a7, a8⟩ := cells9 R0D.out; obtain ⟨c0, c1, c2⟩ := cellsR3 R1D.out; have fz := frozN R1D.out; go_wp2_with (go_at_call 172; (with_reducible refine (HLK.out _ KD.out).mono ?_); rintro e' w3 ⟨rfl, hk⟩; have kz := kT hk (kA w3 (.cells #[d, t, s] 238)); have K3 := hD (kT KD.out kz); have R30 := hD (rZ kz R0D.out); have R31 := hD (rZ kz R1D.out); obtain ⟨k0, k1, k2⟩ := cellsR3 (mH w3 (.cells #[d, t, s] 238)); obtain ⟨i0, i1, i2, i3, i4, i5, i6, i7, i8⟩ := cells9 R30.out; obtain ⟨j0, j1, j2⟩ := cellsR3 R31.out; have f3 := frozN R31.out; clear hk kz)
  refine bodyPost_ret (results_cell_row (p := 4) rfl _ _ (w.heap.size + 1) 37 _ (0, 0) _ rfl (setR3 (.slice none 0 0) (.slice none 0 0) (.int .i64 0) R31.out) Tryz.underlying37 rfl (by kernel_rfl)) rfl ?_
  exact ⟨_, rfl, RsV.zero _ _ _, setR3_kp K3.out (by omega) _ _ _⟩
theorem okz_ok {z : SeatM} {e : Int} (h : OkZ z e) (he : e = 1 ∨ e = 2) : z.ok := by
 obtain ⟨h1, h2, h3⟩ := right_in h.1; obtain ⟨p, e', s, hh⟩ := z; have hp := h.p; have h4 := h.2; dsimp only at hp h4 h2 h3; unfold SeatM.ok i64M; dsimp only; unfold allT at h2; unfold howsM at h3; simp only [List.mem_cons, List.not_mem_nil, or_false] at h2 h3
 omega
open Go.RowKit
theorem down_kind {k : Int} (h : downM k = true) : k = 2 ∨ (9 ≤ k ∧ k ≤ 14) := by
 unfold downM at h; exact of_decide_eq_true h
theorem right_down {k f t n s r p : Int} (hk : downM k = true) (hf : 0 ≤ f ∧ f ≤ 3) (ht : 0 ≤ t ∧ t ≤ 3) (ha : rightA n s = true) (hr : 0 ≤ r ∧ r ≤ 5) (hp : 0 ≤ p ∧ p ≤ 7) : rightM ⟨k, f, t, n, s, r, p, 0, 0⟩ = true := by
 have := down_kind hk; unfold rightM; dsimp only; rw [if_neg (by omega), if_neg (by omega), if_neg (by omega), if_neg (by omega), ha]
 simp
 omega
theorem right_back {g : MM} {k : Int} (h : rightM g = true) (hk : downM k = true) : rightM (answerM g k 0) = true := by
 obtain ⟨a1, a2, a3, a4, a5, a6, a7, a8, a9⟩ := right_partsP h; exact right_down hk ⟨a3, a4⟩ ⟨a1, a2⟩ a5 ⟨a6, a7⟩ ⟨a8, a9⟩
theorem right_registered {g : MM} {r : Int} (h : rightM g = true) (hk : g.k = 17) (hr : 0 ≤ r ∧ r ≤ 5) : rightM (registeredE g r) = true := by
 obtain ⟨a1, a2, a3, a4, a5, a6, a7, a8, a9⟩ := right_partsP h; have ho : g.o = 1 ∨ g.o = 2 := by
  unfold rightM at h; simp only [Bool.and_eq_true] at h
  have h2 := h.2; rw [if_pos hk] at h2; have := of_decide_eq_true h2; exact this.2.2
 unfold registeredE rightM; dsimp only; rw [if_neg (by omega), if_pos rfl, a5]
 simp
 omega
theorem okz_stateC {z : SeatM} (h : OkZ z 1) : 1 ≤ z.s ∧ z.s ≤ 14 := by
 have h1 := h.1; unfold SeatM.right at h1; simp only [Bool.and_eq_true] at h1
 have h2 := h1.1.2; unfold hasT at h2
 split at h2
 ·omega
 ·split at h2
  ·omega
  ·exact of_decide_eq_true h2
theorem fromE_lt {l : List RgM} {f p : Int} {i : Nat} (h : fromE l f p = some i) : i < l.length := by
 unfold fromE at h; rw [List.findIdx?_eq_some_iff_getElem] at h; exact h.1
theorem lead_send {m : StM} (ok : OkS m) (g : MM) (now : Nat) (hg : rightM g = true) (ht : g.t = m.node) : ∀ y ∈ (leadE m g now).send, BackP m.node g y := by
 have hA : ∀ c, 1 ≤ c ∧ c ≤ 5 → BackP m.node g (answerM g 19 c) := fun c hc => ⟨right_fault hg hc, ht, rfl, rfl, rfl, rfl⟩
 have hS : ∀ c, 1 ≤ c ∧ c ≤ 14 → BackP m.node g (answerM g 16 c) := fun c hc => ⟨right_status hg hc, ht, rfl, rfl, rfl, rfl⟩
 have hD : ∀ k, downM k = true → BackP m.node g (answerM g k 0) := fun k hk => ⟨right_back hg hk, ht, rfl, rfl, rfl, rfl⟩
 have one : ∀ (z : MM), BackP m.node g z → ∀ y ∈ [z], BackP m.node g y := fun z hz y hy => by
  obtain rfl := List.mem_singleton.1 hy; exact hz
 have no : ∀ y ∈ ([] : List MM), BackP m.node g y := fun y hy => by cases hy
 obtain ⟨a1, a2, a3, a4, a5, a6, a7, a8, a9⟩ := right_partsP hg; unfold leadE
 split
 ·exact no
 split
 ·rename_i k17
  unfold registerE
  split
  ·exact one _ (hA 5 (by omega))
  ·rename_i a ha
   have hl := (actE_ok ok ha).1.l
   split
   ·rename_i i hi
    have := fromE_lt hi
    split
    ·exact one _ (hA 2 (by omega))
    ·exact one _ ⟨right_registered hg k17 (by omega), ht, rfl, rfl, rfl, rfl⟩
   ·split
    ·exact one _ (hA 4 (by omega))
    ·rename_i hk
     have := (takes_parts (by simpa using hk)).2; exact one _ ⟨right_registered hg k17 (by omega), ht, rfl, rfl, rfl, rfl⟩
 split
 ·exact no
 rename_i hu
 split
 ·unfold goneE
  split
  ·exact one _ (hA 5 (by omega))
  split
  ·exact one _ (hS 14 (by omega))
  split
  ·exact one _ (hD 13 (by decide))
  split
  ·exact one _ (hD 12 (by decide))
  split
  ·exact one _ (hD 14 (by decide))
  ·exact no
 ·rename_i a ha
  split
  ·exact one _ (hA 3 (by omega))
  ·rename_i x hx
   have hG := (regE_ok (actE_ok ok ha).1 hx).2.2; have hz := okg_z hG
   split
   ·exact one _ (hA 3 (by omega))
   ·rename_i hw
    split
    ·exact one _ (hS _ (okz_stateC hz))
    ·rename_i k15
     split
     ·exact no
     ·have hk : upM g.k = true := by
       cases hq : upM g.k with
       | true => rfl
       | false => exact absurd ⟨k15, hq⟩ hu
      obtain ⟨_, _, _, _, _, _, _, t8, t9, t10⟩ := toldC hz hk; obtain ⟨_, _, _, f3, f4⟩ := actE_some ha; have hn : x.node = g.f ∧ x.part = g.p := by omega
      have hM : ∀ k, downM k = true → BackP m.node g (msgE m.node a x g.r k) := fun k hk => by
       unfold msgE; refine ⟨right_down hk ok.n ⟨hG.1, hG.2.1⟩ (by rw [f3, f4]; exact a5) ⟨a6, a7⟩ ⟨hG.2.2.1, hG.2.2.2.1⟩, rfl, hn.1, f3, f4, hn.2⟩
      unfold seatE; dsimp only; intro y hy
      rcases List.mem_append.1 hy with hy | hy
      ·split at hy
       ·exact one _ (hM 11 (by decide)) y hy
       ·split at hy
        ·rename_i hn2
         exact one _ (hM _ (t8 hn2)) y hy
        ·cases hy
      ·split at hy
       ·rename_i hn2
        exact one _ (hA _ (by omega)) y hy
       ·cases hy
theorem lead_takes {m : StM} (g : MM) (now : Nat) : ∀ f ∈ (leadE m g now).facts, f.k = 2 → ∃ a, actE m g.n g.s = some a ∧ takesE m a now = true := by
 have no : ∀ f ∈ ([] : List FX), f.k = 2 → ∃ a, actE m g.n g.s = some a ∧ takesE m a now = true := fun f hf => by cases hf
 unfold leadE
 split
 ·exact no
 split
 ·unfold registerE
  split
  ·exact no
  ·rename_i a ha
   split
   ·split <;> exact no
   ·split
    ·exact no
    ·rename_i hk
     intro f hf _; exact ⟨a, ha, by simpa using hk⟩
 split
 ·exact no
 split
 ·unfold goneE
  repeat' split
  all_goals exact no
 ·split
  ·exact no
  ·split
   ·exact no
   ·split
    ·exact no
    ·split
     ·exact no
     ·unfold seatE; dsimp only; intro f hf
      split at hf
      ·obtain rfl := List.mem_singleton.1 hf; intro h
       cases h
      ·cases hf
theorem leadAgain_right {m : StM} (ok : OkS m) {n s r : Int} {y : MM} (h : againE m n s r = some y) : ∃ a g, actE m n s = some a ∧ regE a r = some g ∧ rightM y = true ∧ y.t = g.node ∧ y.p = g.part ∧ y.r = r ∧ y.k = waitT 1 g.z.s := by
 unfold againE at h
 split at h
 ·cases h
 ·rename_i a ha
  split at h
  ·cases h
  ·rename_i g hg
   split at h
   ·cases h
   ·rename_i hw
    obtain rfl := Option.some.inj h; obtain ⟨h0, h5, hG⟩ := regE_ok (actE_ok ok ha).1 hg; have hz := okg_z hG; have hd : downM (waitT 1 g.z.s) = true := by
     have h1 := List.all_eq_true.1 wait_allC g.z (seats_inC hz.1 hz.2); unfold waitOkC at h1; rw [hz.1] at h1; simp only [Bool.or_eq_true, beq_iff_eq, Bool.true_eq_false, false_or] at h1
     rcases h1 with h1 | h1
     ·exact absurd h1 hw
     ·exact h1
    obtain ⟨_, _, _, f3, f4⟩ := actE_some ha; refine ⟨a, g, ha, hg, ?_, rfl, rfl, rfl, rfl⟩
    unfold msgE; exact right_down hd ok.n ⟨hG.1, hG.2.1⟩ (rightX_act (actE_ok ok ha).1.c) ⟨h0, h5⟩ ⟨hG.2.2.1, hG.2.2.2.1⟩
end Go.Proofs.YtlmlmhmhgdjhnaaGreatDoor
