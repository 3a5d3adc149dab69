/- Parts of this proof (own work). -/
import Derived.Test.YtlmlmhmhgdjhnaaGreatDoorZa32
set_option maxRecDepth 100000
set_option maxHeartbeats 40000000
namespace Go.Proofs.YtlmlmhmhgdjhnaaGreatDoor
open Go.RowKit Go.ChangeShapes Go.WideShapes
variable {w0 w w' W w3 : World} {ads : List Addr}
theorem lAnswer (g : MM) (k c : Int) : Calls Tryz.prog 128 #[.agg g.cells, .int .i64 k, .int .i64 c] w fun r w' => ∃ v, r = .returned v ∧ RsV 87 w.heap.size ⟨[], [answerM g k c], 0⟩ v w' ∧ Kp w w' := by
 have HA := hD (fun w => answer_any g k c w); obtain ⟨gk, gf, gt, gn, gs, gr, gp, go, gc⟩ := g; dsimp only [MM.cells, answerM] at HA ⊢; have r0 := hD (nX0 w (.cells #[gk, gf, gt, gn, gs, gr, gp, go, gc] 63) (.cells #[.slice none 0 0, .slice none 0 0, (0:Int)] 37)); have r1 := hD (nX1 w (.cells #[gk, gf, gt, gn, gs, gr, gp, go, gc] 63) (.cells #[.slice none 0 0, .slice none 0 0, (0:Int)] 37)); have K2 := hD (pk2 w (.cells #[gk, gf, gt, gn, gs, gr, gp, go, gc] 63) (.cells #[.slice none 0 0, .slice none 0 0, (0:Int)] 37)); obtain ⟨a0, a1, a2, a3, a4, a5, a6, a7, a8⟩ := cells9 r0.out; go_enter Tryz.func128, Tryz.ntmps128; go_wp2_with (go_at_call 171; (with_reducible refine (HA.out _).mono ?_); rintro e' w3 ⟨rfl, hk3⟩; have kz := kT hk3 (kA w3 (.cells #[k, gt, gf, gn, gs, gr, gp, (0:Int), c] 63)); have K3 := hD (kT K2.out kz); have R1 := hD (rZ kz r1.out); have OM := hD (own_oneM (w := w3) (B := w.heap.size) (⟨k, gt, gf, gn, gs, gr, gp, 0, c⟩ : MM) (kS (kT K2.out hk3))); obtain ⟨d0, d1, d2⟩ := cellsR3 R1.out; have f1 := frozN R1.out; clear hk3 kz)
 refine bodyPost_ret (results_cell_row (p := 6) rfl _ _ (w.heap.size + 1) 37 _ (0, 0) _ rfl (setR3 (.slice none 0 0) (.slice (some ⟨w3.heap.size, 0, none⟩) 1 1) (.int .i64 0) R1.out) Tryz.underlying37 rfl (by kernel_rfl)) rfl ?_
 exact ⟨_, rfl, RsV.set R1.out (by decide) (by decide) own_no OM.out, setR3_kp K3.out (by simp) _ _ _⟩
theorem lAns (mk mf mt mn ms mr mp mo mc k c : Int) : Calls Tryz.prog 128 #[.agg #[mk, mf, mt, mn, ms, mr, mp, mo, mc], .int .i64 k, .int .i64 c] w fun r w' => ∃ fa fc la lc, r = .returned (.agg #[.slice fa 0 fc, .slice la 1 lc, (0:Int)]) ∧ w'.ownsRow w.heap.size 87 14 (.slice fa 0 fc) 0 (fcE.row []) ∧ w'.ownsRow w.heap.size 63 9 (.slice la 1 lc) 1 (mmE.row [answerM (⟨mk, mf, mt, mn, ms, mr, mp, mo, mc⟩ : MM) k c]) ∧ Kp w w' :=
 (lAnswer (⟨mk, mf, mt, mn, ms, mr, mp, mo, mc⟩ : MM) k c).mono (by
  rintro e w2 ⟨v, rfl, h, hk⟩; obtain ⟨fa, fc, ma, mc, rfl, h1, h2⟩ := RsV.form (lf := 0) (lm := 1) h rfl rfl; exact ⟨fa, fc, ma, mc, rfl, h1, h2, hk⟩)
theorem sz2L (w : World) (o o2 : Obj) : ((w.alloc o).alloc o2).heap.size = w.heap.size + 1 + 1 := by simp
theorem own_frozG {α : Type} {E : EncG α} {w : World} {B g n : Nat} {e : TypeId} {v : Value} {f : List α} (h : w.ownsRow B e E.k v n (E.row f)) (hg : v.ownBlock = some g) (i : Nat) : w.frozen? ⟨g, i, none⟩ = false := by
 obtain ⟨c, hc⟩ := own_kindQ h g hg; exact fQ hc i
theorem lConfirms (mk mf mt mn ms mr mp mo mc : Int) (ri : Int) : Calls Tryz.prog 132 #[.agg #[mk, mf, mt, mn, ms, mr, mp, mo, mc], .int .i64 ri] w fun r w' => ∃ v, r = .returned v ∧ RsV 87 w.heap.size ⟨[], [registeredE (⟨mk, mf, mt, mn, ms, mr, mp, mo, mc⟩ : MM) ri], 0⟩ v w' ∧ Kp w w' := by
 have HA := hD (fun w => lAns (w := w) mk mf mt mn ms mr mp mo mc 18 0); have r0 := hD (nX0 w (.cells #[mk, mf, mt, mn, ms, mr, mp, mo, mc] 63) (.cells #[.slice none 0 0, .slice none 0 0, (0:Int)] 37)); have r1 := hD (nX1 w (.cells #[mk, mf, mt, mn, ms, mr, mp, mo, mc] 63) (.cells #[.slice none 0 0, .slice none 0 0, (0:Int)] 37)); have K2 := hD (pk2 w (.cells #[mk, mf, mt, mn, ms, mr, mp, mo, mc] 63) (.cells #[.slice none 0 0, .slice none 0 0, (0:Int)] 37)); obtain ⟨a0, a1, a2, a3, a4, a5, a6, a7, a8⟩ := cells9 r0.out; go_enter Tryz.func132, Tryz.ntmps132; go_wp2_with (go_at_call 128; (with_reducible refine (HA.out _).mono ?_); rintro e' w3 ⟨fa, fc, ma, mk0, rfl, of, om, hk⟩; obtain ⟨gm, ck, ev, hck, hgB, hgl, _, hc⟩ := cQ (E := mmE) (n := 1) om rfl (by omega : 0 < 1); have ev := congrArg (fun v => match v with | Value.slice a _ _ => a | _ => none) ev; dsimp only at ev; subst ev; have kz := kT hk (kA w3 (.cells #[.slice fa 0 fc, .slice (some ⟨gm, 0, none⟩) 1 mk0, (0:Int)] 37)); have K3 := hD (kT K2.out kz); have RM3 := hD (rZ kz r0.out); have RZ3 := hD (rZ kz r1.out); have RB3 := hD (mH w3 (.cells #[.slice fa 0 fc, .slice (some ⟨gm, 0, none⟩) 1 mk0, (0:Int)] 37)); have OM3 := hD (oK om (kA w3 (.cells #[.slice fa 0 fc, .slice (some ⟨gm, 0, none⟩) 1 mk0, (0:Int)] 37))); have OF3 := hD (bG (base' := w.heap.size) (oK of (kA w3 (.cells #[.slice fa 0 fc, .slice (some ⟨gm, 0, none⟩) 1 mk0, (0:Int)] 37))) (by rw [sz2L]; omega)); have HG := hD (show w.heap.size + 1 < gm from Nat.le_trans (Nat.le_of_eq (sz2L w _ _).symm) hgB); have x4 := kZ (kA w3 (.cells #[.slice fa 0 fc, .slice (some ⟨gm, 0, none⟩) 1 mk0, (0:Int)] 37)) (show w3.cell? ⟨gm, 5, none⟩ = some (.int .i64 mr) from hc 5 _ (by decide) rfl); have x6 := kZ (kA w3 (.cells #[.slice fa 0 fc, .slice (some ⟨gm, 0, none⟩) 1 mk0, (0:Int)] 37)) (show w3.cell? ⟨gm, 7, none⟩ = some (.int .i64 0) from hc 7 _ (by decide) rfl); clear hc of om hk kz hck hgB hgl)
 obtain ⟨WD, hWD⟩ : ∃ x, (w3.alloc (.cells #[.slice fa 0 fc, .slice (some ⟨gm, 0, none⟩) 1 mk0, (0:Int)] 37)).drew = x := ⟨_, rfl⟩
 have kD : Kp (w3.alloc (.cells #[.slice fa 0 fc, .slice (some ⟨gm, 0, none⟩) 1 mk0, (0:Int)] 37)) WD := by rw [← hWD]; exact dQ (Kp.refl _)
 have HWD := hD hWD; have kDD := Kp.refl WD; clear hWD; have OMD := hD (oK OM3.out kD); have OFD := hD (oK OF3.out kD); have HNO := hD (fun b (e : (Value.slice fa 0 fc).ownBlock = some b) => show b ≠ gm from fun e2 => aQ OFD.out OMD.out (by decide) b e (by rw [e2]; rfl)); have RBD := hD (rZ kD RB3.out); have RMD := hD (rZ kD RM3.out); have RZD := hD (rZ kD RZ3.out); have KD := hD (kT K3.out kD); have C4 := hD (kZ kD x4); have C6 := hD (kZ kD x6); have HFZ := hD (fun i => show WD.frozen? ⟨gm, i, none⟩ = false by have := own_frozG OMD.out rfl i; exact this); have HNR := hD (show w3.heap.size ≠ gm from fun e => own_neP OMD.out RBD.out (by decide) (by rw [e]; rfl)); have HNM := hD (show w.heap.size ≠ gm by have := HG.out; omega); have HNZ := hD (show w.heap.size + 1 ≠ gm by have := HG.out; omega); have HGB := hD (show w.heap.size ≤ gm by have := HG.out; omega); refine rgW (fun w' => w'.heap[w3.heap.size]? = some (.cells #[.slice fa 0 fc, .slice (some ⟨gm, 0, none⟩) 1 mk0, (0:Int)] 37) ∧ w'.heap[w.heap.size]? = some (.cells #[mk, mf, mt, mn, ms, mr, mp, mo, mc] 63) ∧ w'.heap[w.heap.size + 1]? = some (.cells #[.slice none 0 0, .slice none 0 0, (0:Int)] 37) ∧ Kp w w') ?_ fun hH => ?_
 ·exact by rw [HWD.out]; exact ⟨RBD.out, RMD.out, RZD.out, KD.out⟩
 rw [HWD.out] at hH ⊢; refine tkP 0 ?_
 go_simp; refine tkP 1 ?_ (y := by intro w hZ; obtain ⟨x0, x1, x2⟩ := cellsR3 hZ.1; go_simp; try rfl)
 go_simp; refine tkP 2 ?_
 go_simp; refine tkP 3 ?_ (y := by intro w hZ; obtain ⟨x0, x1, x2⟩ := cellsR3 hZ.1; go_simp; try rfl)
 go_simp; refine tkP 4 ?_
 go_simp; refine tkP 5 ?_
 go_simp; refine tkP 6 ?_ (y := by intro w hZ; obtain ⟨y0, y1, y2, y3, y4, y5, y6, y7, y8⟩ := cells9 hZ.2.1; go_simp; try rfl)
 go_simp; refine tkP 7 ?_
 go_simp; refine tkP 8 ?_
 go_simp; refine rdW 9 fun K hK => ?_
 have c4 := C4.out; have z4 := HFZ.out 5; go_simp; refine hK.out _ _ (⟨(bS _ _ _ _ HNR.out).trans hH.1, (bS _ _ _ _ HNM.out).trans hH.2.1, (bS _ _ _ _ HNZ.out).trans hH.2.2.1, Below.setCell hH.2.2.2 HGB.out _⟩) fun hH => ?_
 clear hK K; have o1 := (OMD.out.stored 5 (.int .i64 ri)).1; have p1 : (WD.setCell ⟨gm, 5, none⟩ (.int .i64 ri)).ownsRow w.heap.size 87 14 (.slice fa 0 fc) 0 (fcE.row []) := sG OFD.out (fun b e => bS _ _ _ _ (HNO.out b e)); have c6 : (WD.setCell ⟨gm, 5, none⟩ (.int .i64 ri)).cell? ⟨gm, 7, none⟩ = some (.int .i64 0) := by have := C6.out; simp [go_sem, this]
 have z6 : (WD.setCell ⟨gm, 5, none⟩ (.int .i64 ri)).frozen? ⟨gm, 7, none⟩ = false := by have := HFZ.out 7; simp [go_sem, this]
 obtain ⟨W4, hW4⟩ : ∃ x, WD.setCell ⟨gm, 5, none⟩ (.int .i64 ri) = x := ⟨_, rfl⟩
 rw [hW4] at o1 p1 c6 z6 hH ⊢; clear hW4 c4 z4; refine tkP 10 ?_
 go_simp; refine tkP 11 ?_
 go_simp; refine rdW 12 fun K hK => ?_
 go_simp; refine hK.out _ _ (⟨(bS _ _ _ _ HNR.out).trans hH.1, (bS _ _ _ _ HNM.out).trans hH.2.1, (bS _ _ _ _ HNZ.out).trans hH.2.2.1, Below.setCell hH.2.2.2 HGB.out _⟩) fun hH => ?_
 clear hK K; have o2 := (o1.stored 7 (.int .i64 mo)).1; have p2 : (W4.setCell ⟨gm, 7, none⟩ (.int .i64 mo)).ownsRow w.heap.size 87 14 (.slice fa 0 fc) 0 (fcE.row []) := sG p1 (fun b e => bS _ _ _ _ (HNO.out b e)); have P2 := hD p2; clear o1 p1 p2 c6 z6; refine dnW ?_ _
 have KF := hD hH.2.2.2; have RF := hD hH.1; have RZF := hD hH.2.2.1; have O2 := hD o2; clear o2 hH; obtain ⟨t0, t1, t2⟩ := cellsR3 RF.out; obtain ⟨u0, u1, u2⟩ := cellsR3 RZF.out; have fz := frozN RZF.out; go_wp2; refine bodyPost_ret (results_cell_row (p := 4) rfl _ _ (w.heap.size + 1) 37 _ (0, 0) _ rfl (setR3 (.slice fa 0 fc) (.slice (some ⟨gm, 0, none⟩) 1 mk0) (.int .i64 0) RZF.out) Tryz.underlying37 rfl (by kernel_rfl)) rfl ?_
 refine ⟨_, rfl, ?_, setR3_kp KF.out (by omega) _ _ _⟩
 have e := row_set1 mmE [answerM (⟨mk, mf, mt, mn, ms, mr, mp, mo, mc⟩ : MM) 18 0] 0 (by simp) 5 (by decide) (.int .i64 ri) (⟨18, mt, mf, mn, ms, ri, mp, 0, 0⟩ : MM) rfl; have e2 := row_set1 mmE [(⟨18, mt, mf, mn, ms, ri, mp, 0, 0⟩ : MM)] 0 (by simp) 7 (by decide) (.int .i64 mo) (registeredE (⟨mk, mf, mt, mn, ms, mr, mp, mo, mc⟩ : MM) ri) rfl; have o3 := O2.out; rw [show ([_] : List MM).set 0 _ = [_] from rfl] at e e2; rw [show (5 : Nat) = 0 * 9 + 5 from rfl, show (7 : Nat) = 0 * 9 + 7 from rfl] at o3
 erw [e, e2] at o3
 exact RsV.setN (r := ⟨[], [registeredE (⟨mk, mf, mt, mn, ms, mr, mp, mo, mc⟩ : MM) ri], 0⟩) RZF.out (by decide) (by decide) rfl rfl P2.out (bG (base' := w.heap.size) o3 (by rw [sz2L]; omega))
theorem lResult (rn rp rq re rs rh : Int) (an aw ao ad : Int) (ax : Nat) (ap ac : Int) (av : Option Addr) (al ak : Nat) (ri : Int) (e1 e2 e3 e4 es ef ew : Int) (ec : Bool) (FS : List FX) (hFS : (if ec = true then [(⟨3, an, aw, ri, 0, 0, 0, 0, 0, 0, e3, e4, 0, 0⟩ : FX)] else []) = FS) (MS : List MM) (hMS : (if es ≠ 0 then [(⟨es, an, rn, an, aw, ri, rp, 0, 0⟩ : MM)] else []) = MS) : Calls Tryz.prog 63 #[.agg #[rn, rp, rq, re, rs, rh, an, aw, ao, ad, ax, ap, ac, .slice av al ak, ri], .agg #[e1, e2, e3, e4, es, ef, ew, .bool ec]] w fun r w' => ∃ v, r = .returned v ∧ RsV 87 w.heap.size ⟨FS, MS, 0⟩ v w' ∧ Kp w w' := by
 have HT := hD (fun w => lSeats (w := w) rn rp rq re rs rh an aw ao ad ax ap ac av al ak ri e1 e2 e3 e4); have HM := hD (fun w => lMessage (w := w) rn rp rq re rs rh an aw ao ad ax ap ac av al ak ri es); obtain ⟨HFS, HMS⟩ := hD2 hFS hMS; have k4 : Kp w ((((w.alloc (.cells #[rn, rp, rq, re, rs, rh, an, aw, ao, ad, ax, ap, ac, .slice av al ak, ri] 137)).alloc (.cells #[e1, e2, e3, e4, es, ef, ew, .bool ec] 143)).alloc (.cells #[.slice none 0 0, .slice none 0 0, (0:Int)] 37)).alloc (.cells #[.slice none 0 0, .slice none 0 0, (0:Int)] 37)) := kT (pk3 w (.cells #[rn, rp, rq, re, rs, rh, an, aw, ao, ad, ax, ap, ac, .slice av al ak, ri] 137) (.cells #[e1, e2, e3, e4, es, ef, ew, .bool ec] 143) (.cells #[.slice none 0 0, .slice none 0 0, (0:Int)] 37)) (kA _ _); have r0 : ((((w.alloc (.cells #[rn, rp, rq, re, rs, rh, an, aw, ao, ad, ax, ap, ac, .slice av al ak, ri] 137)).alloc (.cells #[e1, e2, e3, e4, es, ef, ew, .bool ec] 143)).alloc (.cells #[.slice none 0 0, .slice none 0 0, (0:Int)] 37)).alloc (.cells #[.slice none 0 0, .slice none 0 0, (0:Int)] 37)).heap[w.heap.size]? = some (.cells #[rn, rp, rq, re, rs, rh, an, aw, ao, ad, ax, ap, ac, .slice av al ak, ri] 137) := rZ (kA _ _) (p3_0 w _ _ _)
 have r1 : ((((w.alloc (.cells #[rn, rp, rq, re, rs, rh, an, aw, ao, ad, ax, ap, ac, .slice av al ak, ri] 137)).alloc (.cells #[e1, e2, e3, e4, es, ef, ew, .bool ec] 143)).alloc (.cells #[.slice none 0 0, .slice none 0 0, (0:Int)] 37)).alloc (.cells #[.slice none 0 0, .slice none 0 0, (0:Int)] 37)).heap[w.heap.size + 1]? = some (.cells #[e1, e2, e3, e4, es, ef, ew, .bool ec] 143) := rZ (kA _ _) (p3_1 w _ _ _); have r2 : ((((w.alloc (.cells #[rn, rp, rq, re, rs, rh, an, aw, ao, ad, ax, ap, ac, .slice av al ak, ri] 137)).alloc (.cells #[e1, e2, e3, e4, es, ef, ew, .bool ec] 143)).alloc (.cells #[.slice none 0 0, .slice none 0 0, (0:Int)] 37)).alloc (.cells #[.slice none 0 0, .slice none 0 0, (0:Int)] 37)).heap[w.heap.size + 1 + 1]? = some (.cells #[.slice none 0 0, .slice none 0 0, (0:Int)] 37) := rZ (kA _ _) (p3_2 w _ _ _); have r3 : ((((w.alloc (.cells #[rn, rp, rq, re, rs, rh, an, aw, ao, ad, ax, ap, ac, .slice av al ak, ri] 137)).alloc (.cells #[e1, e2, e3, e4, es, ef, ew, .bool ec] 143)).alloc (.cells #[.slice none 0 0, .slice none 0 0, (0:Int)] 37)).alloc (.cells #[.slice none 0 0, .slice none 0 0, (0:Int)] 37)).heap[w.heap.size + 1 + 1 + 1]? = some (.cells #[.slice none 0 0, .slice none 0 0, (0:Int)] 37) := by
  have := (mH (((w.alloc (.cells #[rn, rp, rq, re, rs, rh, an, aw, ao, ad, ax, ap, ac, .slice av al ak, ri] 137)).alloc (.cells #[e1, e2, e3, e4, es, ef, ew, .bool ec] 143)).alloc (.cells #[.slice none 0 0, .slice none 0 0, (0:Int)] 37)) (.cells #[.slice none 0 0, .slice none 0 0, (0:Int)] 37))
  rwa [show (((w.alloc (.cells #[rn, rp, rq, re, rs, rh, an, aw, ao, ad, ax, ap, ac, .slice av al ak, ri] 137)).alloc (.cells #[e1, e2, e3, e4, es, ef, ew, .bool ec] 143)).alloc (.cells #[.slice none 0 0, .slice none 0 0, (0:Int)] 37)).heap.size = w.heap.size + 1 + 1 + 1 by simp] at this
 obtain ⟨i0, i1, i2, i3, i4, i5, i6, i7⟩ := c8X (p3_1 w (.cells #[rn, rp, rq, re, rs, rh, an, aw, ao, ad, ax, ap, ac, .slice av al ak, ri] 137) (.cells #[e1, e2, e3, e4, es, ef, ew, .bool ec] 143) (.cells #[.slice none 0 0, .slice none 0 0, (0:Int)] 37)); obtain ⟨j0, j1, j2, j3, j4, j5, j6, j7⟩ := c8X r1; obtain ⟨K4, R0, R1, R2, R3⟩ := hD5 k4 r0 r1 r2 r3; clear k4 r0 r1 r2 r3 hFS hMS; go_enter Tryz.func63, Tryz.ntmps63; go_upto_if 7 with fail
 go_cut [] from 6 (fun w' => RwB w (.cells #[rn, rp, rq, re, rs, rh, an, aw, ao, ad, ax, ap, ac, .slice av al ak, ri] 137) (.cells #[e1, e2, e3, e4, es, ef, ew, .bool ec] 143) (.cells #[.slice none 0 0, .slice none 0 0, (0:Int)] 37) ⟨FS, [], 0⟩ w')
 case first =>
  cases ec
  ·have hE : FS = [] := HFS.out.symm; subst hE; clear HFS; go_wp2_with fail
   go_meet
   case rel => exact ⟨R0.out, R1.out, R2.out, ⟨_, _, _, _, _, _, R3.out, rfl, rfl, own_no, own_no⟩, K4.out⟩
  ·have hE : FS = [(⟨3, an, aw, ri, 0, 0, 0, 0, 0, 0, e3, e4, 0, 0⟩ : FX)] := HFS.out.symm; subst hE; clear HFS; go_wp2_with fail
   obtain ⟨WD, hWD⟩ : ∃ x, (((((w.alloc (.cells #[rn, rp, rq, re, rs, rh, an, aw, ao, ad, ax, ap, ac, .slice av al ak, ri] 137)).alloc (.cells #[e1, e2, e3, e4, es, ef, ew, .bool true] 143)).alloc (.cells #[.slice none 0 0, .slice none 0 0, (0:Int)] 37)).alloc (.cells #[.slice none 0 0, .slice none 0 0, (0:Int)] 37))).drew = x := ⟨_, rfl⟩
   have kD : Kp (((((w.alloc (.cells #[rn, rp, rq, re, rs, rh, an, aw, ao, ad, ax, ap, ac, .slice av al ak, ri] 137)).alloc (.cells #[e1, e2, e3, e4, es, ef, ew, .bool true] 143)).alloc (.cells #[.slice none 0 0, .slice none 0 0, (0:Int)] 37)).alloc (.cells #[.slice none 0 0, .slice none 0 0, (0:Int)] 37))) WD := by rw [← hWD]; exact dQ (Kp.refl _)
   have HWD := hD hWD; have kDD := Kp.refl WD; clear hWD; have R3D := hD (rZ kD R3.out); have HC3 := hD (cellsR3 R3D.out).1; refine rgW (fun w' => w'.heap[w.heap.size]? = some (.cells #[rn, rp, rq, re, rs, rh, an, aw, ao, ad, ax, ap, ac, .slice av al ak, ri] 137) ∧ w'.heap[(w.heap.size + 1)]? = some (.cells #[e1, e2, e3, e4, es, ef, ew, .bool true] 143) ∧ w'.heap[(w.heap.size + 1 + 1)]? = some (.cells #[.slice none 0 0, .slice none 0 0, (0:Int)] 37) ∧ Kp w w') ?_ fun hH => ?_
   ·exact by rw [HWD.out]; exact ⟨rZ kD R0.out, rZ kD R1.out, rZ kD R2.out, kT K4.out kD⟩
   rw [HWD.out] at hH ⊢; refine tkP 0 ?_
   go_simp; refine tkP 2 ?_ (y := by intro w hZ; obtain ⟨y0, y1, y2, y3, y4, y5, y6, y7, y8, y9, y10, y11, y12, y13, y14⟩ := cells15 hZ.1; go_simp; try rfl)
   go_simp; refine tkP 3 ?_
   go_simp; refine tkP 4 ?_ (y := by intro w hZ; obtain ⟨z0, z1, z2, z3, z4, z5, z6, z7⟩ := c8X hZ.2.1; go_simp; try rfl)
   go_simp; refine wpAnyH_ready (rs := [1, 5]) (by kernel_rfl) (by simp) ?_
   refine aC (fun K hK => ?_) (aC (fun K hK => ?_) aN0)
   ·have gl := kZ kDD HC3.out; go_simp; refine hK.out _ _ (hH) fun hH => ?_
    clear hK K; refine rdW 5 fun K hK => ?_
    go_simp; go_wp2_with (go_at_call 117; (with_reducible refine (HT.out _).mono ?_); rintro e' W3 ⟨rfl, hk3⟩)
    refine hK.out _ _ (⟨rZ hk3 hH.1, rZ hk3 hH.2.1, rZ hk3 hH.2.2.1, kT hH.2.2.2 hk3⟩) fun hH => ?_
    clear hK K; have k3 := kT kDD hk3; refine rdW 6 fun K hK => ?_
    go_simp; refine hK.out _ _ (⟨rZ (kA _ _) hH.1, rZ (kA _ _) hH.2.1, rZ (kA _ _) hH.2.2.1, kT hH.2.2.2 (kA _ _)⟩) fun hH => ?_
    clear hK K; have o4 := own_oneF (t := 87) (w := W3) (B := W3.heap.size) (⟨3, an, aw, ri, 0, 0, 0, 0, 0, 0, e3, e4, 0, 0⟩ : FX) (Nat.le_refl _); obtain ⟨W4, hW4⟩ : ∃ x, W3.alloc (.cells #[(3:Int), an, aw, ri, (0:Int), (0:Int), (0:Int), (0:Int), (0:Int), (0:Int), e3, e4, (0:Int), .float .f64 0] 87) = x := ⟨_, rfl⟩
    have c4 : Kp W3 W4 := by rw [← hW4]; exact kA _ _
    dsimp only [FX.cells, MM.cells] at o4; rw [hW4] at o4; obtain ⟨p4, hp4⟩ : ∃ x, W3.heap.size = x := ⟨_, rfl⟩
    have k4 := kT k3 c4; rw [hp4] at o4; rw [hW4] at hH ⊢
    try rw [hp4]
    clear hW4 hp4 c4; refine wpAnyH_ready (rs := [7]) (by kernel_rfl) (by simp) ?_
    refine AllReadyH.consLG rfl (fun K hK => ?_) aN0
    have P2 := qG (E := fcE) (by decide) o4; have OX := oK (own_no (w := WD) (B := w.heap.size) (k := 14) (t := 87)) k4; go_simp; refine aG (E := fcE) ty_fcL (by decide) _ rfl _ _ rfl w.heap.size _ _ [] rfl OX _ _ rfl P2 ?f3 ?f4 ?_
    case f3 => (first | decide | (simp; done) | (simp; omega))
    case f4 => exact kS hH.2.2.2
    rintro v5 W5 o5 hg hb; obtain ⟨a5, c5, rfl⟩ := fG o5; refine hK.out _ _ (⟨(hg.block _ (oZ hH.1) (Ne.symm (own_neP OX hH.1 (by decide)))).trans hH.1, (hg.block _ (oZ hH.2.1) (Ne.symm (own_neP OX hH.2.1 (by decide)))).trans hH.2.1, (hg.block _ (oZ hH.2.2.1) (Ne.symm (own_neP OX hH.2.2.1 (by decide)))).trans hH.2.2.1, Below.grown hH.2.2.2 hg (kS hH.2.2.2) (fun b hk => (OX.lt b hk).1)⟩) fun hH => ?_
    clear hK K; have r5 := (hg.block _ (oZ (rZ k4 R3D.out)) (Ne.symm (own_neP OX (rZ k4 R3D.out) (by decide)))).trans (rZ k4 R3D.out); clear hg hb P2 OX; refine tkP 8 ?_
    go_simp; refine rdW 9 fun K hK => ?_
    obtain ⟨s0, s1, s2⟩ := cellsR3 r5; have fz5 := frozN r5; go_simp; refine hK.out _ _ (⟨(bS _ _ _ _ (show w.heap.size ≠ w.heap.size + 1 + 1 + 1 by omega)).trans hH.1, (bS _ _ _ _ (show (w.heap.size + 1) ≠ w.heap.size + 1 + 1 + 1 by omega)).trans hH.2.1, (bS _ _ _ _ (show (w.heap.size + 1 + 1) ≠ w.heap.size + 1 + 1 + 1 by omega)).trans hH.2.2.1, Below.setCell hH.2.2.2 (show w.heap.size ≤ w.heap.size + 1 + 1 + 1 by omega) _⟩) fun hH => ?_
    clear hK K; refine dnW ?_ _
    obtain ⟨O5, RR5⟩ := hD2 o5 r5; clear o5; have KZ := hD hH; clear r5; go_wp2_with fail
    go_meet
    case rel => exact ⟨KZ.out.1, KZ.out.2.1, KZ.out.2.2.1, ⟨_, _, _, _, _, _, (Joins.block_setCell RR5.out _).trans rfl, rfl, rfl, sG O5.out (fun b e => bS _ _ _ _ (fun e2 => own_neP O5.out RR5.out (by decide) ((show b = w.heap.size + 1 + 1 + 1 from e2) ▸ e))), own_no⟩, KZ.out.2.2.2⟩
   ·go_simp; go_wp2_with (go_at_call 117; (with_reducible refine (HT.out _).mono ?_); rintro e' W3 ⟨rfl, hk3⟩)
    refine hK.out _ _ (⟨rZ hk3 hH.1, rZ hk3 hH.2.1, rZ hk3 hH.2.2.1, kT hH.2.2.2 hk3⟩) fun hH => ?_
    clear hK K; have k3 := kT kDD hk3; refine wpAnyH_ready (rs := [1, 6]) (by kernel_rfl) (by simp) ?_
    refine aC (fun K hK => ?_) (aC (fun K hK => ?_) aN0)
    ·have gl := kZ k3 HC3.out; go_simp; refine hK.out _ _ (hH) fun hH => ?_
     clear hK K; refine rdW 6 fun K hK => ?_
     go_simp; refine hK.out _ _ (⟨rZ (kA _ _) hH.1, rZ (kA _ _) hH.2.1, rZ (kA _ _) hH.2.2.1, kT hH.2.2.2 (kA _ _)⟩) fun hH => ?_
     clear hK K; have o4 := own_oneF (t := 87) (w := W3) (B := W3.heap.size) (⟨3, an, aw, ri, 0, 0, 0, 0, 0, 0, e3, e4, 0, 0⟩ : FX) (Nat.le_refl _); obtain ⟨W4, hW4⟩ : ∃ x, W3.alloc (.cells #[(3:Int), an, aw, ri, (0:Int), (0:Int), (0:Int), (0:Int), (0:Int), (0:Int), e3, e4, (0:Int), .float .f64 0] 87) = x := ⟨_, rfl⟩
     have c4 : Kp W3 W4 := by rw [← hW4]; exact kA _ _
     dsimp only [FX.cells, MM.cells] at o4; rw [hW4] at o4; obtain ⟨p4, hp4⟩ : ∃ x, W3.heap.size = x := ⟨_, rfl⟩
     have k4 := kT k3 c4; rw [hp4] at o4; rw [hW4] at hH ⊢
     try rw [hp4]
     clear hW4 hp4 c4; refine wpAnyH_ready (rs := [7]) (by kernel_rfl) (by simp) ?_
     refine AllReadyH.consLG rfl (fun K hK => ?_) aN0
     have P2 := qG (E := fcE) (by decide) o4; have OX := oK (own_no (w := WD) (B := w.heap.size) (k := 14) (t := 87)) k4; go_simp; refine aG (E := fcE) ty_fcL (by decide) _ rfl _ _ rfl w.heap.size _ _ [] rfl OX _ _ rfl P2 ?f3 ?f4 ?_
     case f3 => (first | decide | (simp; done) | (simp; omega))
     case f4 => exact kS hH.2.2.2
     rintro v5 W5 o5 hg hb; obtain ⟨a5, c5, rfl⟩ := fG o5; refine hK.out _ _ (⟨(hg.block _ (oZ hH.1) (Ne.symm (own_neP OX hH.1 (by decide)))).trans hH.1, (hg.block _ (oZ hH.2.1) (Ne.symm (own_neP OX hH.2.1 (by decide)))).trans hH.2.1, (hg.block _ (oZ hH.2.2.1) (Ne.symm (own_neP OX hH.2.2.1 (by decide)))).trans hH.2.2.1, Below.grown hH.2.2.2 hg (kS hH.2.2.2) (fun b hk => (OX.lt b hk).1)⟩) fun hH => ?_
     clear hK K; have r5 := (hg.block _ (oZ (rZ k4 R3D.out)) (Ne.symm (own_neP OX (rZ k4 R3D.out) (by decide)))).trans (rZ k4 R3D.out); clear hg hb P2 OX; refine tkP 8 ?_
     go_simp; refine rdW 9 fun K hK => ?_
     obtain ⟨s0, s1, s2⟩ := cellsR3 r5; have fz5 := frozN r5; go_simp; refine hK.out _ _ (⟨(bS _ _ _ _ (show w.heap.size ≠ w.heap.size + 1 + 1 + 1 by omega)).trans hH.1, (bS _ _ _ _ (show (w.heap.size + 1) ≠ w.heap.size + 1 + 1 + 1 by omega)).trans hH.2.1, (bS _ _ _ _ (show (w.heap.size + 1 + 1) ≠ w.heap.size + 1 + 1 + 1 by omega)).trans hH.2.2.1, Below.setCell hH.2.2.2 (show w.heap.size ≤ w.heap.size + 1 + 1 + 1 by omega) _⟩) fun hH => ?_
     clear hK K; refine dnW ?_ _
     obtain ⟨O5, RR5⟩ := hD2 o5 r5; clear o5; have KZ := hD hH; clear r5; go_wp2_with fail
     go_meet
     case rel => exact ⟨KZ.out.1, KZ.out.2.1, KZ.out.2.2.1, ⟨_, _, _, _, _, _, (Joins.block_setCell RR5.out _).trans rfl, rfl, rfl, sG O5.out (fun b e => bS _ _ _ _ (fun e2 => own_neP O5.out RR5.out (by decide) ((show b = w.heap.size + 1 + 1 + 1 from e2) ▸ e))), own_no⟩, KZ.out.2.2.2⟩
    ·go_simp; refine hK.out _ _ (⟨rZ (kA _ _) hH.1, rZ (kA _ _) hH.2.1, rZ (kA _ _) hH.2.2.1, kT hH.2.2.2 (kA _ _)⟩) fun hH => ?_
     clear hK K; have o4 := own_oneF (t := 87) (w := W3) (B := W3.heap.size) (⟨3, an, aw, ri, 0, 0, 0, 0, 0, 0, e3, e4, 0, 0⟩ : FX) (Nat.le_refl _); obtain ⟨W4, hW4⟩ : ∃ x, W3.alloc (.cells #[(3:Int), an, aw, ri, (0:Int), (0:Int), (0:Int), (0:Int), (0:Int), (0:Int), e3, e4, (0:Int), .float .f64 0] 87) = x := ⟨_, rfl⟩
     have c4 : Kp W3 W4 := by rw [← hW4]; exact kA _ _
     dsimp only [FX.cells, MM.cells] at o4; rw [hW4] at o4; obtain ⟨p4, hp4⟩ : ∃ x, W3.heap.size = x := ⟨_, rfl⟩
     have k4 := kT k3 c4; rw [hp4] at o4; rw [hW4] at hH ⊢
     try rw [hp4]
     clear hW4 hp4 c4; refine rdW 1 fun K hK => ?_
     have gl := kZ k4 HC3.out; go_simp; refine hK.out _ _ (hH) fun hH => ?_
     clear hK K; refine wpAnyH_ready (rs := [7]) (by kernel_rfl) (by simp) ?_
     refine AllReadyH.consLG rfl (fun K hK => ?_) aN0
     have P2 := qG (E := fcE) (by decide) o4; have OX := oK (own_no (w := WD) (B := w.heap.size) (k := 14) (t := 87)) k4; go_simp; refine aG (E := fcE) ty_fcL (by decide) _ rfl _ _ rfl w.heap.size _ _ [] rfl OX _ _ rfl P2 ?f3 ?f4 ?_
     case f3 => (first | decide | (simp; done) | (simp; omega))
     case f4 => exact kS hH.2.2.2
     rintro v5 W5 o5 hg hb; obtain ⟨a5, c5, rfl⟩ := fG o5; refine hK.out _ _ (⟨(hg.block _ (oZ hH.1) (Ne.symm (own_neP OX hH.1 (by decide)))).trans hH.1, (hg.block _ (oZ hH.2.1) (Ne.symm (own_neP OX hH.2.1 (by decide)))).trans hH.2.1, (hg.block _ (oZ hH.2.2.1) (Ne.symm (own_neP OX hH.2.2.1 (by decide)))).trans hH.2.2.1, Below.grown hH.2.2.2 hg (kS hH.2.2.2) (fun b hk => (OX.lt b hk).1)⟩) fun hH => ?_
     clear hK K; have r5 := (hg.block _ (oZ (rZ k4 R3D.out)) (Ne.symm (own_neP OX (rZ k4 R3D.out) (by decide)))).trans (rZ k4 R3D.out); clear hg hb P2 OX; refine tkP 8 ?_
     go_simp; refine rdW 9 fun K hK => ?_
     obtain ⟨s0, s1, s2⟩ := cellsR3 r5; have fz5 := frozN r5; go_simp; refine hK.out _ _ (⟨(bS _ _ _ _ (show w.heap.size ≠ w.heap.size + 1 + 1 + 1 by omega)).trans hH.1, (bS _ _ _ _ (show (w.heap.size + 1) ≠ w.heap.size + 1 + 1 + 1 by omega)).trans hH.2.1, (bS _ _ _ _ (show (w.heap.size + 1 + 1) ≠ w.heap.size + 1 + 1 + 1 by omega)).trans hH.2.2.1, Below.setCell hH.2.2.2 (show w.heap.size ≤ w.heap.size + 1 + 1 + 1 by omega) _⟩) fun hH => ?_
     clear hK K; refine dnW ?_ _
     obtain ⟨O5, RR5⟩ := hD2 o5 r5; clear o5; have KZ := hD hH; clear r5; go_wp2_with fail
     go_meet
     case rel => exact ⟨KZ.out.1, KZ.out.2.1, KZ.out.2.2.1, ⟨_, _, _, _, _, _, (Joins.block_setCell RR5.out _).trans rfl, rfl, rfl, sG O5.out (fun b e => bS _ _ _ _ (fun e2 => own_neP O5.out RR5.out (by decide) ((show b = w.heap.size + 1 + 1 + 1 from e2) ▸ e))), own_no⟩, KZ.out.2.2.2⟩
 case rest =>
  clear j0 j1 j2 j3 j4 j5 j6 j7; obtain ⟨r0, r1, r2, ⟨fa, fn, fc, ma, mn, mc, r3, hnf, hnm, of, om⟩, kc⟩ := hcut; dsimp only at r3 hnf hnm of om; have hm0 : mn = 0 := hnm.symm; subst hm0; obtain ⟨j0, j1, j2, j3, j4, j5, j6, j7⟩ := c8X r1; obtain ⟨R0, R1, R2, R3, K4, OF, OM, HNF⟩ := hD8 r0 r1 r2 r3 kc of om hnf; clear r0 r1 r2 r3 kc of om hnf hnm HFS; go_upto_if 19 with fail
  go_cut [] from 6 (fun w' => RwB w (.cells #[rn, rp, rq, re, rs, rh, an, aw, ao, ad, ax, ap, ac, .slice av al ak, ri] 137) (.cells #[e1, e2, e3, e4, es, ef, ew, .bool ec] 143) (.cells #[.slice none 0 0, .slice none 0 0, (0:Int)] 37) ⟨FS, MS, 0⟩ w')
  case first =>
   by_cases h : es = 0
   ·have g1 : (es != 0) = false := by simp [h]
    have hE : MS = [] := by have := HMS.out; rw [if_neg (by simpa using h)] at this; exact this.symm
    subst hE; clear h HMS; go_wp2_with fail
    go_meet
    case rel => exact ⟨R0.out, R1.out, R2.out, ⟨_, _, _, _, _, _, R3.out, HNF.out, rfl, OF.out, OM.out⟩, K4.out⟩
   ·have g1 : (es != 0) = true := by simp [h]
    have hE : MS = [(⟨es, an, rn, an, aw, ri, rp, 0, 0⟩ : MM)] := by have := HMS.out; rw [if_pos h] at this; exact this.symm
    subst hE; clear h HMS; go_wp2_with fail
    obtain ⟨WD, hWD⟩ : ∃ x, (wc).drew = x := ⟨_, rfl⟩
    have kD : Kp (wc) WD := by rw [← hWD]; exact dQ (Kp.refl _)
    have HWD := hD hWD; have kDD := Kp.refl WD; clear hWD; have R3D := hD (rZ kD R3.out); have HC3 := hD (cellsR3 R3D.out).2.1; have OFD := hD (oK OF.out kD); have OSD := hD (oK OM.out kD); refine rgW (fun w' => w'.heap[w.heap.size]? = some (.cells #[rn, rp, rq, re, rs, rh, an, aw, ao, ad, ax, ap, ac, .slice av al ak, ri] 137) ∧ w'.heap[(w.heap.size + 1)]? = some (.cells #[e1, e2, e3, e4, es, ef, ew, .bool ec] 143) ∧ w'.heap[(w.heap.size + 1 + 1)]? = some (.cells #[.slice none 0 0, .slice none 0 0, (0:Int)] 37) ∧ Kp w w') ?_ fun hH => ?_
    ·exact by rw [HWD.out]; exact ⟨rZ kD R0.out, rZ kD R1.out, rZ kD R2.out, kT K4.out kD⟩
    rw [HWD.out] at hH ⊢; refine tkP 0 ?_
    go_simp; refine tkP 2 ?_ (y := by intro w hZ; obtain ⟨y0, y1, y2, y3, y4, y5, y6, y7, y8, y9, y10, y11, y12, y13, y14⟩ := cells15 hZ.1; go_simp; try rfl)
    go_simp; refine tkP 3 ?_
    go_simp; refine tkP 4 ?_ (y := by intro w hZ; obtain ⟨z0, z1, z2, z3, z4, z5, z6, z7⟩ := c8X hZ.2.1; go_simp; try rfl)
    go_simp; refine wpAnyH_ready (rs := [1, 5]) (by kernel_rfl) (by simp) ?_
    refine aC (fun K hK => ?_) (aC (fun K hK => ?_) aN0)
    ·have gl := kZ kDD HC3.out; go_simp; refine hK.out _ _ (hH) fun hH => ?_
     clear hK K; refine rdW 5 fun K hK => ?_
     go_simp; go_wp2_with (go_at_call 68; (with_reducible refine (HM.out _).mono ?_); rintro e' W3 ⟨rfl, hk3⟩)
     refine hK.out _ _ (⟨rZ hk3 hH.1, rZ hk3 hH.2.1, rZ hk3 hH.2.2.1, kT hH.2.2.2 hk3⟩) fun hH => ?_
     clear hK K; have k3 := kT kDD hk3; refine rdW 6 fun K hK => ?_
     go_simp; refine hK.out _ _ (⟨rZ (kA _ _) hH.1, rZ (kA _ _) hH.2.1, rZ (kA _ _) hH.2.2.1, kT hH.2.2.2 (kA _ _)⟩) fun hH => ?_
     clear hK K; have o4 := own_oneM (w := W3) (B := W3.heap.size) (⟨es, an, rn, an, aw, ri, rp, 0, 0⟩ : MM) (Nat.le_refl _); obtain ⟨W4, hW4⟩ : ∃ x, W3.alloc (.cells #[es, an, rn, an, aw, ri, rp, (0:Int), (0:Int)] 63) = x := ⟨_, rfl⟩
     have c4 : Kp W3 W4 := by rw [← hW4]; exact kA _ _
     dsimp only [FX.cells, MM.cells] at o4; rw [hW4] at o4; obtain ⟨p4, hp4⟩ : ∃ x, W3.heap.size = x := ⟨_, rfl⟩
     have k4 := kT k3 c4; rw [hp4] at o4; rw [hW4] at hH ⊢
     try rw [hp4]
     clear hW4 hp4 c4; refine wpAnyH_ready (rs := [7]) (by kernel_rfl) (by simp) ?_
     refine AllReadyH.consLG rfl (fun K hK => ?_) aN0
     have P2 := qG (E := mmE) (by decide) o4; have OX := oK OSD.out k4; go_simp; refine aG (E := mmE) ty_mm (by decide) _ rfl _ _ rfl w.heap.size _ _ [] rfl OX _ _ rfl P2 ?f3 ?f4 ?_
     case f3 => (first | decide | (simp; done) | (simp; omega))
     case f4 => exact kS hH.2.2.2
     rintro v5 W5 o5 hg hb; obtain ⟨a5, c5, rfl⟩ := fG o5; refine hK.out _ _ (⟨(hg.block _ (oZ hH.1) (Ne.symm (own_neP OX hH.1 (by decide)))).trans hH.1, (hg.block _ (oZ hH.2.1) (Ne.symm (own_neP OX hH.2.1 (by decide)))).trans hH.2.1, (hg.block _ (oZ hH.2.2.1) (Ne.symm (own_neP OX hH.2.2.1 (by decide)))).trans hH.2.2.1, Below.grown hH.2.2.2 hg (kS hH.2.2.2) (fun b hk => (OX.lt b hk).1)⟩) fun hH => ?_
     clear hK K; have r5 := (hg.block _ (oZ (rZ k4 R3D.out)) (Ne.symm (own_neP OX (rZ k4 R3D.out) (by decide)))).trans (rZ k4 R3D.out); have o6 := sG (oK OFD.out k4) (fun b e => (hg.block b ((oK OFD.out k4).lt b e).2 (fun e2 => aQ (oK OFD.out k4) OX (by decide) b e e2.symm))); clear hg hb P2 OX; refine tkP 8 ?_
     go_simp; refine rdW 9 fun K hK => ?_
     obtain ⟨s0, s1, s2⟩ := cellsR3 r5; have fz5 := frozN r5; go_simp; refine hK.out _ _ (⟨(bS _ _ _ _ (show w.heap.size ≠ w.heap.size + 1 + 1 + 1 by omega)).trans hH.1, (bS _ _ _ _ (show (w.heap.size + 1) ≠ w.heap.size + 1 + 1 + 1 by omega)).trans hH.2.1, (bS _ _ _ _ (show (w.heap.size + 1 + 1) ≠ w.heap.size + 1 + 1 + 1 by omega)).trans hH.2.2.1, Below.setCell hH.2.2.2 (show w.heap.size ≤ w.heap.size + 1 + 1 + 1 by omega) _⟩) fun hH => ?_
     clear hK K; refine dnW ?_ _
     obtain ⟨O5, RR5⟩ := hD2 o5 r5; clear o5; have O6 := hD o6; clear o6; have KZ := hD hH; clear r5; go_wp2_with fail
     go_meet
     case rel => exact ⟨KZ.out.1, KZ.out.2.1, KZ.out.2.2.1, ⟨_, _, _, _, _, _, (Joins.block_setCell RR5.out _).trans rfl, HNF.out, rfl, sG O6.out (fun b e => bS _ _ _ _ (fun e2 => own_neP O6.out RR5.out (by decide) ((show b = w.heap.size + 1 + 1 + 1 from e2) ▸ e))), sG O5.out (fun b e => bS _ _ _ _ (fun e2 => own_neP O5.out RR5.out (by decide) ((show b = w.heap.size + 1 + 1 + 1 from e2) ▸ e)))⟩, KZ.out.2.2.2⟩
    ·go_simp; go_wp2_with (go_at_call 68; (with_reducible refine (HM.out _).mono ?_); rintro e' W3 ⟨rfl, hk3⟩)
     refine hK.out _ _ (⟨rZ hk3 hH.1, rZ hk3 hH.2.1, rZ hk3 hH.2.2.1, kT hH.2.2.2 hk3⟩) fun hH => ?_
     clear hK K; have k3 := kT kDD hk3; refine wpAnyH_ready (rs := [1, 6]) (by kernel_rfl) (by simp) ?_
     refine aC (fun K hK => ?_) (aC (fun K hK => ?_) aN0)
     ·have gl := kZ k3 HC3.out; go_simp; refine hK.out _ _ (hH) fun hH => ?_
      clear hK K; refine rdW 6 fun K hK => ?_
      go_simp; refine hK.out _ _ (⟨rZ (kA _ _) hH.1, rZ (kA _ _) hH.2.1, rZ (kA _ _) hH.2.2.1, kT hH.2.2.2 (kA _ _)⟩) fun hH => ?_
      clear hK K; have o4 := own_oneM (w := W3) (B := W3.heap.size) (⟨es, an, rn, an, aw, ri, rp, 0, 0⟩ : MM) (Nat.le_refl _); obtain ⟨W4, hW4⟩ : ∃ x, W3.alloc (.cells #[es, an, rn, an, aw, ri, rp, (0:Int), (0:Int)] 63) = x := ⟨_, rfl⟩
      have c4 : Kp W3 W4 := by rw [← hW4]; exact kA _ _
      dsimp only [FX.cells, MM.cells] at o4; rw [hW4] at o4; obtain ⟨p4, hp4⟩ : ∃ x, W3.heap.size = x := ⟨_, rfl⟩
      have k4 := kT k3 c4; rw [hp4] at o4; rw [hW4] at hH ⊢
      try rw [hp4]
      clear hW4 hp4 c4; refine wpAnyH_ready (rs := [7]) (by kernel_rfl) (by simp) ?_
      refine AllReadyH.consLG rfl (fun K hK => ?_) aN0
      have P2 := qG (E := mmE) (by decide) o4; have OX := oK OSD.out k4; go_simp; refine aG (E := mmE) ty_mm (by decide) _ rfl _ _ rfl w.heap.size _ _ [] rfl OX _ _ rfl P2 ?f3 ?f4 ?_
      case f3 => (first | decide | (simp; done) | (simp; omega))
      case f4 => exact kS hH.2.2.2
      rintro v5 W5 o5 hg hb; obtain ⟨a5, c5, rfl⟩ := fG o5; refine hK.out _ _ (⟨(hg.block _ (oZ hH.1) (Ne.symm (own_neP OX hH.1 (by decide)))).trans hH.1, (hg.block _ (oZ hH.2.1) (Ne.symm (own_neP OX hH.2.1 (by decide)))).trans hH.2.1, (hg.block _ (oZ hH.2.2.1) (Ne.symm (own_neP OX hH.2.2.1 (by decide)))).trans hH.2.2.1, Below.grown hH.2.2.2 hg (kS hH.2.2.2) (fun b hk => (OX.lt b hk).1)⟩) fun hH => ?_
      clear hK K; have r5 := (hg.block _ (oZ (rZ k4 R3D.out)) (Ne.symm (own_neP OX (rZ k4 R3D.out) (by decide)))).trans (rZ k4 R3D.out); have o6 := sG (oK OFD.out k4) (fun b e => (hg.block b ((oK OFD.out k4).lt b e).2 (fun e2 => aQ (oK OFD.out k4) OX (by decide) b e e2.symm))); clear hg hb P2 OX; refine tkP 8 ?_
      go_simp; refine rdW 9 fun K hK => ?_
      obtain ⟨s0, s1, s2⟩ := cellsR3 r5; have fz5 := frozN r5; go_simp; refine hK.out _ _ (⟨(bS _ _ _ _ (show w.heap.size ≠ w.heap.size + 1 + 1 + 1 by omega)).trans hH.1, (bS _ _ _ _ (show (w.heap.size + 1) ≠ w.heap.size + 1 + 1 + 1 by omega)).trans hH.2.1, (bS _ _ _ _ (show (w.heap.size + 1 + 1) ≠ w.heap.size + 1 + 1 + 1 by omega)).trans hH.2.2.1, Below.setCell hH.2.2.2 (show w.heap.size ≤ w.heap.size + 1 + 1 + 1 by omega) _⟩) fun hH => ?_
      clear hK K; refine dnW ?_ _
      obtain ⟨O5, RR5⟩ := hD2 o5 r5; clear o5; have O6 := hD o6; clear o6; have KZ := hD hH; clear r5; go_wp2_with fail
      go_meet
      case rel => exact ⟨KZ.out.1, KZ.out.2.1, KZ.out.2.2.1, ⟨_, _, _, _, _, _, (Joins.block_setCell RR5.out _).trans rfl, HNF.out, rfl, sG O6.out (fun b e => bS _ _ _ _ (fun e2 => own_neP O6.out RR5.out (by decide) ((show b = w.heap.size + 1 + 1 + 1 from e2) ▸ e))), sG O5.out (fun b e => bS _ _ _ _ (fun e2 => own_neP O5.out RR5.out (by decide) ((show b = w.heap.size + 1 + 1 + 1 from e2) ▸ e)))⟩, KZ.out.2.2.2⟩
     ·go_simp; refine hK.out _ _ (⟨rZ (kA _ _) hH.1, rZ (kA _ _) hH.2.1, rZ (kA _ _) hH.2.2.1, kT hH.2.2.2 (kA _ _)⟩) fun hH => ?_
      clear hK K; have o4 := own_oneM (w := W3) (B := W3.heap.size) (⟨es, an, rn, an, aw, ri, rp, 0, 0⟩ : MM) (Nat.le_refl _); obtain ⟨W4, hW4⟩ : ∃ x, W3.alloc (.cells #[es, an, rn, an, aw, ri, rp, (0:Int), (0:Int)] 63) = x := ⟨_, rfl⟩
      have c4 : Kp W3 W4 := by rw [← hW4]; exact kA _ _
      dsimp only [FX.cells, MM.cells] at o4; rw [hW4] at o4; obtain ⟨p4, hp4⟩ : ∃ x, W3.heap.size = x := ⟨_, rfl⟩
      have k4 := kT k3 c4; rw [hp4] at o4; rw [hW4] at hH ⊢
      try rw [hp4]
      clear hW4 hp4 c4; refine rdW 1 fun K hK => ?_
      have gl := kZ k4 HC3.out; go_simp; refine hK.out _ _ (hH) fun hH => ?_
      clear hK K; refine wpAnyH_ready (rs := [7]) (by kernel_rfl) (by simp) ?_
      refine AllReadyH.consLG rfl (fun K hK => ?_) aN0
      have P2 := qG (E := mmE) (by decide) o4; have OX := oK OSD.out k4; go_simp; refine aG (E := mmE) ty_mm (by decide) _ rfl _ _ rfl w.heap.size _ _ [] rfl OX _ _ rfl P2 ?f3 ?f4 ?_
      case f3 => (first | decide | (simp; done) | (simp; omega))
      case f4 => exact kS hH.2.2.2
      rintro v5 W5 o5 hg hb; obtain ⟨a5, c5, rfl⟩ := fG o5; refine hK.out _ _ (⟨(hg.block _ (oZ hH.1) (Ne.symm (own_neP OX hH.1 (by decide)))).trans hH.1, (hg.block _ (oZ hH.2.1) (Ne.symm (own_neP OX hH.2.1 (by decide)))).trans hH.2.1, (hg.block _ (oZ hH.2.2.1) (Ne.symm (own_neP OX hH.2.2.1 (by decide)))).trans hH.2.2.1, Below.grown hH.2.2.2 hg (kS hH.2.2.2) (fun b hk => (OX.lt b hk).1)⟩) fun hH => ?_
      clear hK K; have r5 := (hg.block _ (oZ (rZ k4 R3D.out)) (Ne.symm (own_neP OX (rZ k4 R3D.out) (by decide)))).trans (rZ k4 R3D.out); have o6 := sG (oK OFD.out k4) (fun b e => (hg.block b ((oK OFD.out k4).lt b e).2 (fun e2 => aQ (oK OFD.out k4) OX (by decide) b e e2.symm))); clear hg hb P2 OX; refine tkP 8 ?_
      go_simp; refine rdW 9 fun K hK => ?_
      obtain ⟨s0, s1, s2⟩ := cellsR3 r5; have fz5 := frozN r5; go_simp; refine hK.out _ _ (⟨(bS _ _ _ _ (show w.heap.size ≠ w.heap.size + 1 + 1 + 1 by omega)).trans hH.1, (bS _ _ _ _ (show (w.heap.size + 1) ≠ w.heap.size + 1 + 1 + 1 by omega)).trans hH.2.1, (bS _ _ _ _ (show (w.heap.size + 1 + 1) ≠ w.heap.size + 1 + 1 + 1 by omega)).trans hH.2.2.1, Below.setCell hH.2.2.2 (show w.heap.size ≤ w.heap.size + 1 + 1 + 1 by omega) _⟩) fun hH => ?_
      clear hK K; refine dnW ?_ _
      obtain ⟨O5, RR5⟩ := hD2 o5 r5; clear o5; have O6 := hD o6; clear o6; have KZ := hD hH; clear r5; go_wp2_with fail
      go_meet
      case rel => exact ⟨KZ.out.1, KZ.out.2.1, KZ.out.2.2.1, ⟨_, _, _, _, _, _, (Joins.block_setCell RR5.out _).trans rfl, HNF.out, rfl, sG O6.out (fun b e => bS _ _ _ _ (fun e2 => own_neP O6.out RR5.out (by decide) ((show b = w.heap.size + 1 + 1 + 1 from e2) ▸ e))), sG O5.out (fun b e => bS _ _ _ _ (fun e2 => own_neP O5.out RR5.out (by decide) ((show b = w.heap.size + 1 + 1 + 1 from e2) ▸ e)))⟩, KZ.out.2.2.2⟩
  case rest =>
   clear j0 j1 j2 j3 j4 j5 j6 j7; obtain ⟨r0, r1, r2, ⟨fa, fn, fc, ma, mn, mc, r3, hnf, hnm, of, om⟩, kc⟩ := hcut; dsimp only at r3 hnf hnm of om; subst hnf hnm; obtain ⟨j0, j1, j2⟩ := cellsR3 r3; obtain ⟨u0, u1, u2⟩ := cellsR3 r2; have fz := frozN r2; obtain ⟨R2, K4, OF, OM⟩ := hD4 r2 kc of om; clear r0 r1 r2 r3 kc of om; go_wp2; refine bodyPost_ret (results_cell_row (p := 4) rfl _ _ (w.heap.size + 1 + 1) 37 _ (0, 0) _ rfl (setR3 _ _ _ R2.out) Tryz.underlying37 rfl (by kernel_rfl)) rfl ?_
   exact ⟨_, rfl, RsV.set R2.out (by decide) (by decide) OF.out OM.out, setR3_kp K4.out (show w.heap.size ≤ w.heap.size + 1 + 1 by omega) _ _ _⟩
end Go.Proofs.YtlmlmhmhgdjhnaaGreatDoor
