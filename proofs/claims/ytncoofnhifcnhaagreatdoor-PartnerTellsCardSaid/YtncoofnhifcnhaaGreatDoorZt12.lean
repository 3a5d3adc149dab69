/- Parts of this proof (own work). -/
import Derived.Test.YtncoofnhifcnhaaGreatDoorZt11
set_option maxRecDepth 100000
set_option maxHeartbeats 40000000
namespace Go.Proofs.YtncoofnhifcnhaaGreatDoor
open Go.RowKit Go.ChangeShapes Go.WideShapes
variable {w0 w w' W w3 : World} {ads : List Addr}
def ToC (w : World) (M Z : Obj) (p : Nat) (r : RsM) (w' : World) : Prop := w'.heap[w.heap.size + 1]? = some M ∧ w'.heap[w.heap.size + 1 + 1]? = some Z ∧ ResB 34 73 w.heap.size p r w' ∧ Kp w w'
theorem kTold (TC : TabC ads w) (ce : w.cell? ⟨5, 0, none⟩ = some (errI ads 4)) (xn xs xr y1 y2 y3 y4 nd i : Int) (gk gf gt gn gs gr gp go gc : Int) (hz : SeatM.ok ⟨y1, y2, y3, y4⟩) (ik : i64M gk) (e1 e2 e3 e4 es ef ew : Int) (ec : Bool) (hy : ((⟨y1, y2, y3, y4⟩ : SeatM).tell gk).2 = ⟨⟨e1, e2, e3, e4⟩, es, ef, ew, ec⟩) (FS F2 : List FX) (hFS : FS = if xr = -1 then [(⟨7, 0, 0, gr, 0, i, 0, 0, 0, 0, 0, 0, 0, 0⟩ : FX)] else []) (hF2 : F2 = if ec = true then [(⟨8, 0, 0, 0, 0, i, 0, 0, 0, 0, e3, e4, 0, 0⟩ : FX)] else []) (S2 S3 : List MM) (hS2 : S2 = if es ≠ 0 then [(⟨es, nd, xn, xn, xs, gr, i, 0, 0⟩ : MM)] else []) (hS3 : S3 = if ef ≠ 0 then [(⟨19, gt, gf, gn, gs, gr, gp, 0, ef⟩ : MM)] else []) :
  Calls Tryz.prog 36 #[.agg #[xn, xs, xr, y1, y2, y3, y4, nd, i], .agg #[gk, gf, gt, gn, gs, gr, gp, go, gc]] w fun r w' => ∃ v, r = .returned v ∧ RsV 73 w.heap.size ⟨FS ++ F2, S2 ++ S3, ew⟩ v w' ∧ Kp w w' := by
 obtain ⟨n, hn⟩ : ∃ n, FS.length = n := ⟨_, rfl⟩
 have HPC := hD (fun w => kPlaces (w := w) xn xs xr y1 y2 y3 y4 nd i gr FS hFS n hn); have htl := fun w1 (hk : Kp w w1) => msTell_any (ads := ads) ⟨y1, y2, y3, y4⟩ gk hz ik w1 (TC.kp hk) (kZ hk ce)
 rw [hy] at htl; obtain ⟨er, her⟩ : ∃ x, errI ads ((⟨y1, y2, y3, y4⟩ : SeatM).tell gk).1 = x := ⟨_, rfl⟩
 rw [her] at htl; dsimp only [effV, seatV] at htl; have HTL := hD htl; have hrs := fun w => kResult (w := w) xn xs xr y1 y2 y3 y4 nd i e1 e2 e3 e4 es ef ew ec gr
 rw [← hF2, ← hS2] at hrs; have HRS := hrs; have han := fun w => answer_any (⟨gk, gf, gt, gn, gs, gr, gp, go, gc⟩ : MM) 19 ef w
 dsimp only [MM.cells, answerM] at han; have HAN := hD han; obtain ⟨lf, hlf⟩ : ∃ x, F2.length = x := ⟨_, rfl⟩
 obtain ⟨lm, hlm⟩ : ∃ x, S2.length = x := ⟨_, rfl⟩
 have HRS := hD (fun w => (HRS w).mono (R' := fun r w' => ∃ fa fc ma mc, r = .returned (.agg #[.slice fa lf fc, .slice ma lm mc, ew]) ∧ w'.ownsRow w.heap.size 73 14 (.slice fa lf fc) lf (fcE.row F2) ∧ w'.ownsRow w.heap.size 26 9 (.slice ma lm mc) lm (mmE.row S2) ∧ Kp w w') (by
  rintro e w2 ⟨v, rfl, h, hk⟩; obtain ⟨fa, fc, ma, mc, rfl, h1, h2⟩ := RsV.form (t := 73) (r := ⟨F2, S2, ew⟩) (v := v) h hlf hlm; exact ⟨fa, fc, ma, mc, rfl, h1, h2, hk⟩))
 obtain ⟨HLF, HLM⟩ := hD2 hlf hlm; have HN2 := hD (show n + F2.length ≤ 2 by rw [← hn, hFS, hF2]; split <;> split <;> simp); have HM2 := hD (show lm ≤ 1 by rw [← hlm, hS2]; split <;> simp); have HLA := hD (show (FS ++ F2).length = n + lf by rw [List.length_append, hn, hlf]); have HS3 := hD hS3; have R0 := hD (p3_0 w (.cells #[xn, xs, xr, y1, y2, y3, y4, nd, i] 84) (.cells #[gk, gf, gt, gn, gs, gr, gp, go, gc] 26) (.cells #[.slice none 0 0, .slice none 0 0, (0:Int)] 34)); have R1 := hD (p3_1 w (.cells #[xn, xs, xr, y1, y2, y3, y4, nd, i] 84) (.cells #[gk, gf, gt, gn, gs, gr, gp, go, gc] 26) (.cells #[.slice none 0 0, .slice none 0 0, (0:Int)] 34)); have R2 := hD (p3_2 w (.cells #[xn, xs, xr, y1, y2, y3, y4, nd, i] 84) (.cells #[gk, gf, gt, gn, gs, gr, gp, go, gc] 26) (.cells #[.slice none 0 0, .slice none 0 0, (0:Int)] 34)); have K3 := hD (pk3 w (.cells #[xn, xs, xr, y1, y2, y3, y4, nd, i] 84) (.cells #[gk, gf, gt, gn, gs, gr, gp, go, gc] 26) (.cells #[.slice none 0 0, .slice none 0 0, (0:Int)] 34))
 obtain ⟨a0, a1, a2, a3, a4, a5, a6, a7, a8⟩ := cells9 R0.out; obtain ⟨b0, b1, b2, b3, b4, b5, b6, b7, b8⟩ := cells9 R1.out; clear TC ce hz ik hy hFS hF2 hS2 hS3 htl her hrs han hlf hlm hn; go_enter Tryz.func36, Tryz.ntmps36; go_wp2_with (first | (go_at_call 80; (with_reducible refine (HTL.out _ K3.out).mono ?_); rintro e' w5 ⟨rfl, hk⟩; have kz := kT hk (kA w5 (.cells #[e1, e2, e3, e4, es, ef, ew, .bool ec] 103)); have K5 := hD (kT K3.out kz); have R50 := hD (rZ kz R0.out); have R51 := hD (rZ kz R1.out); have R52 := hD (rZ kz R2.out); have R5E := hD (mH w5 (.cells #[e1, e2, e3, e4, es, ef, ew, .bool ec] 103)); have B5 := hD (kS (kT K3.out hk)); have B52 := hD (show w.heap.size + 1 + 1 < w5.heap.size from oZ (rZ hk R2.out)); obtain ⟨a50, a51, a52, a53, a54, a55, a56, a57, a58⟩ := cells9 R50.out; obtain ⟨b50, b51, b52, b53, b54, b55, b56, b57, b58⟩ := cells9 R51.out; obtain ⟨e50, e51, e52, e53, e54, e55, e56, e57⟩ := c8X R5E.out; clear hk kz) | (go_at_call 45; (with_reducible refine (HRS.out _).mono ?_); rintro e' w6 ⟨fa, fc, ma, mc, rfl, of, om, hk⟩; have kz := kT hk (kA w6 (.cells #[.slice fa lf fc, .slice ma lm mc, ew] 34)); have K6 := hD (kT K5.out kz); have R60 := hD (rZ kz R50.out); have R61 := hD (rZ kz R51.out); have R62 := hD (rZ kz R52.out); have R6E := hD (rZ kz R5E.out); have R6R := hD (mH w6 (.cells #[.slice fa lf fc, .slice ma lm mc, ew] 34)); have OF6 := hD (bG (oK of (kA w6 (.cells #[.slice fa lf fc, .slice ma lm mc, ew] 34))) (kS K5.out)); have OM6 := hD (bG (base' := w5.heap.size) (oK om (kA w6 (.cells #[.slice fa lf fc, .slice ma lm mc, ew] 34))) (by simp)); have B6 := hD (show w5.heap.size < w6.heap.size from oZ (rZ hk R5E.out)); obtain ⟨r60, r61, r62⟩ := cellsR3 R6R.out; clear hk kz of om))
 obtain ⟨WD, hWD⟩ : ∃ x, ((w6.alloc (.cells #[.slice fa lf fc, .slice ma lm mc, ew] 34))).drew = x := ⟨_, rfl⟩
 have kD : Kp ((w6.alloc (.cells #[.slice fa lf fc, .slice ma lm mc, ew] 34))) WD := by rw [← hWD]; exact dQ (Kp.refl _)
 have HWD := hD hWD; have kDD := Kp.refl WD; clear hWD; have R3D := hD (rZ kD R6R.out); have HC3 := hD (cellsR3 R3D.out).1; have OFD := hD (oK OF6.out kD); have OMD := hD (oK OM6.out kD); have HBD := hD (kS (kT K6.out kD)); refine rgW (fun w' => w'.heap[w.heap.size]? = some (.cells #[xn, xs, xr, y1, y2, y3, y4, nd, i] 84) ∧ w'.heap[(w.heap.size + 1)]? = some (.cells #[gk, gf, gt, gn, gs, gr, gp, go, gc] 26) ∧ w'.heap[(w.heap.size + 1 + 1)]? = some (.cells #[.slice none 0 0, .slice none 0 0, (0:Int)] 34) ∧ w'.heap[w5.heap.size]? = some (.cells #[e1, e2, e3, e4, es, ef, ew, .bool ec] 103) ∧ Kp w w') ?_ fun hH => ?_
 ·exact by rw [HWD.out]; exact ⟨rZ kD R60.out, rZ kD R61.out, rZ kD R62.out, rZ kD R6E.out, kT K6.out kD⟩
 rw [HWD.out] at hH ⊢; refine tkP 0 ?_ (y := by intro w hZ; obtain ⟨x0, x1, x2, x3, x4, x5, x6, x7, x8⟩ := cells9 hZ.1; go_simp; try rfl)
 go_simp; refine tkP 1 ?_
 go_simp; refine tkP 2 ?_ (y := by intro w hZ; obtain ⟨m0, m1, m2, m3, m4, m5, m6, m7, m8⟩ := cells9 hZ.2.1; go_simp; try rfl)
 go_simp; refine tkP 4 ?_
 go_simp; refine wpAnyH_ready (rs := [3, 5]) (by kernel_rfl) (by simp) ?_
 refine aC (fun K hK => ?_) (aC (fun K hK => ?_) aN0)
 ·go_simp; go_wp2_with (go_at_call 33; (with_reducible refine (HPC.out _).mono ?_); rintro e' W3 ⟨a3, c3, rfl, o3, hk3⟩)
  refine hK.out _ _ (⟨rZ hk3 hH.1, rZ hk3 hH.2.1, rZ hk3 hH.2.2.1, rZ hk3 hH.2.2.2.1, kT hH.2.2.2.2 hk3⟩) fun hH => ?_
  clear hK K; have k3 := kT kDD hk3; have o3 := bG (base' := w.heap.size) o3 HBD.out; refine rdW 5 fun K hK => ?_
  have gl := kZ k3 HC3.out; go_simp; refine hK.out _ _ (hH) fun hH => ?_
  clear hK K; refine wpAnyH_ready (rs := [6]) (by kernel_rfl) (by simp) ?_
  refine AllReadyH.consLG rfl (fun K hK => ?_) aN0
  have P2 := qG (E := fcE) (by decide) (oK OFD.out k3); go_simp; refine aG (E := fcE) ty_fcL (by decide) _ rfl _ _ rfl w.heap.size _ n FS rfl o3 _ F2 rfl P2 ?f3 ?f4 ?_
  case f3 => (have := HN2.out; omega)
  case f4 => exact kS hH.2.2.2.2
  rintro v5 W5 o5 hg hb; rw [HLF.out] at o5; obtain ⟨a5, c5, rfl⟩ := fG o5; refine hK.out _ _ (⟨(hg.block _ (oZ hH.1) (Ne.symm (own_neP o3 hH.1 (by decide)))).trans hH.1, (hg.block _ (oZ hH.2.1) (Ne.symm (own_neP o3 hH.2.1 (by decide)))).trans hH.2.1, (hg.block _ (oZ hH.2.2.1) (Ne.symm (own_neP o3 hH.2.2.1 (by decide)))).trans hH.2.2.1, (hg.block _ (oZ hH.2.2.2.1) (Ne.symm (own_neP o3 hH.2.2.2.1 (by decide)))).trans hH.2.2.2.1, Below.grown hH.2.2.2.2 hg (kS hH.2.2.2.2) (fun b hk => (o3.lt b hk).1)⟩) fun hH => ?_
  clear hK K; have r5 := (hg.block _ (oZ (rZ k3 R3D.out)) (Ne.symm (own_neP o3 (rZ k3 R3D.out) (by decide)))).trans (rZ k3 R3D.out); have o6 := sG (oK OMD.out k3) (fun b e => (hg.block b ((oK OMD.out k3).lt b e).2 (fun e2 => aQ (oK OMD.out k3) o3 (by decide) b e e2.symm))); clear hg hb P2 o3; refine tkP 7 ?_
  go_simp; refine rdW 8 fun K hK => ?_
  obtain ⟨s0, s1, s2⟩ := cellsR3 r5; have fz5 := frozN r5; go_simp; refine hK.out _ _ (⟨(bS _ _ _ _ (show w.heap.size ≠ w6.heap.size by have := B52.out; have := B6.out; omega)).trans hH.1, (bS _ _ _ _ (show (w.heap.size + 1) ≠ w6.heap.size by have := B52.out; have := B6.out; omega)).trans hH.2.1, (bS _ _ _ _ (show (w.heap.size + 1 + 1) ≠ w6.heap.size by have := B52.out; have := B6.out; omega)).trans hH.2.2.1, (bS _ _ _ _ (show w5.heap.size ≠ w6.heap.size by have := B52.out; have := B6.out; omega)).trans hH.2.2.2.1, Below.setCell hH.2.2.2.2 (show w.heap.size ≤ w6.heap.size by have := B52.out; have := B6.out; omega) _⟩) fun hH => ?_
  clear hK K; refine dnW ?_ _
  have KZ := hD hH; have R8R : (W5.setCell ⟨w6.heap.size, 0, none⟩ (.slice a5 (n + lf) c5)).heap[w6.heap.size]? = some (.cells #[.slice a5 (n + lf) c5, .slice ma lm mc, ew] 34 (0, 0)) := (Joins.block_setCell r5 _).trans rfl; have OM8 : (W5.setCell ⟨w6.heap.size, 0, none⟩ (.slice a5 (n + lf) c5)).ownsRow w5.heap.size 26 9 (.slice ma lm mc) lm (mmE.row S2) := sG o6 (fun b e => bS _ _ _ _ (fun e2 => own_neP o6 r5 (by decide) ((show b = w6.heap.size from e2) ▸ e))); have OF8 : (W5.setCell ⟨w6.heap.size, 0, none⟩ (.slice a5 (n + lf) c5)).ownsRow w.heap.size 73 14 (.slice a5 (n + lf) c5) (n + lf) (fcE.row (FS ++ F2)) := sG o5 (fun b e => bS _ _ _ _ (fun e2 => own_neP o5 r5 (by decide) ((show b = w6.heap.size from e2) ▸ e))); have R81 := hD KZ.out.2.1; have R82 := hD KZ.out.2.2.1; have R8E := hD KZ.out.2.2.2.1; have K8 := hD KZ.out.2.2.2.2; obtain ⟨R8R, OM8, OF8⟩ := hD3 R8R OM8 OF8
  clear hH KZ r5 o5 o6 k3; obtain ⟨e80, e81, e82, e83, e84, e85, e86, e87⟩ := c8X R8E.out; go_upto_if 32 with fail
  go_cut [] from 8 (fun w' => ToC w (.cells #[gk, gf, gt, gn, gs, gr, gp, go, gc] 26) (.cells #[.slice none 0 0, .slice none 0 0, (0:Int)] 34) w6.heap.size ⟨FS ++ F2, S2 ++ S3, ew⟩ w')
  case first =>
   by_cases h : ef = 0
   ·have g1 : (ef != 0) = false := by simp [h]
    have hE : S3 = [] := by rw [HS3.out, if_neg (by simpa using h)]
    subst hE; clear h HS3; go_wp2_with fail
    go_meet
    case rel => exact ⟨R81.out, R82.out, ⟨_, _, _, _, _, _, R8R.out, HLA.out, (by simp only [List.append_nil]; exact HLM.out), OF8.out, (by simp only [List.append_nil]; exact bG OM8.out B5.out)⟩, K8.out⟩
   ·have g1 : (ef != 0) = true := by simp [h]
    have hE : S3 = [(⟨19, gt, gf, gn, gs, gr, gp, 0, ef⟩ : MM)] := by rw [HS3.out, if_pos h]
    subst hE; clear h HS3; go_wp2_with fail
    obtain ⟨WD, hWD⟩ : ∃ x, ((W5.setCell ⟨w6.heap.size, 0, none⟩ (.slice a5 (n + lf) c5))).drew = x := ⟨_, rfl⟩
    have kD : Kp ((W5.setCell ⟨w6.heap.size, 0, none⟩ (.slice a5 (n + lf) c5))) WD := by rw [← hWD]; exact dQ (Kp.refl _)
    have HWD := hD hWD; have kDD := Kp.refl WD; clear hWD; have R3D := hD (rZ kD R8R.out); have HC3 := hD (cellsR3 R3D.out).2.1; have OFD := hD (oK OF8.out kD); have OSD := hD (oK OM8.out kD); have HB8 := hD (show w5.heap.size < WD.heap.size from oZ (rZ kD R8E.out)); refine rgW (fun w' => w'.heap[(w.heap.size + 1)]? = some (.cells #[gk, gf, gt, gn, gs, gr, gp, go, gc] 26) ∧ w'.heap[w5.heap.size]? = some (.cells #[e1, e2, e3, e4, es, ef, ew, .bool ec] 103) ∧ w'.heap[(w.heap.size + 1 + 1)]? = some (.cells #[.slice none 0 0, .slice none 0 0, (0:Int)] 34) ∧ Kp w w') ?_ fun hH => ?_
    ·exact by rw [HWD.out]; exact ⟨rZ kD R81.out, rZ kD R8E.out, rZ kD R82.out, kT K8.out kD⟩
    rw [HWD.out] at hH ⊢; refine tkP 0 ?_
    go_simp; refine tkP 2 ?_ (y := by intro w hZ; obtain ⟨y0, y1, y2, y3, y4, y5, y6, y7, y8⟩ := cells9 hZ.1; go_simp; try rfl)
    go_simp; refine tkP 3 ?_
    go_simp; refine tkP 4 ?_ (y := by intro w hZ; obtain ⟨z0, z1, z2, z3, z4, z5, z6, z7⟩ := c8X hZ.2.1; go_simp; try rfl)
    go_simp; refine wpAnyH_ready (rs := [1, 5]) (by kernel_rfl) (by simp) ?_
    refine aC (fun K hK => ?_) (aC (fun K hK => ?_) aN0)
    ·have gl := kZ kDD HC3.out; go_simp; refine hK.out _ _ (hH) fun hH => ?_
     clear hK K; refine rdW 5 fun K hK => ?_
     go_simp; go_wp2_with (go_at_call 78; (with_reducible refine (HAN.out _).mono ?_); rintro e' W3 ⟨rfl, hk3⟩)
     refine hK.out _ _ (⟨rZ hk3 hH.1, rZ hk3 hH.2.1, rZ hk3 hH.2.2.1, kT hH.2.2.2 hk3⟩) fun hH => ?_
     clear hK K; have k3 := kT kDD hk3; refine rdW 6 fun K hK => ?_
     go_simp; refine hK.out _ _ (⟨rZ (kA _ _) hH.1, rZ (kA _ _) hH.2.1, rZ (kA _ _) hH.2.2.1, kT hH.2.2.2 (kA _ _)⟩) fun hH => ?_
     clear hK K; have o4 := own_oneM (w := W3) (B := W3.heap.size) (⟨19, gt, gf, gn, gs, gr, gp, 0, ef⟩ : MM) (Nat.le_refl _); obtain ⟨W4, hW4⟩ : ∃ x, W3.alloc (.cells #[(19:Int), gt, gf, gn, gs, gr, gp, (0:Int), ef] 26) = x := ⟨_, rfl⟩
     have c4 : Kp W3 W4 := by rw [← hW4]; exact kA _ _
     dsimp only [FX.cells, MM.cells] at o4; rw [hW4] at o4; obtain ⟨p4, hp4⟩ : ∃ x, W3.heap.size = x := ⟨_, rfl⟩
     have k4 := kT k3 c4; rw [hp4] at o4; rw [hW4] at hH ⊢
     try rw [hp4]
     clear hW4 hp4 c4; refine wpAnyH_ready (rs := [7]) (by kernel_rfl) (by simp) ?_
     refine AllReadyH.consLG rfl (fun K hK => ?_) aN0
     have P2 := qG (E := mmE) (by decide) o4; have OX := oK OSD.out k4; go_simp; refine aG (E := mmE) ty_mm (by decide) _ rfl _ _ rfl w5.heap.size _ _ S2 rfl OX _ _ rfl P2 ?f3 ?f4 ?_
     case f3 => (have := HM2.out; simp; omega)
     case f4 => have := kS k4; have := HB8.out; omega
     rintro v5 W5 o5 hg hb; obtain ⟨a5, c5, rfl⟩ := fG o5; refine hK.out _ _ (⟨(hg.block _ (oZ hH.1) (fun e => by have := (OX.lt _ e.symm).1; have := B52.out; omega)).trans hH.1, (hg.block _ (oZ hH.2.1) (Ne.symm (own_neP OX hH.2.1 (by decide)))).trans hH.2.1, (hg.block _ (oZ hH.2.2.1) (Ne.symm (own_neP OX hH.2.2.1 (by decide)))).trans hH.2.2.1, Below.grown hH.2.2.2 hg (kS hH.2.2.2) (fun b hk => Nat.le_trans B5.out (OX.lt b hk).1)⟩) fun hH => ?_
     clear hK K; have r5 := (hg.block _ (oZ (rZ k4 R3D.out)) (Ne.symm (own_neP OX (rZ k4 R3D.out) (by decide)))).trans (rZ k4 R3D.out); have o6 := sG (oK OFD.out k4) (fun b e => (hg.block b ((oK OFD.out k4).lt b e).2 (fun e2 => aQ (oK OFD.out k4) OX (by decide) b e e2.symm))); clear hg hb P2 OX; refine tkP 8 ?_
     go_simp; refine rdW 9 fun K hK => ?_
     obtain ⟨s0, s1, s2⟩ := cellsR3 r5; have fz5 := frozN r5; go_simp; refine hK.out _ _ (⟨(bS _ _ _ _ (show w.heap.size + 1 ≠ w6.heap.size by have := B52.out; have := B6.out; omega)).trans hH.1, (bS _ _ _ _ (show w5.heap.size ≠ w6.heap.size by have := B6.out; omega)).trans hH.2.1, (bS _ _ _ _ (show w.heap.size + 1 + 1 ≠ w6.heap.size by have := B52.out; have := B6.out; omega)).trans hH.2.2.1, Below.setCell hH.2.2.2 (show w.heap.size ≤ w6.heap.size by have := B5.out; have := B6.out; omega) _⟩) fun hH => ?_
     clear hK K; refine dnW ?_ _
     have O5' := hD o5; have RR5 := hD r5; clear o5; have O6' := hD o6; clear o6; have KZ := hD hH; clear r5; go_wp2_with fail
     go_meet
     case rel => exact ⟨KZ.out.1, KZ.out.2.2.1, ⟨_, _, _, _, _, _, (Joins.block_setCell RR5.out _).trans rfl, HLA.out, by rw [List.length_append, HLM.out]; rfl, sG O6'.out (fun b e => bS _ _ _ _ (fun e2 => own_neP O6'.out RR5.out (by decide) ((show b = w6.heap.size from e2) ▸ e))), bG (sG O5'.out (fun b e => bS _ _ _ _ (fun e2 => own_neP O5'.out RR5.out (by decide) ((show b = w6.heap.size from e2) ▸ e)))) B5.out⟩, KZ.out.2.2.2⟩
    ·go_simp; go_wp2_with (go_at_call 78; (with_reducible refine (HAN.out _).mono ?_); rintro e' W3 ⟨rfl, hk3⟩)
     refine hK.out _ _ (⟨rZ hk3 hH.1, rZ hk3 hH.2.1, rZ hk3 hH.2.2.1, kT hH.2.2.2 hk3⟩) fun hH => ?_
     clear hK K; have k3 := kT kDD hk3; refine wpAnyH_ready (rs := [1, 6]) (by kernel_rfl) (by simp) ?_
     refine aC (fun K hK => ?_) (aC (fun K hK => ?_) aN0)
     ·have gl := kZ k3 HC3.out; go_simp; refine hK.out _ _ (hH) fun hH => ?_
      clear hK K; refine rdW 6 fun K hK => ?_
      go_simp; refine hK.out _ _ (⟨rZ (kA _ _) hH.1, rZ (kA _ _) hH.2.1, rZ (kA _ _) hH.2.2.1, kT hH.2.2.2 (kA _ _)⟩) fun hH => ?_
      clear hK K; have o4 := own_oneM (w := W3) (B := W3.heap.size) (⟨19, gt, gf, gn, gs, gr, gp, 0, ef⟩ : MM) (Nat.le_refl _); obtain ⟨W4, hW4⟩ : ∃ x, W3.alloc (.cells #[(19:Int), gt, gf, gn, gs, gr, gp, (0:Int), ef] 26) = x := ⟨_, rfl⟩
      have c4 : Kp W3 W4 := by rw [← hW4]; exact kA _ _
      dsimp only [FX.cells, MM.cells] at o4; rw [hW4] at o4; obtain ⟨p4, hp4⟩ : ∃ x, W3.heap.size = x := ⟨_, rfl⟩
      have k4 := kT k3 c4; rw [hp4] at o4; rw [hW4] at hH ⊢
      try rw [hp4]
      clear hW4 hp4 c4; refine wpAnyH_ready (rs := [7]) (by kernel_rfl) (by simp) ?_
      refine AllReadyH.consLG rfl (fun K hK => ?_) aN0
      have P2 := qG (E := mmE) (by decide) o4; have OX := oK OSD.out k4; go_simp; refine aG (E := mmE) ty_mm (by decide) _ rfl _ _ rfl w5.heap.size _ _ S2 rfl OX _ _ rfl P2 ?f3 ?f4 ?_
      case f3 => (have := HM2.out; simp; omega)
      case f4 => have := kS k4; have := HB8.out; omega
      rintro v5 W5 o5 hg hb; obtain ⟨a5, c5, rfl⟩ := fG o5; refine hK.out _ _ (⟨(hg.block _ (oZ hH.1) (fun e => by have := (OX.lt _ e.symm).1; have := B52.out; omega)).trans hH.1, (hg.block _ (oZ hH.2.1) (Ne.symm (own_neP OX hH.2.1 (by decide)))).trans hH.2.1, (hg.block _ (oZ hH.2.2.1) (Ne.symm (own_neP OX hH.2.2.1 (by decide)))).trans hH.2.2.1, Below.grown hH.2.2.2 hg (kS hH.2.2.2) (fun b hk => Nat.le_trans B5.out (OX.lt b hk).1)⟩) fun hH => ?_
      clear hK K; have r5 := (hg.block _ (oZ (rZ k4 R3D.out)) (Ne.symm (own_neP OX (rZ k4 R3D.out) (by decide)))).trans (rZ k4 R3D.out); have o6 := sG (oK OFD.out k4) (fun b e => (hg.block b ((oK OFD.out k4).lt b e).2 (fun e2 => aQ (oK OFD.out k4) OX (by decide) b e e2.symm))); clear hg hb P2 OX; refine tkP 8 ?_
      go_simp; refine rdW 9 fun K hK => ?_
      obtain ⟨s0, s1, s2⟩ := cellsR3 r5; have fz5 := frozN r5; go_simp; refine hK.out _ _ (⟨(bS _ _ _ _ (show w.heap.size + 1 ≠ w6.heap.size by have := B52.out; have := B6.out; omega)).trans hH.1, (bS _ _ _ _ (show w5.heap.size ≠ w6.heap.size by have := B6.out; omega)).trans hH.2.1, (bS _ _ _ _ (show w.heap.size + 1 + 1 ≠ w6.heap.size by have := B52.out; have := B6.out; omega)).trans hH.2.2.1, Below.setCell hH.2.2.2 (show w.heap.size ≤ w6.heap.size by have := B5.out; have := B6.out; omega) _⟩) fun hH => ?_
      clear hK K; refine dnW ?_ _
      have O5' := hD o5; have RR5 := hD r5; clear o5; have O6' := hD o6; clear o6; have KZ := hD hH; clear r5; go_wp2_with fail
      go_meet
      case rel => exact ⟨KZ.out.1, KZ.out.2.2.1, ⟨_, _, _, _, _, _, (Joins.block_setCell RR5.out _).trans rfl, HLA.out, by rw [List.length_append, HLM.out]; rfl, sG O6'.out (fun b e => bS _ _ _ _ (fun e2 => own_neP O6'.out RR5.out (by decide) ((show b = w6.heap.size from e2) ▸ e))), bG (sG O5'.out (fun b e => bS _ _ _ _ (fun e2 => own_neP O5'.out RR5.out (by decide) ((show b = w6.heap.size from e2) ▸ e)))) B5.out⟩, KZ.out.2.2.2⟩
     ·go_simp; refine hK.out _ _ (⟨rZ (kA _ _) hH.1, rZ (kA _ _) hH.2.1, rZ (kA _ _) hH.2.2.1, kT hH.2.2.2 (kA _ _)⟩) fun hH => ?_
      clear hK K; have o4 := own_oneM (w := W3) (B := W3.heap.size) (⟨19, gt, gf, gn, gs, gr, gp, 0, ef⟩ : MM) (Nat.le_refl _); obtain ⟨W4, hW4⟩ : ∃ x, W3.alloc (.cells #[(19:Int), gt, gf, gn, gs, gr, gp, (0:Int), ef] 26) = x := ⟨_, rfl⟩
      have c4 : Kp W3 W4 := by rw [← hW4]; exact kA _ _
      dsimp only [FX.cells, MM.cells] at o4; rw [hW4] at o4; obtain ⟨p4, hp4⟩ : ∃ x, W3.heap.size = x := ⟨_, rfl⟩
      have k4 := kT k3 c4; rw [hp4] at o4; rw [hW4] at hH ⊢
      try rw [hp4]
      clear hW4 hp4 c4; refine rdW 1 fun K hK => ?_
      have gl := kZ k4 HC3.out; go_simp; refine hK.out _ _ (hH) fun hH => ?_
      clear hK K; refine wpAnyH_ready (rs := [7]) (by kernel_rfl) (by simp) ?_
      refine AllReadyH.consLG rfl (fun K hK => ?_) aN0
      have P2 := qG (E := mmE) (by decide) o4; have OX := oK OSD.out k4; go_simp; refine aG (E := mmE) ty_mm (by decide) _ rfl _ _ rfl w5.heap.size _ _ S2 rfl OX _ _ rfl P2 ?f3 ?f4 ?_
      case f3 => (have := HM2.out; simp; omega)
      case f4 => have := kS k4; have := HB8.out; omega
      rintro v5 W5 o5 hg hb; obtain ⟨a5, c5, rfl⟩ := fG o5; refine hK.out _ _ (⟨(hg.block _ (oZ hH.1) (fun e => by have := (OX.lt _ e.symm).1; have := B52.out; omega)).trans hH.1, (hg.block _ (oZ hH.2.1) (Ne.symm (own_neP OX hH.2.1 (by decide)))).trans hH.2.1, (hg.block _ (oZ hH.2.2.1) (Ne.symm (own_neP OX hH.2.2.1 (by decide)))).trans hH.2.2.1, Below.grown hH.2.2.2 hg (kS hH.2.2.2) (fun b hk => Nat.le_trans B5.out (OX.lt b hk).1)⟩) fun hH => ?_
      clear hK K; have r5 := (hg.block _ (oZ (rZ k4 R3D.out)) (Ne.symm (own_neP OX (rZ k4 R3D.out) (by decide)))).trans (rZ k4 R3D.out); have o6 := sG (oK OFD.out k4) (fun b e => (hg.block b ((oK OFD.out k4).lt b e).2 (fun e2 => aQ (oK OFD.out k4) OX (by decide) b e e2.symm))); clear hg hb P2 OX; refine tkP 8 ?_
      go_simp; refine rdW 9 fun K hK => ?_
      obtain ⟨s0, s1, s2⟩ := cellsR3 r5; have fz5 := frozN r5; go_simp; refine hK.out _ _ (⟨(bS _ _ _ _ (show w.heap.size + 1 ≠ w6.heap.size by have := B52.out; have := B6.out; omega)).trans hH.1, (bS _ _ _ _ (show w5.heap.size ≠ w6.heap.size by have := B6.out; omega)).trans hH.2.1, (bS _ _ _ _ (show w.heap.size + 1 + 1 ≠ w6.heap.size by have := B52.out; have := B6.out; omega)).trans hH.2.2.1, Below.setCell hH.2.2.2 (show w.heap.size ≤ w6.heap.size by have := B5.out; have := B6.out; omega) _⟩) fun hH => ?_
      clear hK K; refine dnW ?_ _
      have O5' := hD o5; have RR5 := hD r5; clear o5; have O6' := hD o6; clear o6; have KZ := hD hH; clear r5; go_wp2_with fail
      go_meet
      case rel => exact ⟨KZ.out.1, KZ.out.2.2.1, ⟨_, _, _, _, _, _, (Joins.block_setCell RR5.out _).trans rfl, HLA.out, by rw [List.length_append, HLM.out]; rfl, sG O6'.out (fun b e => bS _ _ _ _ (fun e2 => own_neP O6'.out RR5.out (by decide) ((show b = w6.heap.size from e2) ▸ e))), bG (sG O5'.out (fun b e => bS _ _ _ _ (fun e2 => own_neP O5'.out RR5.out (by decide) ((show b = w6.heap.size from e2) ▸ e)))) B5.out⟩, KZ.out.2.2.2⟩
  case rest =>
   obtain ⟨r1, r2, ⟨qa, qn, qc, qd, qm, qe, r3, hnf, hnm, of, om⟩, kc⟩ := hcut; dsimp only at r3 hnf hnm of om; obtain ⟨HQN, HQM⟩ := hD2 hnf hnm; obtain ⟨j0, j1, j2⟩ := cellsR3 r3; obtain ⟨u0, u1', u2⟩ := cellsR3 r2; have fz := frozN r2; obtain ⟨R2, K4, OF, OM⟩ := hD4 r2 kc of om; clear r1 r2 r3 kc of om hnf hnm; go_wp2; refine bodyPost_ret (results_cell_row (p := 4) rfl _ _ (w.heap.size + 1 + 1) 34 _ (0, 0) _ rfl (setR3 _ _ _ R2.out) Tryz.underlying34 rfl (by kernel_rfl)) rfl ?_
   exact ⟨_, rfl, RsV.setN (r := ⟨FS ++ F2, S2 ++ S3, ew⟩) R2.out (by decide) (by decide) HQN.out HQM.out OF.out OM.out, setR3_kp K4.out (show w.heap.size ≤ w.heap.size + 1 + 1 by omega) _ _ _⟩
 ·have gl := kZ kDD HC3.out; go_simp; refine hK.out _ _ (hH) fun hH => ?_
  clear hK K; refine rdW 3 fun K hK => ?_
  go_simp; go_wp2_with (go_at_call 33; (with_reducible refine (HPC.out _).mono ?_); rintro e' W3 ⟨a3, c3, rfl, o3, hk3⟩)
  refine hK.out _ _ (⟨rZ hk3 hH.1, rZ hk3 hH.2.1, rZ hk3 hH.2.2.1, rZ hk3 hH.2.2.2.1, kT hH.2.2.2.2 hk3⟩) fun hH => ?_
  clear hK K; have k3 := kT kDD hk3; have o3 := bG (base' := w.heap.size) o3 HBD.out; refine wpAnyH_ready (rs := [6]) (by kernel_rfl) (by simp) ?_
  refine AllReadyH.consLG rfl (fun K hK => ?_) aN0
  have P2 := qG (E := fcE) (by decide) (oK OFD.out k3); go_simp; refine aG (E := fcE) ty_fcL (by decide) _ rfl _ _ rfl w.heap.size _ n FS rfl o3 _ F2 rfl P2 ?f3 ?f4 ?_
  case f3 => (have := HN2.out; omega)
  case f4 => exact kS hH.2.2.2.2
  rintro v5 W5 o5 hg hb; rw [HLF.out] at o5; obtain ⟨a5, c5, rfl⟩ := fG o5; refine hK.out _ _ (⟨(hg.block _ (oZ hH.1) (Ne.symm (own_neP o3 hH.1 (by decide)))).trans hH.1, (hg.block _ (oZ hH.2.1) (Ne.symm (own_neP o3 hH.2.1 (by decide)))).trans hH.2.1, (hg.block _ (oZ hH.2.2.1) (Ne.symm (own_neP o3 hH.2.2.1 (by decide)))).trans hH.2.2.1, (hg.block _ (oZ hH.2.2.2.1) (Ne.symm (own_neP o3 hH.2.2.2.1 (by decide)))).trans hH.2.2.2.1, Below.grown hH.2.2.2.2 hg (kS hH.2.2.2.2) (fun b hk => (o3.lt b hk).1)⟩) fun hH => ?_
  clear hK K; have r5 := (hg.block _ (oZ (rZ k3 R3D.out)) (Ne.symm (own_neP o3 (rZ k3 R3D.out) (by decide)))).trans (rZ k3 R3D.out); have o6 := sG (oK OMD.out k3) (fun b e => (hg.block b ((oK OMD.out k3).lt b e).2 (fun e2 => aQ (oK OMD.out k3) o3 (by decide) b e e2.symm))); clear hg hb P2 o3; refine tkP 7 ?_
  go_simp; refine rdW 8 fun K hK => ?_
  obtain ⟨s0, s1, s2⟩ := cellsR3 r5; have fz5 := frozN r5; go_simp; refine hK.out _ _ (⟨(bS _ _ _ _ (show w.heap.size ≠ w6.heap.size by have := B52.out; have := B6.out; omega)).trans hH.1, (bS _ _ _ _ (show (w.heap.size + 1) ≠ w6.heap.size by have := B52.out; have := B6.out; omega)).trans hH.2.1, (bS _ _ _ _ (show (w.heap.size + 1 + 1) ≠ w6.heap.size by have := B52.out; have := B6.out; omega)).trans hH.2.2.1, (bS _ _ _ _ (show w5.heap.size ≠ w6.heap.size by have := B52.out; have := B6.out; omega)).trans hH.2.2.2.1, Below.setCell hH.2.2.2.2 (show w.heap.size ≤ w6.heap.size by have := B52.out; have := B6.out; omega) _⟩) fun hH => ?_
  clear hK K; refine dnW ?_ _
  have KZ := hD hH; have R8R : (W5.setCell ⟨w6.heap.size, 0, none⟩ (.slice a5 (n + lf) c5)).heap[w6.heap.size]? = some (.cells #[.slice a5 (n + lf) c5, .slice ma lm mc, ew] 34 (0, 0)) := (Joins.block_setCell r5 _).trans rfl; have OM8 : (W5.setCell ⟨w6.heap.size, 0, none⟩ (.slice a5 (n + lf) c5)).ownsRow w5.heap.size 26 9 (.slice ma lm mc) lm (mmE.row S2) := sG o6 (fun b e => bS _ _ _ _ (fun e2 => own_neP o6 r5 (by decide) ((show b = w6.heap.size from e2) ▸ e))); have OF8 : (W5.setCell ⟨w6.heap.size, 0, none⟩ (.slice a5 (n + lf) c5)).ownsRow w.heap.size 73 14 (.slice a5 (n + lf) c5) (n + lf) (fcE.row (FS ++ F2)) := sG o5 (fun b e => bS _ _ _ _ (fun e2 => own_neP o5 r5 (by decide) ((show b = w6.heap.size from e2) ▸ e))); have R81 := hD KZ.out.2.1; have R82 := hD KZ.out.2.2.1; have R8E := hD KZ.out.2.2.2.1; have K8 := hD KZ.out.2.2.2.2; obtain ⟨R8R, OM8, OF8⟩ := hD3 R8R OM8 OF8
  clear hH KZ r5 o5 o6 k3; obtain ⟨e80, e81, e82, e83, e84, e85, e86, e87⟩ := c8X R8E.out; go_upto_if 32 with fail
  go_cut [] from 8 (fun w' => ToC w (.cells #[gk, gf, gt, gn, gs, gr, gp, go, gc] 26) (.cells #[.slice none 0 0, .slice none 0 0, (0:Int)] 34) w6.heap.size ⟨FS ++ F2, S2 ++ S3, ew⟩ w')
  case first =>
   by_cases h : ef = 0
   ·have g1 : (ef != 0) = false := by simp [h]
    have hE : S3 = [] := by rw [HS3.out, if_neg (by simpa using h)]
    subst hE; clear h HS3; go_wp2_with fail
    go_meet
    case rel => exact ⟨R81.out, R82.out, ⟨_, _, _, _, _, _, R8R.out, HLA.out, (by simp only [List.append_nil]; exact HLM.out), OF8.out, (by simp only [List.append_nil]; exact bG OM8.out B5.out)⟩, K8.out⟩
   ·have g1 : (ef != 0) = true := by simp [h]
    have hE : S3 = [(⟨19, gt, gf, gn, gs, gr, gp, 0, ef⟩ : MM)] := by rw [HS3.out, if_pos h]
    subst hE; clear h HS3; go_wp2_with fail
    obtain ⟨WD, hWD⟩ : ∃ x, ((W5.setCell ⟨w6.heap.size, 0, none⟩ (.slice a5 (n + lf) c5))).drew = x := ⟨_, rfl⟩
    have kD : Kp ((W5.setCell ⟨w6.heap.size, 0, none⟩ (.slice a5 (n + lf) c5))) WD := by rw [← hWD]; exact dQ (Kp.refl _)
    have HWD := hD hWD; have kDD := Kp.refl WD; clear hWD; have R3D := hD (rZ kD R8R.out); have HC3 := hD (cellsR3 R3D.out).2.1; have OFD := hD (oK OF8.out kD); have OSD := hD (oK OM8.out kD); have HB8 := hD (show w5.heap.size < WD.heap.size from oZ (rZ kD R8E.out)); refine rgW (fun w' => w'.heap[(w.heap.size + 1)]? = some (.cells #[gk, gf, gt, gn, gs, gr, gp, go, gc] 26) ∧ w'.heap[w5.heap.size]? = some (.cells #[e1, e2, e3, e4, es, ef, ew, .bool ec] 103) ∧ w'.heap[(w.heap.size + 1 + 1)]? = some (.cells #[.slice none 0 0, .slice none 0 0, (0:Int)] 34) ∧ Kp w w') ?_ fun hH => ?_
    ·exact by rw [HWD.out]; exact ⟨rZ kD R81.out, rZ kD R8E.out, rZ kD R82.out, kT K8.out kD⟩
    rw [HWD.out] at hH ⊢; refine tkP 0 ?_
    go_simp; refine tkP 2 ?_ (y := by intro w hZ; obtain ⟨y0, y1, y2, y3, y4, y5, y6, y7, y8⟩ := cells9 hZ.1; go_simp; try rfl)
    go_simp; refine tkP 3 ?_
    go_simp; refine tkP 4 ?_ (y := by intro w hZ; obtain ⟨z0, z1, z2, z3, z4, z5, z6, z7⟩ := c8X hZ.2.1; go_simp; try rfl)
    go_simp; refine wpAnyH_ready (rs := [1, 5]) (by kernel_rfl) (by simp) ?_
    refine aC (fun K hK => ?_) (aC (fun K hK => ?_) aN0)
    ·have gl := kZ kDD HC3.out; go_simp; refine hK.out _ _ (hH) fun hH => ?_
     clear hK K; refine rdW 5 fun K hK => ?_
     go_simp; go_wp2_with (go_at_call 78; (with_reducible refine (HAN.out _).mono ?_); rintro e' W3 ⟨rfl, hk3⟩)
     refine hK.out _ _ (⟨rZ hk3 hH.1, rZ hk3 hH.2.1, rZ hk3 hH.2.2.1, kT hH.2.2.2 hk3⟩) fun hH => ?_
     clear hK K; have k3 := kT kDD hk3; refine rdW 6 fun K hK => ?_
     go_simp; refine hK.out _ _ (⟨rZ (kA _ _) hH.1, rZ (kA _ _) hH.2.1, rZ (kA _ _) hH.2.2.1, kT hH.2.2.2 (kA _ _)⟩) fun hH => ?_
     clear hK K; have o4 := own_oneM (w := W3) (B := W3.heap.size) (⟨19, gt, gf, gn, gs, gr, gp, 0, ef⟩ : MM) (Nat.le_refl _); obtain ⟨W4, hW4⟩ : ∃ x, W3.alloc (.cells #[(19:Int), gt, gf, gn, gs, gr, gp, (0:Int), ef] 26) = x := ⟨_, rfl⟩
     have c4 : Kp W3 W4 := by rw [← hW4]; exact kA _ _
     dsimp only [FX.cells, MM.cells] at o4; rw [hW4] at o4; obtain ⟨p4, hp4⟩ : ∃ x, W3.heap.size = x := ⟨_, rfl⟩
     have k4 := kT k3 c4; rw [hp4] at o4; rw [hW4] at hH ⊢
     try rw [hp4]
     clear hW4 hp4 c4; refine wpAnyH_ready (rs := [7]) (by kernel_rfl) (by simp) ?_
     refine AllReadyH.consLG rfl (fun K hK => ?_) aN0
     have P2 := qG (E := mmE) (by decide) o4; have OX := oK OSD.out k4; go_simp; refine aG (E := mmE) ty_mm (by decide) _ rfl _ _ rfl w5.heap.size _ _ S2 rfl OX _ _ rfl P2 ?f3 ?f4 ?_
     case f3 => (have := HM2.out; simp; omega)
     case f4 => have := kS k4; have := HB8.out; omega
     rintro v5 W5 o5 hg hb; obtain ⟨a5, c5, rfl⟩ := fG o5; refine hK.out _ _ (⟨(hg.block _ (oZ hH.1) (fun e => by have := (OX.lt _ e.symm).1; have := B52.out; omega)).trans hH.1, (hg.block _ (oZ hH.2.1) (Ne.symm (own_neP OX hH.2.1 (by decide)))).trans hH.2.1, (hg.block _ (oZ hH.2.2.1) (Ne.symm (own_neP OX hH.2.2.1 (by decide)))).trans hH.2.2.1, Below.grown hH.2.2.2 hg (kS hH.2.2.2) (fun b hk => Nat.le_trans B5.out (OX.lt b hk).1)⟩) fun hH => ?_
     clear hK K; have r5 := (hg.block _ (oZ (rZ k4 R3D.out)) (Ne.symm (own_neP OX (rZ k4 R3D.out) (by decide)))).trans (rZ k4 R3D.out); have o6 := sG (oK OFD.out k4) (fun b e => (hg.block b ((oK OFD.out k4).lt b e).2 (fun e2 => aQ (oK OFD.out k4) OX (by decide) b e e2.symm))); clear hg hb P2 OX; refine tkP 8 ?_
     go_simp; refine rdW 9 fun K hK => ?_
     obtain ⟨s0, s1, s2⟩ := cellsR3 r5; have fz5 := frozN r5; go_simp; refine hK.out _ _ (⟨(bS _ _ _ _ (show w.heap.size + 1 ≠ w6.heap.size by have := B52.out; have := B6.out; omega)).trans hH.1, (bS _ _ _ _ (show w5.heap.size ≠ w6.heap.size by have := B6.out; omega)).trans hH.2.1, (bS _ _ _ _ (show w.heap.size + 1 + 1 ≠ w6.heap.size by have := B52.out; have := B6.out; omega)).trans hH.2.2.1, Below.setCell hH.2.2.2 (show w.heap.size ≤ w6.heap.size by have := B5.out; have := B6.out; omega) _⟩) fun hH => ?_
     clear hK K; refine dnW ?_ _
     have O5' := hD o5; have RR5 := hD r5; clear o5; have O6' := hD o6; clear o6; have KZ := hD hH; clear r5; go_wp2_with fail
     go_meet
     case rel => exact ⟨KZ.out.1, KZ.out.2.2.1, ⟨_, _, _, _, _, _, (Joins.block_setCell RR5.out _).trans rfl, HLA.out, by rw [List.length_append, HLM.out]; rfl, sG O6'.out (fun b e => bS _ _ _ _ (fun e2 => own_neP O6'.out RR5.out (by decide) ((show b = w6.heap.size from e2) ▸ e))), bG (sG O5'.out (fun b e => bS _ _ _ _ (fun e2 => own_neP O5'.out RR5.out (by decide) ((show b = w6.heap.size from e2) ▸ e)))) B5.out⟩, KZ.out.2.2.2⟩
    ·go_simp; go_wp2_with (go_at_call 78; (with_reducible refine (HAN.out _).mono ?_); rintro e' W3 ⟨rfl, hk3⟩)
     refine hK.out _ _ (⟨rZ hk3 hH.1, rZ hk3 hH.2.1, rZ hk3 hH.2.2.1, kT hH.2.2.2 hk3⟩) fun hH => ?_
     clear hK K; have k3 := kT kDD hk3; refine wpAnyH_ready (rs := [1, 6]) (by kernel_rfl) (by simp) ?_
     refine aC (fun K hK => ?_) (aC (fun K hK => ?_) aN0)
     ·have gl := kZ k3 HC3.out; go_simp; refine hK.out _ _ (hH) fun hH => ?_
      clear hK K; refine rdW 6 fun K hK => ?_
      go_simp; refine hK.out _ _ (⟨rZ (kA _ _) hH.1, rZ (kA _ _) hH.2.1, rZ (kA _ _) hH.2.2.1, kT hH.2.2.2 (kA _ _)⟩) fun hH => ?_
      clear hK K; have o4 := own_oneM (w := W3) (B := W3.heap.size) (⟨19, gt, gf, gn, gs, gr, gp, 0, ef⟩ : MM) (Nat.le_refl _); obtain ⟨W4, hW4⟩ : ∃ x, W3.alloc (.cells #[(19:Int), gt, gf, gn, gs, gr, gp, (0:Int), ef] 26) = x := ⟨_, rfl⟩
      have c4 : Kp W3 W4 := by rw [← hW4]; exact kA _ _
      dsimp only [FX.cells, MM.cells] at o4; rw [hW4] at o4; obtain ⟨p4, hp4⟩ : ∃ x, W3.heap.size = x := ⟨_, rfl⟩
      have k4 := kT k3 c4; rw [hp4] at o4; rw [hW4] at hH ⊢
      try rw [hp4]
      clear hW4 hp4 c4; refine wpAnyH_ready (rs := [7]) (by kernel_rfl) (by simp) ?_
      refine AllReadyH.consLG rfl (fun K hK => ?_) aN0
      have P2 := qG (E := mmE) (by decide) o4; have OX := oK OSD.out k4; go_simp; refine aG (E := mmE) ty_mm (by decide) _ rfl _ _ rfl w5.heap.size _ _ S2 rfl OX _ _ rfl P2 ?f3 ?f4 ?_
      case f3 => (have := HM2.out; simp; omega)
      case f4 => have := kS k4; have := HB8.out; omega
      rintro v5 W5 o5 hg hb; obtain ⟨a5, c5, rfl⟩ := fG o5; refine hK.out _ _ (⟨(hg.block _ (oZ hH.1) (fun e => by have := (OX.lt _ e.symm).1; have := B52.out; omega)).trans hH.1, (hg.block _ (oZ hH.2.1) (Ne.symm (own_neP OX hH.2.1 (by decide)))).trans hH.2.1, (hg.block _ (oZ hH.2.2.1) (Ne.symm (own_neP OX hH.2.2.1 (by decide)))).trans hH.2.2.1, Below.grown hH.2.2.2 hg (kS hH.2.2.2) (fun b hk => Nat.le_trans B5.out (OX.lt b hk).1)⟩) fun hH => ?_
      clear hK K; have r5 := (hg.block _ (oZ (rZ k4 R3D.out)) (Ne.symm (own_neP OX (rZ k4 R3D.out) (by decide)))).trans (rZ k4 R3D.out); have o6 := sG (oK OFD.out k4) (fun b e => (hg.block b ((oK OFD.out k4).lt b e).2 (fun e2 => aQ (oK OFD.out k4) OX (by decide) b e e2.symm))); clear hg hb P2 OX; refine tkP 8 ?_
      go_simp; refine rdW 9 fun K hK => ?_
      obtain ⟨s0, s1, s2⟩ := cellsR3 r5; have fz5 := frozN r5; go_simp; refine hK.out _ _ (⟨(bS _ _ _ _ (show w.heap.size + 1 ≠ w6.heap.size by have := B52.out; have := B6.out; omega)).trans hH.1, (bS _ _ _ _ (show w5.heap.size ≠ w6.heap.size by have := B6.out; omega)).trans hH.2.1, (bS _ _ _ _ (show w.heap.size + 1 + 1 ≠ w6.heap.size by have := B52.out; have := B6.out; omega)).trans hH.2.2.1, Below.setCell hH.2.2.2 (show w.heap.size ≤ w6.heap.size by have := B5.out; have := B6.out; omega) _⟩) fun hH => ?_
      clear hK K; refine dnW ?_ _
      have O5' := hD o5; have RR5 := hD r5; clear o5; have O6' := hD o6; clear o6; have KZ := hD hH; clear r5; go_wp2_with fail
      go_meet
      case rel => exact ⟨KZ.out.1, KZ.out.2.2.1, ⟨_, _, _, _, _, _, (Joins.block_setCell RR5.out _).trans rfl, HLA.out, by rw [List.length_append, HLM.out]; rfl, sG O6'.out (fun b e => bS _ _ _ _ (fun e2 => own_neP O6'.out RR5.out (by decide) ((show b = w6.heap.size from e2) ▸ e))), bG (sG O5'.out (fun b e => bS _ _ _ _ (fun e2 => own_neP O5'.out RR5.out (by decide) ((show b = w6.heap.size from e2) ▸ e)))) B5.out⟩, KZ.out.2.2.2⟩
     ·go_simp; refine hK.out _ _ (⟨rZ (kA _ _) hH.1, rZ (kA _ _) hH.2.1, rZ (kA _ _) hH.2.2.1, kT hH.2.2.2 (kA _ _)⟩) fun hH => ?_
      clear hK K; have o4 := own_oneM (w := W3) (B := W3.heap.size) (⟨19, gt, gf, gn, gs, gr, gp, 0, ef⟩ : MM) (Nat.le_refl _); obtain ⟨W4, hW4⟩ : ∃ x, W3.alloc (.cells #[(19:Int), gt, gf, gn, gs, gr, gp, (0:Int), ef] 26) = x := ⟨_, rfl⟩
      have c4 : Kp W3 W4 := by rw [← hW4]; exact kA _ _
      dsimp only [FX.cells, MM.cells] at o4; rw [hW4] at o4; obtain ⟨p4, hp4⟩ : ∃ x, W3.heap.size = x := ⟨_, rfl⟩
      have k4 := kT k3 c4; rw [hp4] at o4; rw [hW4] at hH ⊢
      try rw [hp4]
      clear hW4 hp4 c4; refine rdW 1 fun K hK => ?_
      have gl := kZ k4 HC3.out; go_simp; refine hK.out _ _ (hH) fun hH => ?_
      clear hK K; refine wpAnyH_ready (rs := [7]) (by kernel_rfl) (by simp) ?_
      refine AllReadyH.consLG rfl (fun K hK => ?_) aN0
      have P2 := qG (E := mmE) (by decide) o4; have OX := oK OSD.out k4; go_simp; refine aG (E := mmE) ty_mm (by decide) _ rfl _ _ rfl w5.heap.size _ _ S2 rfl OX _ _ rfl P2 ?f3 ?f4 ?_
      case f3 => (have := HM2.out; simp; omega)
      case f4 => have := kS k4; have := HB8.out; omega
      rintro v5 W5 o5 hg hb; obtain ⟨a5, c5, rfl⟩ := fG o5; refine hK.out _ _ (⟨(hg.block _ (oZ hH.1) (fun e => by have := (OX.lt _ e.symm).1; have := B52.out; omega)).trans hH.1, (hg.block _ (oZ hH.2.1) (Ne.symm (own_neP OX hH.2.1 (by decide)))).trans hH.2.1, (hg.block _ (oZ hH.2.2.1) (Ne.symm (own_neP OX hH.2.2.1 (by decide)))).trans hH.2.2.1, Below.grown hH.2.2.2 hg (kS hH.2.2.2) (fun b hk => Nat.le_trans B5.out (OX.lt b hk).1)⟩) fun hH => ?_
      clear hK K; have r5 := (hg.block _ (oZ (rZ k4 R3D.out)) (Ne.symm (own_neP OX (rZ k4 R3D.out) (by decide)))).trans (rZ k4 R3D.out); have o6 := sG (oK OFD.out k4) (fun b e => (hg.block b ((oK OFD.out k4).lt b e).2 (fun e2 => aQ (oK OFD.out k4) OX (by decide) b e e2.symm))); clear hg hb P2 OX; refine tkP 8 ?_
      go_simp; refine rdW 9 fun K hK => ?_
      obtain ⟨s0, s1, s2⟩ := cellsR3 r5; have fz5 := frozN r5; go_simp; refine hK.out _ _ (⟨(bS _ _ _ _ (show w.heap.size + 1 ≠ w6.heap.size by have := B52.out; have := B6.out; omega)).trans hH.1, (bS _ _ _ _ (show w5.heap.size ≠ w6.heap.size by have := B6.out; omega)).trans hH.2.1, (bS _ _ _ _ (show w.heap.size + 1 + 1 ≠ w6.heap.size by have := B52.out; have := B6.out; omega)).trans hH.2.2.1, Below.setCell hH.2.2.2 (show w.heap.size ≤ w6.heap.size by have := B5.out; have := B6.out; omega) _⟩) fun hH => ?_
      clear hK K; refine dnW ?_ _
      have O5' := hD o5; have RR5 := hD r5; clear o5; have O6' := hD o6; clear o6; have KZ := hD hH; clear r5; go_wp2_with fail
      go_meet
      case rel => exact ⟨KZ.out.1, KZ.out.2.2.1, ⟨_, _, _, _, _, _, (Joins.block_setCell RR5.out _).trans rfl, HLA.out, by rw [List.length_append, HLM.out]; rfl, sG O6'.out (fun b e => bS _ _ _ _ (fun e2 => own_neP O6'.out RR5.out (by decide) ((show b = w6.heap.size from e2) ▸ e))), bG (sG O5'.out (fun b e => bS _ _ _ _ (fun e2 => own_neP O5'.out RR5.out (by decide) ((show b = w6.heap.size from e2) ▸ e)))) B5.out⟩, KZ.out.2.2.2⟩
  case rest =>
   obtain ⟨r1, r2, ⟨qa, qn, qc, qd, qm, qe, r3, hnf, hnm, of, om⟩, kc⟩ := hcut; dsimp only at r3 hnf hnm of om; obtain ⟨HQN, HQM⟩ := hD2 hnf hnm; obtain ⟨j0, j1, j2⟩ := cellsR3 r3; obtain ⟨u0, u1', u2⟩ := cellsR3 r2; have fz := frozN r2; obtain ⟨R2, K4, OF, OM⟩ := hD4 r2 kc of om; clear r1 r2 r3 kc of om hnf hnm; go_wp2; refine bodyPost_ret (results_cell_row (p := 4) rfl _ _ (w.heap.size + 1 + 1) 34 _ (0, 0) _ rfl (setR3 _ _ _ R2.out) Tryz.underlying34 rfl (by kernel_rfl)) rfl ?_
   exact ⟨_, rfl, RsV.setN (r := ⟨FS ++ F2, S2 ++ S3, ew⟩) R2.out (by decide) (by decide) HQN.out HQM.out OF.out OM.out, setR3_kp K4.out (show w.heap.size ≤ w.heap.size + 1 + 1 by omega) _ _ _⟩
end Go.Proofs.YtncoofnhifcnhaaGreatDoor
