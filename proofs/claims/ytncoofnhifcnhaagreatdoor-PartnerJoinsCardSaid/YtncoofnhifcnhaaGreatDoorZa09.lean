/- Parts of this proof (own work). -/
import Derived.Test.YtncoofnhifcnhaaGreatDoorZa08
import Derived.Deep.Cut
import Derived.Laws.Bits64b
import Derived.Test.YtncoofnhifcnhaaGreatDoorLen
import Derived.Lib.ItoaNum
import Derived.Lib.SlBytesConst
import Derived.Deep.RegionWith
import Derived.Laws.Strings
set_option maxRecDepth 100000
set_option maxHeartbeats 40000000
namespace Go.Proofs.YtncoofnhifcnhaaGreatDoor
open Go.RowKit Go.ChangeShapes Go.WideShapes
variable {w0 w w' W w3 : World} {ads : List Addr}
theorem kAnswer (g : MM) (k c : Int) : Calls Tryz.prog 32 #[.agg g.cells, .int .i64 k, .int .i64 c] w fun r w' => ∃ v, r = .returned v ∧ RsV 73 w.heap.size ⟨[], [answerM g k c], 0⟩ v w' ∧ Kp w w' := by
 have HA := hD (fun w => answer_any g k c w); obtain ⟨gk, gf, gt, gn, gs, gr, gp, go, gc⟩ := g; dsimp only [MM.cells, answerM] at HA ⊢; have r0 := hD (nX0 w (.cells #[gk, gf, gt, gn, gs, gr, gp, go, gc] 26) (.cells #[.slice none 0 0, .slice none 0 0, (0:Int)] 34)); have r1 := hD (nX1 w (.cells #[gk, gf, gt, gn, gs, gr, gp, go, gc] 26) (.cells #[.slice none 0 0, .slice none 0 0, (0:Int)] 34)); have K2 := hD (pk2 w (.cells #[gk, gf, gt, gn, gs, gr, gp, go, gc] 26) (.cells #[.slice none 0 0, .slice none 0 0, (0:Int)] 34)); obtain ⟨a0, a1, a2, a3, a4, a5, a6, a7, a8⟩ := cells9 r0.out; go_enter Tryz.func32, Tryz.ntmps32; go_wp2_with (go_at_call 78; (with_reducible refine (HA.out _).mono ?_); rintro e' w3 ⟨rfl, hk3⟩; have kz := kT hk3 (kA w3 (.cells #[k, gt, gf, gn, gs, gr, gp, (0:Int), c] 26)); have K3 := hD (kT K2.out kz); have R1 := hD (rZ kz r1.out); have OM := hD (own_oneM (w := w3) (B := w.heap.size) (⟨k, gt, gf, gn, gs, gr, gp, 0, c⟩ : MM) (kS (kT K2.out hk3))); obtain ⟨d0, d1, d2⟩ := cellsR3 R1.out; have f1 := frozN R1.out; clear hk3 kz)
 refine bodyPost_ret (results_cell_row (p := 6) rfl _ _ (w.heap.size + 1) 34 _ (0, 0) _ rfl (setR3 (.slice none 0 0) (.slice (some ⟨w3.heap.size, 0, none⟩) 1 1) (.int .i64 0) R1.out) Tryz.underlying34 rfl (by kernel_rfl)) rfl ?_
 exact ⟨_, rfl, RsV.set R1.out (by decide) (by decide) own_no OM.out, setR3_kp K3.out (by simp) _ _ _⟩
def RwB (w : World) (K E Z : Obj) (r : RsM) (w' : World) : Prop := w'.heap[w.heap.size]? = some K ∧ w'.heap[w.heap.size + 1]? = some E ∧ w'.heap[w.heap.size + 1 + 1]? = some Z ∧ ResB 34 73 w.heap.size (w.heap.size + 1 + 1 + 1) r w' ∧ Kp w w'
theorem kResult (xn xs xr y1 y2 y3 y4 nd i : Int) (e1 e2 e3 e4 es ef ew : Int) (ec : Bool) (rg : Int) : Calls Tryz.prog 45 #[.agg #[xn, xs, xr, y1, y2, y3, y4, nd, i], .agg #[e1, e2, e3, e4, es, ef, ew, .bool ec], .int .i64 rg] w fun r w' => ∃ v, r = .returned v ∧ RsV 73 w.heap.size ⟨(if ec = true then [(⟨8, 0, 0, 0, 0, i, 0, 0, 0, 0, e3, e4, 0, 0⟩ : FX)] else []), (if es ≠ 0 then [(⟨es, nd, xn, xn, xs, rg, i, 0, 0⟩ : MM)] else []), ew⟩ v w' ∧ Kp w w' := by
 have HT := hD (fun w => kTurns (w := w) xn xs xr y1 y2 y3 y4 nd i e1 e2 e3 e4); have HM := hD (fun w => kMessage (w := w) xn xs xr y1 y2 y3 y4 nd i es rg); obtain ⟨FS, hFS⟩ : ∃ x, (if ec = true then [(⟨8, 0, 0, 0, 0, i, 0, 0, 0, 0, e3, e4, 0, 0⟩ : FX)] else []) = x := ⟨_, rfl⟩
 obtain ⟨MS, hMS⟩ : ∃ x, (if es ≠ 0 then [(⟨es, nd, xn, xn, xs, rg, i, 0, 0⟩ : MM)] else []) = x := ⟨_, rfl⟩
 rw [hFS, hMS]; obtain ⟨HFS, HMS⟩ := hD2 hFS hMS; have k4 : Kp w ((((w.alloc (.cells #[xn, xs, xr, y1, y2, y3, y4, nd, i] 84)).alloc (.cells #[e1, e2, e3, e4, es, ef, ew, .bool ec] 103)).alloc (.cells #[.slice none 0 0, .slice none 0 0, (0:Int)] 34)).alloc (.cells #[.slice none 0 0, .slice none 0 0, ew] 34)) := kT (pk3 w (.cells #[xn, xs, xr, y1, y2, y3, y4, nd, i] 84) (.cells #[e1, e2, e3, e4, es, ef, ew, .bool ec] 103) (.cells #[.slice none 0 0, .slice none 0 0, (0:Int)] 34)) (kA _ _); have r0 : ((((w.alloc (.cells #[xn, xs, xr, y1, y2, y3, y4, nd, i] 84)).alloc (.cells #[e1, e2, e3, e4, es, ef, ew, .bool ec] 103)).alloc (.cells #[.slice none 0 0, .slice none 0 0, (0:Int)] 34)).alloc (.cells #[.slice none 0 0, .slice none 0 0, ew] 34)).heap[w.heap.size]? = some (.cells #[xn, xs, xr, y1, y2, y3, y4, nd, i] 84) := rZ (kA _ _) (p3_0 w _ _ _); have r1 : ((((w.alloc (.cells #[xn, xs, xr, y1, y2, y3, y4, nd, i] 84)).alloc (.cells #[e1, e2, e3, e4, es, ef, ew, .bool ec] 103)).alloc (.cells #[.slice none 0 0, .slice none 0 0, (0:Int)] 34)).alloc (.cells #[.slice none 0 0, .slice none 0 0, ew] 34)).heap[w.heap.size + 1]? = some (.cells #[e1, e2, e3, e4, es, ef, ew, .bool ec] 103) := rZ (kA _ _) (p3_1 w _ _ _)
 have r2 : ((((w.alloc (.cells #[xn, xs, xr, y1, y2, y3, y4, nd, i] 84)).alloc (.cells #[e1, e2, e3, e4, es, ef, ew, .bool ec] 103)).alloc (.cells #[.slice none 0 0, .slice none 0 0, (0:Int)] 34)).alloc (.cells #[.slice none 0 0, .slice none 0 0, ew] 34)).heap[w.heap.size + 1 + 1]? = some (.cells #[.slice none 0 0, .slice none 0 0, (0:Int)] 34) := rZ (kA _ _) (p3_2 w _ _ _); have r3 : ((((w.alloc (.cells #[xn, xs, xr, y1, y2, y3, y4, nd, i] 84)).alloc (.cells #[e1, e2, e3, e4, es, ef, ew, .bool ec] 103)).alloc (.cells #[.slice none 0 0, .slice none 0 0, (0:Int)] 34)).alloc (.cells #[.slice none 0 0, .slice none 0 0, ew] 34)).heap[w.heap.size + 1 + 1 + 1]? = some (.cells #[.slice none 0 0, .slice none 0 0, ew] 34) := by
  have := (mH (((w.alloc (.cells #[xn, xs, xr, y1, y2, y3, y4, nd, i] 84)).alloc (.cells #[e1, e2, e3, e4, es, ef, ew, .bool ec] 103)).alloc (.cells #[.slice none 0 0, .slice none 0 0, (0:Int)] 34)) (.cells #[.slice none 0 0, .slice none 0 0, ew] 34))
  rwa [show (((w.alloc (.cells #[xn, xs, xr, y1, y2, y3, y4, nd, i] 84)).alloc (.cells #[e1, e2, e3, e4, es, ef, ew, .bool ec] 103)).alloc (.cells #[.slice none 0 0, .slice none 0 0, (0:Int)] 34)).heap.size = w.heap.size + 1 + 1 + 1 by simp] at this
 obtain ⟨i0, i1, i2, i3, i4, i5, i6, i7⟩ := c8X (p3_1 w (.cells #[xn, xs, xr, y1, y2, y3, y4, nd, i] 84) (.cells #[e1, e2, e3, e4, es, ef, ew, .bool ec] 103) (.cells #[.slice none 0 0, .slice none 0 0, (0:Int)] 34)); obtain ⟨j0, j1, j2, j3, j4, j5, j6, j7⟩ := c8X r1; obtain ⟨K4, R0, R1, R2, R3⟩ := hD5 k4 r0 r1 r2 r3; clear k4 r0 r1 r2 r3 hFS hMS; go_enter Tryz.func45, Tryz.ntmps45; go_upto_if 12 with fail
 go_cut [] from 8 (fun w' => RwB w (.cells #[xn, xs, xr, y1, y2, y3, y4, nd, i] 84) (.cells #[e1, e2, e3, e4, es, ef, ew, .bool ec] 103) (.cells #[.slice none 0 0, .slice none 0 0, (0:Int)] 34) ⟨FS, [], ew⟩ w')
 case first =>
  cases ec
  ·have hE : FS = [] := HFS.out.symm; subst hE; clear HFS; go_wp2_with fail
   go_meet
   case rel => exact ⟨R0.out, R1.out, R2.out, ⟨_, _, _, _, _, _, R3.out, rfl, rfl, own_no, own_no⟩, K4.out⟩
  ·have hE : FS = [(⟨8, 0, 0, 0, 0, i, 0, 0, 0, 0, e3, e4, 0, 0⟩ : FX)] := HFS.out.symm; subst hE; clear HFS; go_wp2_with fail
   obtain ⟨WD, hWD⟩ : ∃ x, (((((w.alloc (.cells #[xn, xs, xr, y1, y2, y3, y4, nd, i] 84)).alloc (.cells #[e1, e2, e3, e4, es, ef, ew, .bool true] 103)).alloc (.cells #[.slice none 0 0, .slice none 0 0, (0:Int)] 34)).alloc (.cells #[.slice none 0 0, .slice none 0 0, ew] 34))).drew = x := ⟨_, rfl⟩
   have kD : Kp (((((w.alloc (.cells #[xn, xs, xr, y1, y2, y3, y4, nd, i] 84)).alloc (.cells #[e1, e2, e3, e4, es, ef, ew, .bool true] 103)).alloc (.cells #[.slice none 0 0, .slice none 0 0, (0:Int)] 34)).alloc (.cells #[.slice none 0 0, .slice none 0 0, ew] 34))) WD := by rw [← hWD]; exact dQ (Kp.refl _)
   have HWD := hD hWD; have kDD := Kp.refl WD; clear hWD; have R3D := hD (rZ kD R3.out); have HC3 := hD (cellsR3 R3D.out).1; refine rgW (fun w' => w'.heap[w.heap.size]? = some (.cells #[xn, xs, xr, y1, y2, y3, y4, nd, i] 84) ∧ w'.heap[(w.heap.size + 1)]? = some (.cells #[e1, e2, e3, e4, es, ef, ew, .bool true] 103) ∧ w'.heap[(w.heap.size + 1 + 1)]? = some (.cells #[.slice none 0 0, .slice none 0 0, (0:Int)] 34) ∧ Kp w w') ?_ fun hH => ?_
   ·exact by rw [HWD.out]; exact ⟨rZ kD R0.out, rZ kD R1.out, rZ kD R2.out, kT K4.out kD⟩
   rw [HWD.out] at hH ⊢; refine tkP 0 ?_
   go_simp; refine tkP 2 ?_ (y := by intro w hZ; obtain ⟨y0, y1, y2, y3, y4, y5, y6, y7, y8⟩ := cells9 hZ.1; go_simp; try rfl)
   go_simp; refine tkP 3 ?_
   go_simp; refine tkP 4 ?_ (y := by intro w hZ; obtain ⟨z0, z1, z2, z3, z4, z5, z6, z7⟩ := c8X hZ.2.1; go_simp; try rfl)
   go_simp; refine wpAnyH_ready (rs := [1, 5]) (by kernel_rfl) (by simp) ?_
   refine aC (fun K hK => ?_) (aC (fun K hK => ?_) aN0)
   ·have gl := kZ kDD HC3.out; go_simp; refine hK.out _ _ (hH) fun hH => ?_
    clear hK K; refine rdW 5 fun K hK => ?_
    go_simp; go_wp2_with (go_at_call 79; (with_reducible refine (HT.out _).mono ?_); rintro e' W3 ⟨rfl, hk3⟩)
    refine hK.out _ _ (⟨rZ hk3 hH.1, rZ hk3 hH.2.1, rZ hk3 hH.2.2.1, kT hH.2.2.2 hk3⟩) fun hH => ?_
    clear hK K; have k3 := kT kDD hk3; refine rdW 6 fun K hK => ?_
    go_simp; refine hK.out _ _ (⟨rZ (kA _ _) hH.1, rZ (kA _ _) hH.2.1, rZ (kA _ _) hH.2.2.1, kT hH.2.2.2 (kA _ _)⟩) fun hH => ?_
    clear hK K; have o4 := own_oneF (t := 73) (w := W3) (B := W3.heap.size) (⟨8, 0, 0, 0, 0, i, 0, 0, 0, 0, e3, e4, 0, 0⟩ : FX) (Nat.le_refl _); obtain ⟨W4, hW4⟩ : ∃ x, W3.alloc (.cells #[(8:Int), (0:Int), (0:Int), (0:Int), (0:Int), i, (0:Int), (0:Int), (0:Int), (0:Int), e3, e4, (0:Int), .float .f64 0] 73) = x := ⟨_, rfl⟩
    have c4 : Kp W3 W4 := by rw [← hW4]; exact kA _ _
    dsimp only [FX.cells, MM.cells] at o4; rw [hW4] at o4; obtain ⟨p4, hp4⟩ : ∃ x, W3.heap.size = x := ⟨_, rfl⟩
    have k4 := kT k3 c4; rw [hp4] at o4; rw [hW4] at hH ⊢
    try rw [hp4]
    clear hW4 hp4 c4; refine wpAnyH_ready (rs := [7]) (by kernel_rfl) (by simp) ?_
    refine AllReadyH.consLG rfl (fun K hK => ?_) aN0
    have P2 := qG (E := fcE) (by decide) o4; have OX := oK (own_no (w := WD) (B := w.heap.size) (k := 14) (t := 73)) k4; go_simp; refine aG (E := fcE) ty_fcL (by decide) _ rfl _ _ rfl w.heap.size _ _ [] rfl OX _ _ rfl P2 ?f3 ?f4 ?_
    case f3 => (first | decide | (simp; done) | (simp; omega))
    case f4 => exact kS hH.2.2.2
    rintro v5 W5 o5 hg hb; obtain ⟨a5, c5, rfl⟩ := fG o5; refine hK.out _ _ (⟨(hg.block _ (oZ hH.1) (Ne.symm (own_neP OX hH.1 (by decide)))).trans hH.1, (hg.block _ (oZ hH.2.1) (Ne.symm (own_neP OX hH.2.1 (by decide)))).trans hH.2.1, (hg.block _ (oZ hH.2.2.1) (Ne.symm (own_neP OX hH.2.2.1 (by decide)))).trans hH.2.2.1, Below.grown hH.2.2.2 hg (kS hH.2.2.2) (fun b hk => (OX.lt b hk).1)⟩) fun hH => ?_
    clear hK K; have r5 := (hg.block _ (oZ (rZ k4 R3D.out)) (Ne.symm (own_neP OX (rZ k4 R3D.out) (by decide)))).trans (rZ k4 R3D.out); clear hg hb P2 OX; refine tkP 8 ?_
    go_simp; refine rdW 9 fun K hK => ?_
    obtain ⟨s0, s1, s2⟩ := cellsR3 r5; have fz5 := frozN r5; go_simp; refine hK.out _ _ (⟨(bS _ _ _ _ (show w.heap.size ≠ w.heap.size + 1 + 1 + 1 by omega)).trans hH.1, (bS _ _ _ _ (show (w.heap.size + 1) ≠ w.heap.size + 1 + 1 + 1 by omega)).trans hH.2.1, (bS _ _ _ _ (show (w.heap.size + 1 + 1) ≠ w.heap.size + 1 + 1 + 1 by omega)).trans hH.2.2.1, Below.setCell hH.2.2.2 (show w.heap.size ≤ w.heap.size + 1 + 1 + 1 by omega) _⟩) fun hH => ?_
    clear hK K; refine dnW ?_ _
    obtain ⟨O5, RR5⟩ := hD2 o5 r5; clear o5; have KZ := hD hH; clear r5; go_wp2_with fail
    go_meet
    case rel => exact ⟨KZ.out.1, KZ.out.2.1, KZ.out.2.2.1, ⟨_, _, _, _, _, _, (Joins.block_setCell RR5.out _).trans rfl, rfl, rfl, sG O5.out (fun b e => bS _ _ _ _ (fun e2 => own_neP O5.out RR5.out (by decide) ((show b = w.heap.size + 1 + 1 + 1 from e2) ▸ e))), own_no⟩, KZ.out.2.2.2⟩
   ·go_simp; go_wp2_with (go_at_call 79; (with_reducible refine (HT.out _).mono ?_); rintro e' W3 ⟨rfl, hk3⟩)
    refine hK.out _ _ (⟨rZ hk3 hH.1, rZ hk3 hH.2.1, rZ hk3 hH.2.2.1, kT hH.2.2.2 hk3⟩) fun hH => ?_
    clear hK K; have k3 := kT kDD hk3; refine wpAnyH_ready (rs := [1, 6]) (by kernel_rfl) (by simp) ?_
    refine aC (fun K hK => ?_) (aC (fun K hK => ?_) aN0)
    ·have gl := kZ k3 HC3.out; go_simp; refine hK.out _ _ (hH) fun hH => ?_
     clear hK K; refine rdW 6 fun K hK => ?_
     go_simp; refine hK.out _ _ (⟨rZ (kA _ _) hH.1, rZ (kA _ _) hH.2.1, rZ (kA _ _) hH.2.2.1, kT hH.2.2.2 (kA _ _)⟩) fun hH => ?_
     clear hK K; have o4 := own_oneF (t := 73) (w := W3) (B := W3.heap.size) (⟨8, 0, 0, 0, 0, i, 0, 0, 0, 0, e3, e4, 0, 0⟩ : FX) (Nat.le_refl _); obtain ⟨W4, hW4⟩ : ∃ x, W3.alloc (.cells #[(8:Int), (0:Int), (0:Int), (0:Int), (0:Int), i, (0:Int), (0:Int), (0:Int), (0:Int), e3, e4, (0:Int), .float .f64 0] 73) = x := ⟨_, rfl⟩
     have c4 : Kp W3 W4 := by rw [← hW4]; exact kA _ _
     dsimp only [FX.cells, MM.cells] at o4; rw [hW4] at o4; obtain ⟨p4, hp4⟩ : ∃ x, W3.heap.size = x := ⟨_, rfl⟩
     have k4 := kT k3 c4; rw [hp4] at o4; rw [hW4] at hH ⊢
     try rw [hp4]
     clear hW4 hp4 c4; refine wpAnyH_ready (rs := [7]) (by kernel_rfl) (by simp) ?_
     refine AllReadyH.consLG rfl (fun K hK => ?_) aN0
     have P2 := qG (E := fcE) (by decide) o4; have OX := oK (own_no (w := WD) (B := w.heap.size) (k := 14) (t := 73)) k4; go_simp; refine aG (E := fcE) ty_fcL (by decide) _ rfl _ _ rfl w.heap.size _ _ [] rfl OX _ _ rfl P2 ?f3 ?f4 ?_
     case f3 => (first | decide | (simp; done) | (simp; omega))
     case f4 => exact kS hH.2.2.2
     rintro v5 W5 o5 hg hb; obtain ⟨a5, c5, rfl⟩ := fG o5; refine hK.out _ _ (⟨(hg.block _ (oZ hH.1) (Ne.symm (own_neP OX hH.1 (by decide)))).trans hH.1, (hg.block _ (oZ hH.2.1) (Ne.symm (own_neP OX hH.2.1 (by decide)))).trans hH.2.1, (hg.block _ (oZ hH.2.2.1) (Ne.symm (own_neP OX hH.2.2.1 (by decide)))).trans hH.2.2.1, Below.grown hH.2.2.2 hg (kS hH.2.2.2) (fun b hk => (OX.lt b hk).1)⟩) fun hH => ?_
     clear hK K; have r5 := (hg.block _ (oZ (rZ k4 R3D.out)) (Ne.symm (own_neP OX (rZ k4 R3D.out) (by decide)))).trans (rZ k4 R3D.out); clear hg hb P2 OX; refine tkP 8 ?_
     go_simp; refine rdW 9 fun K hK => ?_
     obtain ⟨s0, s1, s2⟩ := cellsR3 r5; have fz5 := frozN r5; go_simp; refine hK.out _ _ (⟨(bS _ _ _ _ (show w.heap.size ≠ w.heap.size + 1 + 1 + 1 by omega)).trans hH.1, (bS _ _ _ _ (show (w.heap.size + 1) ≠ w.heap.size + 1 + 1 + 1 by omega)).trans hH.2.1, (bS _ _ _ _ (show (w.heap.size + 1 + 1) ≠ w.heap.size + 1 + 1 + 1 by omega)).trans hH.2.2.1, Below.setCell hH.2.2.2 (show w.heap.size ≤ w.heap.size + 1 + 1 + 1 by omega) _⟩) fun hH => ?_
     clear hK K; refine dnW ?_ _
     obtain ⟨O5, RR5⟩ := hD2 o5 r5; clear o5; have KZ := hD hH; clear r5; go_wp2_with fail
     go_meet
     case rel => exact ⟨KZ.out.1, KZ.out.2.1, KZ.out.2.2.1, ⟨_, _, _, _, _, _, (Joins.block_setCell RR5.out _).trans rfl, rfl, rfl, sG O5.out (fun b e => bS _ _ _ _ (fun e2 => own_neP O5.out RR5.out (by decide) ((show b = w.heap.size + 1 + 1 + 1 from e2) ▸ e))), own_no⟩, KZ.out.2.2.2⟩
    ·go_simp; refine hK.out _ _ (⟨rZ (kA _ _) hH.1, rZ (kA _ _) hH.2.1, rZ (kA _ _) hH.2.2.1, kT hH.2.2.2 (kA _ _)⟩) fun hH => ?_
     clear hK K; have o4 := own_oneF (t := 73) (w := W3) (B := W3.heap.size) (⟨8, 0, 0, 0, 0, i, 0, 0, 0, 0, e3, e4, 0, 0⟩ : FX) (Nat.le_refl _); obtain ⟨W4, hW4⟩ : ∃ x, W3.alloc (.cells #[(8:Int), (0:Int), (0:Int), (0:Int), (0:Int), i, (0:Int), (0:Int), (0:Int), (0:Int), e3, e4, (0:Int), .float .f64 0] 73) = x := ⟨_, rfl⟩
     have c4 : Kp W3 W4 := by rw [← hW4]; exact kA _ _
     dsimp only [FX.cells, MM.cells] at o4; rw [hW4] at o4; obtain ⟨p4, hp4⟩ : ∃ x, W3.heap.size = x := ⟨_, rfl⟩
     have k4 := kT k3 c4; rw [hp4] at o4; rw [hW4] at hH ⊢
     try rw [hp4]
     clear hW4 hp4 c4; refine rdW 1 fun K hK => ?_
     have gl := kZ k4 HC3.out; go_simp; refine hK.out _ _ (hH) fun hH => ?_
     clear hK K; refine wpAnyH_ready (rs := [7]) (by kernel_rfl) (by simp) ?_
     refine AllReadyH.consLG rfl (fun K hK => ?_) aN0
     have P2 := qG (E := fcE) (by decide) o4; have OX := oK (own_no (w := WD) (B := w.heap.size) (k := 14) (t := 73)) k4; go_simp; refine aG (E := fcE) ty_fcL (by decide) _ rfl _ _ rfl w.heap.size _ _ [] rfl OX _ _ rfl P2 ?f3 ?f4 ?_
     case f3 => (first | decide | (simp; done) | (simp; omega))
     case f4 => exact kS hH.2.2.2
     rintro v5 W5 o5 hg hb; obtain ⟨a5, c5, rfl⟩ := fG o5; refine hK.out _ _ (⟨(hg.block _ (oZ hH.1) (Ne.symm (own_neP OX hH.1 (by decide)))).trans hH.1, (hg.block _ (oZ hH.2.1) (Ne.symm (own_neP OX hH.2.1 (by decide)))).trans hH.2.1, (hg.block _ (oZ hH.2.2.1) (Ne.symm (own_neP OX hH.2.2.1 (by decide)))).trans hH.2.2.1, Below.grown hH.2.2.2 hg (kS hH.2.2.2) (fun b hk => (OX.lt b hk).1)⟩) fun hH => ?_
     clear hK K; have r5 := (hg.block _ (oZ (rZ k4 R3D.out)) (Ne.symm (own_neP OX (rZ k4 R3D.out) (by decide)))).trans (rZ k4 R3D.out); clear hg hb P2 OX; refine tkP 8 ?_
     go_simp; refine rdW 9 fun K hK => ?_
     obtain ⟨s0, s1, s2⟩ := cellsR3 r5; have fz5 := frozN r5; go_simp; refine hK.out _ _ (⟨(bS _ _ _ _ (show w.heap.size ≠ w.heap.size + 1 + 1 + 1 by omega)).trans hH.1, (bS _ _ _ _ (show (w.heap.size + 1) ≠ w.heap.size + 1 + 1 + 1 by omega)).trans hH.2.1, (bS _ _ _ _ (show (w.heap.size + 1 + 1) ≠ w.heap.size + 1 + 1 + 1 by omega)).trans hH.2.2.1, Below.setCell hH.2.2.2 (show w.heap.size ≤ w.heap.size + 1 + 1 + 1 by omega) _⟩) fun hH => ?_
     clear hK K; refine dnW ?_ _
     obtain ⟨O5, RR5⟩ := hD2 o5 r5; clear o5; have KZ := hD hH; clear r5; go_wp2_with fail
     go_meet
     case rel => exact ⟨KZ.out.1, KZ.out.2.1, KZ.out.2.2.1, ⟨_, _, _, _, _, _, (Joins.block_setCell RR5.out _).trans rfl, rfl, rfl, sG O5.out (fun b e => bS _ _ _ _ (fun e2 => own_neP O5.out RR5.out (by decide) ((show b = w.heap.size + 1 + 1 + 1 from e2) ▸ e))), own_no⟩, KZ.out.2.2.2⟩
 case rest =>
  clear j0 j1 j2 j3 j4 j5 j6 j7; obtain ⟨r0, r1, r2, ⟨fa, fn, fc, ma, mn, mc, r3, hnf, hnm, of, om⟩, kc⟩ := hcut; dsimp only at r3 hnf hnm of om; have hm0 : mn = 0 := hnm.symm; subst hm0; obtain ⟨j0, j1, j2, j3, j4, j5, j6, j7⟩ := c8X r1; obtain ⟨R0, R1, R2, R3, K4, OF, OM, HNF⟩ := hD8 r0 r1 r2 r3 kc of om hnf; clear r0 r1 r2 r3 kc of om hnf hnm HFS; go_upto_if 24 with fail
  go_cut [] from 8 (fun w' => RwB w (.cells #[xn, xs, xr, y1, y2, y3, y4, nd, i] 84) (.cells #[e1, e2, e3, e4, es, ef, ew, .bool ec] 103) (.cells #[.slice none 0 0, .slice none 0 0, (0:Int)] 34) ⟨FS, MS, ew⟩ w')
  case first =>
   by_cases h : es = 0
   ·have g1 : (es != 0) = false := by simp [h]
    have hE : MS = [] := by have := HMS.out; rw [if_neg (by simpa using h)] at this; exact this.symm
    subst hE; clear h HMS; go_wp2_with fail
    go_meet
    case rel => exact ⟨R0.out, R1.out, R2.out, ⟨_, _, _, _, _, _, R3.out, HNF.out, rfl, OF.out, OM.out⟩, K4.out⟩
   ·have g1 : (es != 0) = true := by simp [h]
    have hE : MS = [(⟨es, nd, xn, xn, xs, rg, i, 0, 0⟩ : MM)] := by have := HMS.out; rw [if_pos h] at this; exact this.symm
    subst hE; clear h HMS; go_wp2_with fail
    obtain ⟨WD, hWD⟩ : ∃ x, (wc).drew = x := ⟨_, rfl⟩
    have kD : Kp (wc) WD := by rw [← hWD]; exact dQ (Kp.refl _)
    have HWD := hD hWD; have kDD := Kp.refl WD; clear hWD; have R3D := hD (rZ kD R3.out); have HC3 := hD (cellsR3 R3D.out).2.1; have OFD := hD (oK OF.out kD); have OSD := hD (oK OM.out kD); refine rgW (fun w' => w'.heap[w.heap.size]? = some (.cells #[xn, xs, xr, y1, y2, y3, y4, nd, i] 84) ∧ w'.heap[(w.heap.size + 1)]? = some (.cells #[e1, e2, e3, e4, es, ef, ew, .bool ec] 103) ∧ w'.heap[(w.heap.size + 1 + 1)]? = some (.cells #[.slice none 0 0, .slice none 0 0, (0:Int)] 34) ∧ Kp w w') ?_ fun hH => ?_
    ·exact by rw [HWD.out]; exact ⟨rZ kD R0.out, rZ kD R1.out, rZ kD R2.out, kT K4.out kD⟩
    rw [HWD.out] at hH ⊢; refine tkP 0 ?_
    go_simp; refine tkP 2 ?_ (y := by intro w hZ; obtain ⟨y0, y1, y2, y3, y4, y5, y6, y7, y8⟩ := cells9 hZ.1; go_simp; try rfl)
    go_simp; refine tkP 3 ?_
    go_simp; refine tkP 4 ?_ (y := by intro w hZ; obtain ⟨z0, z1, z2, z3, z4, z5, z6, z7⟩ := c8X hZ.2.1; go_simp; try rfl)
    go_simp; refine tkP 5 ?_
    go_simp; refine wpAnyH_ready (rs := [1, 6]) (by kernel_rfl) (by simp) ?_
    refine aC (fun K hK => ?_) (aC (fun K hK => ?_) aN0)
    ·have gl := kZ kDD HC3.out; go_simp; refine hK.out _ _ (hH) fun hH => ?_
     clear hK K; refine rdW 6 fun K hK => ?_
     go_simp; go_wp2_with (go_at_call 50; (with_reducible refine (HM.out _).mono ?_); rintro e' W3 ⟨rfl, hk3⟩)
     refine hK.out _ _ (⟨rZ hk3 hH.1, rZ hk3 hH.2.1, rZ hk3 hH.2.2.1, kT hH.2.2.2 hk3⟩) fun hH => ?_
     clear hK K; have k3 := kT kDD hk3; refine rdW 7 fun K hK => ?_
     go_simp; refine hK.out _ _ (⟨rZ (kA _ _) hH.1, rZ (kA _ _) hH.2.1, rZ (kA _ _) hH.2.2.1, kT hH.2.2.2 (kA _ _)⟩) fun hH => ?_
     clear hK K; have o4 := own_oneM (w := W3) (B := W3.heap.size) (⟨es, nd, xn, xn, xs, rg, i, 0, 0⟩ : MM) (Nat.le_refl _); obtain ⟨W4, hW4⟩ : ∃ x, W3.alloc (.cells #[es, nd, xn, xn, xs, rg, i, (0:Int), (0:Int)] 26) = x := ⟨_, rfl⟩
     have c4 : Kp W3 W4 := by rw [← hW4]; exact kA _ _
     dsimp only [FX.cells, MM.cells] at o4; rw [hW4] at o4; obtain ⟨p4, hp4⟩ : ∃ x, W3.heap.size = x := ⟨_, rfl⟩
     have k4 := kT k3 c4; rw [hp4] at o4; rw [hW4] at hH ⊢
     try rw [hp4]
     clear hW4 hp4 c4; refine wpAnyH_ready (rs := [8]) (by kernel_rfl) (by simp) ?_
     refine AllReadyH.consLG rfl (fun K hK => ?_) aN0
     have P2 := qG (E := mmE) (by decide) o4; have OX := oK OSD.out k4; go_simp; refine aG (E := mmE) ty_mm (by decide) _ rfl _ _ rfl w.heap.size _ _ [] rfl OX _ _ rfl P2 ?f3 ?f4 ?_
     case f3 => (first | decide | (simp; done) | (simp; omega))
     case f4 => exact kS hH.2.2.2
     rintro v5 W5 o5 hg hb; obtain ⟨a5, c5, rfl⟩ := fG o5; refine hK.out _ _ (⟨(hg.block _ (oZ hH.1) (Ne.symm (own_neP OX hH.1 (by decide)))).trans hH.1, (hg.block _ (oZ hH.2.1) (Ne.symm (own_neP OX hH.2.1 (by decide)))).trans hH.2.1, (hg.block _ (oZ hH.2.2.1) (Ne.symm (own_neP OX hH.2.2.1 (by decide)))).trans hH.2.2.1, Below.grown hH.2.2.2 hg (kS hH.2.2.2) (fun b hk => (OX.lt b hk).1)⟩) fun hH => ?_
     clear hK K; have r5 := (hg.block _ (oZ (rZ k4 R3D.out)) (Ne.symm (own_neP OX (rZ k4 R3D.out) (by decide)))).trans (rZ k4 R3D.out); have o6 := sG (oK OFD.out k4) (fun b e => (hg.block b ((oK OFD.out k4).lt b e).2 (fun e2 => aQ (oK OFD.out k4) OX (by decide) b e e2.symm))); clear hg hb P2 OX; refine tkP 9 ?_
     go_simp; refine rdW 10 fun K hK => ?_
     obtain ⟨s0, s1, s2⟩ := cellsR3 r5; have fz5 := frozN r5; go_simp; refine hK.out _ _ (⟨(bS _ _ _ _ (show w.heap.size ≠ w.heap.size + 1 + 1 + 1 by omega)).trans hH.1, (bS _ _ _ _ (show (w.heap.size + 1) ≠ w.heap.size + 1 + 1 + 1 by omega)).trans hH.2.1, (bS _ _ _ _ (show (w.heap.size + 1 + 1) ≠ w.heap.size + 1 + 1 + 1 by omega)).trans hH.2.2.1, Below.setCell hH.2.2.2 (show w.heap.size ≤ w.heap.size + 1 + 1 + 1 by omega) _⟩) fun hH => ?_
     clear hK K; refine dnW ?_ _
     obtain ⟨O5, RR5⟩ := hD2 o5 r5; clear o5; have O6 := hD o6; clear o6; have KZ := hD hH; clear r5; go_wp2_with fail
     go_meet
     case rel => exact ⟨KZ.out.1, KZ.out.2.1, KZ.out.2.2.1, ⟨_, _, _, _, _, _, (Joins.block_setCell RR5.out _).trans rfl, HNF.out, rfl, sG O6.out (fun b e => bS _ _ _ _ (fun e2 => own_neP O6.out RR5.out (by decide) ((show b = w.heap.size + 1 + 1 + 1 from e2) ▸ e))), sG O5.out (fun b e => bS _ _ _ _ (fun e2 => own_neP O5.out RR5.out (by decide) ((show b = w.heap.size + 1 + 1 + 1 from e2) ▸ e)))⟩, KZ.out.2.2.2⟩
    ·go_simp; go_wp2_with (go_at_call 50; (with_reducible refine (HM.out _).mono ?_); rintro e' W3 ⟨rfl, hk3⟩)
     refine hK.out _ _ (⟨rZ hk3 hH.1, rZ hk3 hH.2.1, rZ hk3 hH.2.2.1, kT hH.2.2.2 hk3⟩) fun hH => ?_
     clear hK K; have k3 := kT kDD hk3; refine wpAnyH_ready (rs := [1, 7]) (by kernel_rfl) (by simp) ?_
     refine aC (fun K hK => ?_) (aC (fun K hK => ?_) aN0)
     ·have gl := kZ k3 HC3.out; go_simp; refine hK.out _ _ (hH) fun hH => ?_
      clear hK K; refine rdW 7 fun K hK => ?_
      go_simp; refine hK.out _ _ (⟨rZ (kA _ _) hH.1, rZ (kA _ _) hH.2.1, rZ (kA _ _) hH.2.2.1, kT hH.2.2.2 (kA _ _)⟩) fun hH => ?_
      clear hK K; have o4 := own_oneM (w := W3) (B := W3.heap.size) (⟨es, nd, xn, xn, xs, rg, i, 0, 0⟩ : MM) (Nat.le_refl _); obtain ⟨W4, hW4⟩ : ∃ x, W3.alloc (.cells #[es, nd, xn, xn, xs, rg, i, (0:Int), (0:Int)] 26) = x := ⟨_, rfl⟩
      have c4 : Kp W3 W4 := by rw [← hW4]; exact kA _ _
      dsimp only [FX.cells, MM.cells] at o4; rw [hW4] at o4; obtain ⟨p4, hp4⟩ : ∃ x, W3.heap.size = x := ⟨_, rfl⟩
      have k4 := kT k3 c4; rw [hp4] at o4; rw [hW4] at hH ⊢
      try rw [hp4]
      clear hW4 hp4 c4; refine wpAnyH_ready (rs := [8]) (by kernel_rfl) (by simp) ?_
      refine AllReadyH.consLG rfl (fun K hK => ?_) aN0
      have P2 := qG (E := mmE) (by decide) o4; have OX := oK OSD.out k4; go_simp; refine aG (E := mmE) ty_mm (by decide) _ rfl _ _ rfl w.heap.size _ _ [] rfl OX _ _ rfl P2 ?f3 ?f4 ?_
      case f3 => (first | decide | (simp; done) | (simp; omega))
      case f4 => exact kS hH.2.2.2
      rintro v5 W5 o5 hg hb; obtain ⟨a5, c5, rfl⟩ := fG o5; refine hK.out _ _ (⟨(hg.block _ (oZ hH.1) (Ne.symm (own_neP OX hH.1 (by decide)))).trans hH.1, (hg.block _ (oZ hH.2.1) (Ne.symm (own_neP OX hH.2.1 (by decide)))).trans hH.2.1, (hg.block _ (oZ hH.2.2.1) (Ne.symm (own_neP OX hH.2.2.1 (by decide)))).trans hH.2.2.1, Below.grown hH.2.2.2 hg (kS hH.2.2.2) (fun b hk => (OX.lt b hk).1)⟩) fun hH => ?_
      clear hK K; have r5 := (hg.block _ (oZ (rZ k4 R3D.out)) (Ne.symm (own_neP OX (rZ k4 R3D.out) (by decide)))).trans (rZ k4 R3D.out); have o6 := sG (oK OFD.out k4) (fun b e => (hg.block b ((oK OFD.out k4).lt b e).2 (fun e2 => aQ (oK OFD.out k4) OX (by decide) b e e2.symm))); clear hg hb P2 OX; refine tkP 9 ?_
      go_simp; refine rdW 10 fun K hK => ?_
      obtain ⟨s0, s1, s2⟩ := cellsR3 r5; have fz5 := frozN r5; go_simp; refine hK.out _ _ (⟨(bS _ _ _ _ (show w.heap.size ≠ w.heap.size + 1 + 1 + 1 by omega)).trans hH.1, (bS _ _ _ _ (show (w.heap.size + 1) ≠ w.heap.size + 1 + 1 + 1 by omega)).trans hH.2.1, (bS _ _ _ _ (show (w.heap.size + 1 + 1) ≠ w.heap.size + 1 + 1 + 1 by omega)).trans hH.2.2.1, Below.setCell hH.2.2.2 (show w.heap.size ≤ w.heap.size + 1 + 1 + 1 by omega) _⟩) fun hH => ?_
      clear hK K; refine dnW ?_ _
      obtain ⟨O5, RR5⟩ := hD2 o5 r5; clear o5; have O6 := hD o6; clear o6; have KZ := hD hH; clear r5; go_wp2_with fail
      go_meet
      case rel => exact ⟨KZ.out.1, KZ.out.2.1, KZ.out.2.2.1, ⟨_, _, _, _, _, _, (Joins.block_setCell RR5.out _).trans rfl, HNF.out, rfl, sG O6.out (fun b e => bS _ _ _ _ (fun e2 => own_neP O6.out RR5.out (by decide) ((show b = w.heap.size + 1 + 1 + 1 from e2) ▸ e))), sG O5.out (fun b e => bS _ _ _ _ (fun e2 => own_neP O5.out RR5.out (by decide) ((show b = w.heap.size + 1 + 1 + 1 from e2) ▸ e)))⟩, KZ.out.2.2.2⟩
     ·go_simp; refine hK.out _ _ (⟨rZ (kA _ _) hH.1, rZ (kA _ _) hH.2.1, rZ (kA _ _) hH.2.2.1, kT hH.2.2.2 (kA _ _)⟩) fun hH => ?_
      clear hK K; have o4 := own_oneM (w := W3) (B := W3.heap.size) (⟨es, nd, xn, xn, xs, rg, i, 0, 0⟩ : MM) (Nat.le_refl _); obtain ⟨W4, hW4⟩ : ∃ x, W3.alloc (.cells #[es, nd, xn, xn, xs, rg, i, (0:Int), (0:Int)] 26) = x := ⟨_, rfl⟩
      have c4 : Kp W3 W4 := by rw [← hW4]; exact kA _ _
      dsimp only [FX.cells, MM.cells] at o4; rw [hW4] at o4; obtain ⟨p4, hp4⟩ : ∃ x, W3.heap.size = x := ⟨_, rfl⟩
      have k4 := kT k3 c4; rw [hp4] at o4; rw [hW4] at hH ⊢
      try rw [hp4]
      clear hW4 hp4 c4; refine rdW 1 fun K hK => ?_
      have gl := kZ k4 HC3.out; go_simp; refine hK.out _ _ (hH) fun hH => ?_
      clear hK K; refine wpAnyH_ready (rs := [8]) (by kernel_rfl) (by simp) ?_
      refine AllReadyH.consLG rfl (fun K hK => ?_) aN0
      have P2 := qG (E := mmE) (by decide) o4; have OX := oK OSD.out k4; go_simp; refine aG (E := mmE) ty_mm (by decide) _ rfl _ _ rfl w.heap.size _ _ [] rfl OX _ _ rfl P2 ?f3 ?f4 ?_
      case f3 => (first | decide | (simp; done) | (simp; omega))
      case f4 => exact kS hH.2.2.2
      rintro v5 W5 o5 hg hb; obtain ⟨a5, c5, rfl⟩ := fG o5; refine hK.out _ _ (⟨(hg.block _ (oZ hH.1) (Ne.symm (own_neP OX hH.1 (by decide)))).trans hH.1, (hg.block _ (oZ hH.2.1) (Ne.symm (own_neP OX hH.2.1 (by decide)))).trans hH.2.1, (hg.block _ (oZ hH.2.2.1) (Ne.symm (own_neP OX hH.2.2.1 (by decide)))).trans hH.2.2.1, Below.grown hH.2.2.2 hg (kS hH.2.2.2) (fun b hk => (OX.lt b hk).1)⟩) fun hH => ?_
      clear hK K; have r5 := (hg.block _ (oZ (rZ k4 R3D.out)) (Ne.symm (own_neP OX (rZ k4 R3D.out) (by decide)))).trans (rZ k4 R3D.out); have o6 := sG (oK OFD.out k4) (fun b e => (hg.block b ((oK OFD.out k4).lt b e).2 (fun e2 => aQ (oK OFD.out k4) OX (by decide) b e e2.symm))); clear hg hb P2 OX; refine tkP 9 ?_
      go_simp; refine rdW 10 fun K hK => ?_
      obtain ⟨s0, s1, s2⟩ := cellsR3 r5; have fz5 := frozN r5; go_simp; refine hK.out _ _ (⟨(bS _ _ _ _ (show w.heap.size ≠ w.heap.size + 1 + 1 + 1 by omega)).trans hH.1, (bS _ _ _ _ (show (w.heap.size + 1) ≠ w.heap.size + 1 + 1 + 1 by omega)).trans hH.2.1, (bS _ _ _ _ (show (w.heap.size + 1 + 1) ≠ w.heap.size + 1 + 1 + 1 by omega)).trans hH.2.2.1, Below.setCell hH.2.2.2 (show w.heap.size ≤ w.heap.size + 1 + 1 + 1 by omega) _⟩) fun hH => ?_
      clear hK K; refine dnW ?_ _
      obtain ⟨O5, RR5⟩ := hD2 o5 r5; clear o5; have O6 := hD o6; clear o6; have KZ := hD hH; clear r5; go_wp2_with fail
      go_meet
      case rel => exact ⟨KZ.out.1, KZ.out.2.1, KZ.out.2.2.1, ⟨_, _, _, _, _, _, (Joins.block_setCell RR5.out _).trans rfl, HNF.out, rfl, sG O6.out (fun b e => bS _ _ _ _ (fun e2 => own_neP O6.out RR5.out (by decide) ((show b = w.heap.size + 1 + 1 + 1 from e2) ▸ e))), sG O5.out (fun b e => bS _ _ _ _ (fun e2 => own_neP O5.out RR5.out (by decide) ((show b = w.heap.size + 1 + 1 + 1 from e2) ▸ e)))⟩, KZ.out.2.2.2⟩
  case rest =>
   clear j0 j1 j2 j3 j4 j5 j6 j7; obtain ⟨r0, r1, r2, ⟨fa, fn, fc, ma, mn, mc, r3, hnf, hnm, of, om⟩, kc⟩ := hcut; dsimp only at r3 hnf hnm of om; subst hnf hnm; obtain ⟨j0, j1, j2⟩ := cellsR3 r3; obtain ⟨u0, u1, u2⟩ := cellsR3 r2; have fz := frozN r2; obtain ⟨R2, K4, OF, OM⟩ := hD4 r2 kc of om; clear r0 r1 r2 r3 kc of om; go_wp2; refine bodyPost_ret (results_cell_row (p := 6) rfl _ _ (w.heap.size + 1 + 1) 34 _ (0, 0) _ rfl (setR3 _ _ _ R2.out) Tryz.underlying34 rfl (by kernel_rfl)) rfl ?_
   exact ⟨_, rfl, RsV.set R2.out (by decide) (by decide) OF.out OM.out, setR3_kp K4.out (show w.heap.size ≤ w.heap.size + 1 + 1 by omega) _ _ _⟩
abbrev boxI (x : Int) : Obj := .cells #[x] 3 (0, 0)
def mayQ (k : Nat) (last tag : Int) (n : Nat) : Prop := k < 16 ∧ last < tag ∧ tag ≤ 255 ∧ n ≤ 200
instance (k : Nat) (last tag : Int) (n : Nat) : Decidable (mayQ k last tag n) := by unfold mayQ; infer_instance
def fb (n i : Nat) : Int := ((n / 256 ^ i % 256 : Nat) : Int)
def f8 (n : Nat) : List Int := [fb n 7, fb n 6, fb n 5, fb n 4, fb n 3, fb n 2, fb n 1, fb n 0]
def nb (x : Nat) : Nat := (Lib.bitLen x + 7) / 8
def Kb (p : Nat) (w w' : World) : Prop := w.heap.size ≤ w'.heap.size ∧ ∀ b, b ≠ p → b < w.heap.size → w'.heap[b]? = w.heap[b]?
theorem three {cs : List Int} (h : ¬ cs.length < 3) : ∃ x0 x1 x2 rest, cs = x0 :: x1 :: x2 :: rest := by
 match cs, h with
 | x0 :: x1 :: x2 :: rest, _ => exact ⟨x0, x1, x2, rest, rfl⟩
 | [], h => exact absurd (by simp) h
 | [_], h => exact absurd (by simp) h
 | [_, _], h => exact absurd (by simp) h
structure FacC (ads : List Addr) (w : World) : Prop where
 right : ∀ w1, Kp w w1 → ∀ f : FX, f.wf → Calls Tryz.prog 70 #[.agg f.cells] w1 fun e w' => e = .returned (.bool (rightF f)) ∧ Kp w1 w'
theorem FacC.kp {ads : List Addr} {w w' : World} (C : FacC ads w) (hk : Kp w w') : FacC ads w' where
 right := fun w1 h => C.right w1 (kT hk h)
theorem errI_some14 (ads : List Addr) (k : Int) (h : k ≠ 0) : ∃ q, errI ads k = .iface 257 (.pointer q) := ⟨_, if_neg h⟩
theorem same_refl14 (c : FX) : sameF c c = true := by unfold sameF; simp
theorem kPlaces (xn xs xr y1 y2 y3 y4 nd i : Int) (reg : Int) (FS : List FX) (hFS : FS = if xr = -1 then [(⟨7, 0, 0, reg, 0, i, 0, 0, 0, 0, 0, 0, 0, 0⟩ : FX)] else []) (n : Nat) (hn : FS.length = n) : Calls Tryz.prog 33 #[.agg #[xn, xs, xr, y1, y2, y3, y4, nd, i], .int .i64 reg] w fun r w' => ∃ a c, r = .returned (.slice a n c) ∧ w'.ownsRow w.heap.size 73 14 (.slice a n c) n (fcE.row FS) ∧ Kp w w' := by
 have HPL := hD (fun w b hb => kPlaced (w := w) xn xs xr y1 y2 y3 y4 nd i b hb); have R0 := hD (mH w (.cells #[xn, xs, xr, y1, y2, y3, y4, nd, i] 84)); have K0 := hD (kA w (.cells #[xn, xs, xr, y1, y2, y3, y4, nd, i] 84)); obtain ⟨a0, a1, a2, a3, a4, a5, a6, a7, a8⟩ := cells9 R0.out; have hsf := sF
 by_cases h : xr = -1
 ·rw [if_pos h] at hFS; subst hFS; subst hn; have hp : (xr != -1) = false := by simp [h]
  clear h; go_enter Tryz.func33, Tryz.ntmps33; go_wp2_with (go_at_call 43; (with_reducible refine (HPL.out _ _ hp).mono ?_); rintro e' w3 ⟨rfl, hk⟩; have K3 := hD (kT K0.out hk); obtain ⟨c0, c1, c2, c3, c4, c5, c6, c7, c8⟩ := cells9 (rZ hk R0.out); have OQ := hD (own_oneF (w := w3) (t := 73) (B := w.heap.size) (⟨7, 0, 0, reg, 0, i, 0, 0, 0, 0, 0, 0, 0, 0⟩ : FX) (kS (kT K0.out hk))); have KQ := hD (kT (kT K0.out hk) (kA w3 (.cells #[(7:Int), (0:Int), (0:Int), reg, (0:Int), i, (0:Int), (0:Int), (0:Int), (0:Int), (0:Int), (0:Int), (0:Int), .float .f64 0] 73))); clear hk)
  go_ret; exact ⟨_, _, rfl, OQ.out, KQ.out⟩
 ·rw [if_neg h] at hFS; subst hFS; subst hn; have hp : (xr != -1) = true := by simp [h]
  clear h; go_enter Tryz.func33, Tryz.ntmps33; go_wp2_with (go_at_call 43; (with_reducible refine (HPL.out _ _ hp).mono ?_); rintro e' w3 ⟨rfl, hk⟩; have K3 := hD (kT K0.out hk); clear hk)
  go_ret; exact ⟨_, _, rfl, own_no, K3.out⟩
theorem kRefused (xn xs xr y1 y2 y3 y4 nd i : Int) (gk gf gt gn gs gr gp go gc : Int) : Calls Tryz.prog 34 #[.agg #[xn, xs, xr, y1, y2, y3, y4, nd, i], .agg #[gk, gf, gt, gn, gs, gr, gp, go, gc]] w fun r w' => ∃ v, r = .returned v ∧ RsV 73 w.heap.size ⟨(if xr = -1 ∧ y3 = 1 ∧ (gc = 2 ∨ gc = 4 ∨ gc = 5) then [(⟨8, 0, 0, 0, 0, i, 0, 0, 0, 0, 14, 1, 0, 0⟩ : FX)] else []), [], 0⟩ v w' ∧ Kp w w' := by
 have HPL := hD (fun w b hb => kPlaced (w := w) xn xs xr y1 y2 y3 y4 nd i b hb); have HT := hD (fun w => kTurns (w := w) xn xs xr y1 y2 y3 y4 nd i 0 0 14 1); have k3 : Kp w (((w.alloc (.cells #[xn, xs, xr, y1, y2, y3, y4, nd, i] 84)).alloc (.cells #[gk, gf, gt, gn, gs, gr, gp, go, gc] 26)).alloc (.cells #[.slice none 0 0, .slice none 0 0, (0:Int)] 34)) := pk3 w _ _ _; have R0 := hD (p3_0 w (.cells #[xn, xs, xr, y1, y2, y3, y4, nd, i] 84) (.cells #[gk, gf, gt, gn, gs, gr, gp, go, gc] 26) (.cells #[.slice none 0 0, .slice none 0 0, (0:Int)] 34)); have R1 := hD (p3_1 w (.cells #[xn, xs, xr, y1, y2, y3, y4, nd, i] 84) (.cells #[gk, gf, gt, gn, gs, gr, gp, go, gc] 26) (.cells #[.slice none 0 0, .slice none 0 0, (0:Int)] 34)); have R2 := hD (p3_2 w (.cells #[xn, xs, xr, y1, y2, y3, y4, nd, i] 84) (.cells #[gk, gf, gt, gn, gs, gr, gp, go, gc] 26) (.cells #[.slice none 0 0, .slice none 0 0, (0:Int)] 34))
 have K3 := hD k3; obtain ⟨a0, a1, a2, a3, a4, a5, a6, a7, a8⟩ := cells9 R0.out; obtain ⟨b0, b1, b2, b3, b4, b5, b6, b7, b8⟩ := cells9 R1.out; clear k3; have hsf := sF
 by_cases h : xr = -1
 rotate_left
 ·rw [if_neg (fun e => h e.1)]; have hp : (xr != -1) = true := by simp [h]
  clear h; go_enter Tryz.func34, Tryz.ntmps34; go_wp2_with (go_at_call 43; (with_reducible refine (HPL.out _ _ hp).mono ?_); rintro e' w4 ⟨rfl, hk⟩; have K4 := hD (kT K3.out hk); have R40 := hD (rZ hk R0.out); have R41 := hD (rZ hk R1.out); have R42 := hD (rZ hk R2.out); obtain ⟨a40, a41, a42, a43, a44, a45, a46, a47, a48⟩ := cells9 R40.out; obtain ⟨b40, b41, b42, b43, b44, b45, b46, b47, b48⟩ := cells9 R41.out; obtain ⟨c40, c41, c42⟩ := cellsR3 R42.out; have f4 := frozN R42.out; clear hk)
  refine bodyPost_ret (results_cell_row (p := 4) rfl _ _ (w.heap.size + 1 + 1) 34 _ (0, 0) _ rfl (setR3 (.slice none 0 0) (.slice none 0 0) (.int .i64 0) R42.out) Tryz.underlying34 rfl (by kernel_rfl)) rfl ?_
  exact ⟨_, rfl, RsV.set R42.out (by decide) (by decide) own_no own_no, setR3_kp K4.out (show w.heap.size ≤ w.heap.size + 1 + 1 by omega) _ _ _⟩
 have hp : (xr != -1) = false := by simp [h]
 by_cases h1 : y3 = 1
 rotate_left
 ·rw [if_neg (fun e => h1 e.2.1)]; have h2 : (y3 != 1) = true := by simp [h1]
  have h3 : (y3 == 1) = false := by simp [h1]
  clear h h1; go_enter Tryz.func34, Tryz.ntmps34; go_wp2_with (go_at_call 43; (with_reducible refine (HPL.out _ _ hp).mono ?_); rintro e' w4 ⟨rfl, hk⟩; have K4 := hD (kT K3.out hk); have R40 := hD (rZ hk R0.out); have R41 := hD (rZ hk R1.out); have R42 := hD (rZ hk R2.out); obtain ⟨a40, a41, a42, a43, a44, a45, a46, a47, a48⟩ := cells9 R40.out; obtain ⟨b40, b41, b42, b43, b44, b45, b46, b47, b48⟩ := cells9 R41.out; obtain ⟨c40, c41, c42⟩ := cellsR3 R42.out; have f4 := frozN R42.out; clear hk)
  refine bodyPost_ret (results_cell_row (p := 4) rfl _ _ (w.heap.size + 1 + 1) 34 _ (0, 0) _ rfl (setR3 (.slice none 0 0) (.slice none 0 0) (.int .i64 0) R42.out) Tryz.underlying34 rfl (by kernel_rfl)) rfl ?_
  exact ⟨_, rfl, RsV.set R42.out (by decide) (by decide) own_no own_no, setR3_kp K4.out (show w.heap.size ≤ w.heap.size + 1 + 1 by omega) _ _ _⟩
 have h2 : (y3 != 1) = false := by simp [h1]
 have h3 : (y3 == 1) = true := by simp [h1]
 by_cases hc : (gc = 2 ∨ gc = 4 ∨ gc = 5)
 ·rw [if_pos ⟨h, h1, hc⟩]; clear h h1 h3
  rcases hc with rfl | rfl | rfl <;> (
   go_enter Tryz.func34, Tryz.ntmps34; go_wp2_with (first | (go_at_call 43; (with_reducible refine (HPL.out _ _ hp).mono ?_); rintro e' w4 ⟨rfl, hk⟩; have K4 := hD (kT K3.out hk); have R40 := hD (rZ hk R0.out); have R41 := hD (rZ hk R1.out); have R42 := hD (rZ hk R2.out); obtain ⟨a40, a41, a42, a43, a44, a45, a46, a47, a48⟩ := cells9 R40.out; obtain ⟨b40, b41, b42, b43, b44, b45, b46, b47, b48⟩ := cells9 R41.out; obtain ⟨c40, c41, c42⟩ := cellsR3 R42.out; have f4 := frozN R42.out; clear hk) | (go_at_call 79; (with_reducible refine (HT.out _).mono ?_); rintro e' w5 ⟨rfl, hk⟩; have kz := kT hk (kA w5 (.cells #[(8:Int), (0:Int), (0:Int), (0:Int), (0:Int), i, (0:Int), (0:Int), (0:Int), (0:Int), (14:Int), (1:Int), (0:Int), .float .f64 0] 73)); have OQ := hD (own_oneF (w := w5) (t := 73) (B := w.heap.size) (⟨8, 0, 0, 0, 0, i, 0, 0, 0, 0, 14, 1, 0, 0⟩ : FX) (kS (kT K4.out hk))); have KQ := hD (kT K4.out kz); have RQ := hD (rZ kz R42.out); obtain ⟨q0, q1, q2⟩ := cellsR3 RQ.out; have fq := frozN RQ.out; clear hk kz))
   refine bodyPost_ret (results_cell_row (p := 4) rfl _ _ (w.heap.size + 1 + 1) 34 _ (0, 0) _ rfl (setR3 (.slice (some ⟨w5.heap.size, 0, none⟩) 1 1) (.slice none 0 0) (.int .i64 0) RQ.out) Tryz.underlying34 rfl (by kernel_rfl)) rfl ?_
   exact ⟨_, rfl, RsV.set RQ.out (by decide) (by decide) OQ.out own_no, setR3_kp KQ.out (show w.heap.size ≤ w.heap.size + 1 + 1 by omega) _ _ _⟩)
 ·rw [if_neg (fun e => hc e.2.2)]; have d1 : (gc == 2) = false := by simpa using (fun e => hc (.inl e))
  have d2 : (gc == 4) = false := by simpa using (fun e => hc (.inr (.inl e)))
  have d3 : (gc == 5) = false := by simpa using (fun e => hc (.inr (.inr e)))
  clear h h1 h3 hc; go_enter Tryz.func34, Tryz.ntmps34; go_wp2_with (go_at_call 43; (with_reducible refine (HPL.out _ _ hp).mono ?_); rintro e' w4 ⟨rfl, hk⟩; have K4 := hD (kT K3.out hk); have R40 := hD (rZ hk R0.out); have R41 := hD (rZ hk R1.out); have R42 := hD (rZ hk R2.out); obtain ⟨a40, a41, a42, a43, a44, a45, a46, a47, a48⟩ := cells9 R40.out; obtain ⟨b40, b41, b42, b43, b44, b45, b46, b47, b48⟩ := cells9 R41.out; obtain ⟨c40, c41, c42⟩ := cellsR3 R42.out; have f4 := frozN R42.out; clear hk)
  refine bodyPost_ret (results_cell_row (p := 4) rfl _ _ (w.heap.size + 1 + 1) 34 _ (0, 0) _ rfl (setR3 (.slice none 0 0) (.slice none 0 0) (.int .i64 0) R42.out) Tryz.underlying34 rfl (by kernel_rfl)) rfl ?_
  exact ⟨_, rfl, RsV.set R42.out (by decide) (by decide) own_no own_no, setR3_kp K4.out (show w.heap.size ≤ w.heap.size + 1 + 1 by omega) _ _ _⟩
end Go.Proofs.YtncoofnhifcnhaaGreatDoor
