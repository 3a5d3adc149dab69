/- Parts of this proof (own work). -/
import Derived.Test.YtncoofnhifcnhaaGreatDoorZt35
set_option maxRecDepth 100000
set_option maxHeartbeats 40000000
namespace Go.Proofs.YtncoofnhifcnhaaGreatDoor
open Go.RowKit Go.ChangeShapes Go.WideShapes
variable {w0 w w' W w3 : World} {B q : Nat} {m : StM} {ads : List Addr}
theorem rTellA (h : SD B q m w) (gk gf gt gn gs gr gp go gc : Int) (nd un us ur u1 u2 u3 u4 : Int) (hnd : m.node = nd) (hx : prtP m gp = some ⟨un, us, ur, ⟨u1, u2, u3, u4⟩⟩) (h1 : decide (un = gn ∧ us = gs) = true) (h2 : (gf == gn) = true) (h3 : (gt == nd) = true) (h45 : (decide (ur < 0) || ur == gr) = true) (hfi : fitsP m (⟨gk, gf, gt, gn, gs, gr, gp, go, gc⟩ : MM) = some ⟨un, us, ur, ⟨u1, u2, u3, u4⟩⟩) (hd : downM gk = false) : Calls Tryz.prog 13 #[.pointer (some ⟨q, 0, none⟩), .agg #[gk, gf, gt, gn, gs, gr, gp, go, gc]] w fun r w' => ∃ v, r = .returned v ∧ RsV 82 w.heap.size (tellP m (⟨gk, gf, gt, gn, gs, gr, gp, go, gc⟩ : MM)) v w' ∧ Kp w w' := by
 obtain ⟨HND, HFI, HDD⟩ := hD3 hnd hfi hd; have HH := hD (fun w1 (hk : Kp w w1) => rHas (h.kp hk) gp true (by rw [hx]; rfl)); have K2 := hD (pk2 w (.cells #[gk, gf, gt, gn, gs, gr, gp, go, gc] 26) (.cells #[.slice none 0 0, .slice none 0 0, (0:Int)] 39)); obtain ⟨a0, a1, a2, a3, a4, a5, a6, a7, a8⟩ := cells9 (nX0 w (.cells #[gk, gf, gt, gn, gs, gr, gp, go, gc] 26) (.cells #[.slice none 0 0, .slice none 0 0, (0:Int)] 39)); obtain ⟨c0, c1, c2, c3, c4, c5, c6, c7, c8⟩ := cells9 (p3_0 w (.cells #[gk, gf, gt, gn, gs, gr, gp, go, gc] 26) (.cells #[.slice none 0 0, .slice none 0 0, (0:Int)] 39) (.cells #[(0:Int), (0:Int), .int .i64 (-1), (0:Int), (0:Int), (0:Int), (0:Int)] 95)); clear hnd hfi hd; go_enter Tryz.func13, Tryz.ntmps13; go_upto_if 15 with (go_at_call 38; (with_reducible refine (HH.out _ K2.out).mono ?_); rintro e' w2 ⟨rfl, rfl⟩)
 go_cut [5] from 226 (fun s5 w' => s5 = .bool true ∧ RwO w #[.int .i64 gk, .int .i64 gf, .int .i64 gt, .int .i64 gn, .int .i64 gs, .int .i64 gr, .int .i64 gp, .int .i64 go, .int .i64 gc] #[.int .i64 un, .int .i64 us, .int .i64 ur, .int .i64 u1, .int .i64 u2, .int .i64 u3, .int .i64 u4] none w')
 case first =>
  obtain ⟨np, hnp⟩ : ∃ n, m.parts.length = n := ⟨_, rfl⟩
  obtain ⟨gb, dp, q0, q3, hi0, hiN, hpc⟩ := h.lookAt gp ⟨un, us, ur, ⟨u1, u2, u3, u4⟩⟩ hx np hnp; rw [HND.out] at q0; obtain ⟨N, hN⟩ : ∃ N : Int, (np : Int) = N := ⟨_, rfl⟩
  have iN : gp < N := by omega
  have X0 := hD (show w.cell? ⟨gb, gp.toNat * 7, none⟩ = some (.int .i64 un) from hpc 0 _ (by decide) rfl); have X1 := hD (show w.cell? ⟨gb, gp.toNat * 7 + 1, none⟩ = some (.int .i64 us) from hpc 1 _ (by decide) rfl); have X2 := hD (show w.cell? ⟨gb, gp.toNat * 7 + 2, none⟩ = some (.int .i64 ur) from hpc 2 _ (by decide) rfl); have X3 := hD (show w.cell? ⟨gb, gp.toNat * 7 + 3, none⟩ = some (.int .i64 u1) from hpc 3 _ (by decide) rfl); have X4 := hD (show w.cell? ⟨gb, gp.toNat * 7 + 4, none⟩ = some (.int .i64 u2) from hpc 4 _ (by decide) rfl); have X5 := hD (show w.cell? ⟨gb, gp.toNat * 7 + 5, none⟩ = some (.int .i64 u3) from hpc 5 _ (by decide) rfl); have X6 := hD (show w.cell? ⟨gb, gp.toNat * 7 + 6, none⟩ = some (.int .i64 u4) from hpc 6 _ (by decide) rfl); obtain ⟨Q0, Q3⟩ := hD2 q0 q3; clear HH HND HFI hx hnp hpc hiN h q0 q3; go_upto_region 4 with fail
  go_cut [] from 226 (RwO w #[.int .i64 gk, .int .i64 gf, .int .i64 gt, .int .i64 gn, .int .i64 gs, .int .i64 gr, .int .i64 gp, .int .i64 go, .int .i64 gc] #[.int .i64 un, .int .i64 us, .int .i64 ur, .int .i64 u1, .int .i64 u2, .int .i64 u3, .int .i64 u4] none)
  case first =>
   obtain ⟨WD, hWD⟩ : ∃ x, (((w.alloc (.cells #[gk, gf, gt, gn, gs, gr, gp, go, gc] 26)).alloc (.cells #[.slice none 0 0, .slice none 0 0, (0:Int)] 39)).alloc (.cells #[(0:Int), (0:Int), .int .i64 (-1), (0:Int), (0:Int), (0:Int), (0:Int)] 95)).drew = x := ⟨_, rfl⟩
   have kD : Kp (((w.alloc (.cells #[gk, gf, gt, gn, gs, gr, gp, go, gc] 26)).alloc (.cells #[.slice none 0 0, .slice none 0 0, (0:Int)] 39)).alloc (.cells #[(0:Int), (0:Int), .int .i64 (-1), (0:Int), (0:Int), (0:Int), (0:Int)] 95)) WD := by rw [← hWD]; exact dQ (Kp.refl _)
   have HWD := hD hWD; have RPD := hD (rZ kD (p3_2 w _ _ _)); clear hWD; refine rgW (fun w' => w'.heap[w.heap.size]? = some (.cells #[gk, gf, gt, gn, gs, gr, gp, go, gc] 26) ∧ w'.heap[w.heap.size + 1]? = some (.cells #[.slice none 0 0, .slice none 0 0, (0:Int)] 39) ∧ Kp w w') ?_ fun hH => ?_
   ·exact by rw [HWD.out]; exact ⟨rZ kD (p3_0 w _ _ _), rZ kD (p3_1 w _ _ _), kT (pk3 w _ _ _) kD⟩
   rw [HWD.out] at hH ⊢; refine tkP 0 ?_
   go_simp; refine tkP 1 ?_
   go_simp; refine tkP 2 ?_
   go_simp; refine tkP 3 ?_ (y := by intro w hZ; have n3 := kZ hZ.2.2 Q3.out; go_simp; try rfl)
   go_simp; refine tkP 4 ?_
   go_simp; refine tkP 5 ?_ (y := by intro w hZ; obtain ⟨y0, y1, y2, y3, y4, y5, y6, y7, y8⟩ := cells9 hZ.1; go_simp; try rfl)
   go_simp; refine tkP 6 ?_
   go_simp; refine tkP 7 ?_ (y := by intro w hZ; have g0 := kZ hZ.2.2 X0.out; have g1 := kZ hZ.2.2 X1.out; have g2 := kZ hZ.2.2 X2.out; have g3 := kZ hZ.2.2 X3.out; have g4 := kZ hZ.2.2 X4.out; have g5 := kZ hZ.2.2 X5.out; have g6 := kZ hZ.2.2 X6.out; go_simp; try rfl)
   go_simp; refine rdW 8 fun K hK => ?_
   have r1 := RPD.out; obtain ⟨s0, s1, s2, s3, s4, s5, s6⟩ := c7X r1; have fz := frozN r1; go_simp; refine hK.out _ _ (⟨(set7_ne (show w.heap.size ≠ w.heap.size + 1 + 1 by omega) _ _ _ _ _ _ _).trans hH.1, (set7_ne (show w.heap.size + 1 ≠ w.heap.size + 1 + 1 by omega) _ _ _ _ _ _ _).trans hH.2.1, set_7_kp hH.2.2 (show w.heap.size ≤ w.heap.size + 1 + 1 by omega) _ _ _ _ _ _ _⟩) fun hH => ?_
   clear hK K; refine dnW ?_ _
   obtain ⟨R1, KZ⟩ := hD2 r1 hH; clear r1 hH; go_wp2_with fail
   go_meet
   case rel => exact ⟨KZ.out.1, KZ.out.2.1, set_7 _ _ _ _ _ _ _ R1.out, (fun x e => by cases e), KZ.out.2.2⟩
  case rest =>
   clear a0 a1 a2 a3 a4 a5 a6 a7 a8 c0 c1 c2 c3 c4 c5 c6 c7 c8; have HR4 := hD hcut; clear hcut; go_upto_region 5 with fail
   obtain ⟨t4, h4⟩ : ∃ x, decide (ur < 0) = x := ⟨_, rfl⟩
   have heq : ∀ w, (binOp .eql 24 (.agg #[un, us]) (.agg #[gn, gs])).run Tryz.prog w = .ok (.bool (decide (un = gn ∧ us = gs))) w := fun w => act_eql9 un us gn gs w
   have heg := fun op x y (w : World) => act_guard9 op x y un us gn gs w
   rw [h1] at heq; rw [h4] at h45; clear h1
   cases t4
   ·have h5 : (ur == gr) = true := by simpa using h45
    clear h45; refine rgW (RwO w #[.int .i64 gk, .int .i64 gf, .int .i64 gt, .int .i64 gn, .int .i64 gs, .int .i64 gr, .int .i64 gp, .int .i64 go, .int .i64 gc] #[.int .i64 un, .int .i64 us, .int .i64 ur, .int .i64 u1, .int .i64 u2, .int .i64 u3, .int .i64 u4] none) ?_ fun hH => ?_
    ·exact (HR4.out.kp (dQ (Kp.refl _)))
    refine tkP 0 ?_
    go_simp; refine tkP 1 ?_ (y := by intro w hZ; obtain ⟨v0, v1, v2, v3, v4, v5, v6⟩ := c7X hZ.2.2.1; go_simp; try rfl)
    go_simp; refine tkP 2 ?_
    go_simp; refine tkP 3 ?_ (y := by intro w hZ; obtain ⟨y0, y1, y2, y3, y4, y5, y6, y7, y8⟩ := cells9 hZ.1; go_simp; try rfl)
    go_simp; refine tkP 4 ?_
    go_simp; refine tkP 5 ?_
    go_simp; refine tkP 6 ?_
    go_simp; refine tkP 7 ?_ (y := by intro w hZ; obtain ⟨y0, y1, y2, y3, y4, y5, y6, y7, y8⟩ := cells9 hZ.1; go_simp; try rfl)
    go_simp; refine tkP 8 ?_
    go_simp; refine tkP 9 ?_
    go_simp; refine tkP 10 ?_ (y := by intro w hZ; obtain ⟨y0, y1, y2, y3, y4, y5, y6, y7, y8⟩ := cells9 hZ.1; go_simp; try rfl)
    go_simp; refine tkP 11 ?_
    go_simp; refine tkP 12 ?_
    go_simp; refine tkP 13 ?_
    go_simp; refine tkP 14 ?_
    go_simp; refine tkP 15 ?_ (y := by intro w hZ; obtain ⟨y0, y1, y2, y3, y4, y5, y6, y7, y8⟩ := cells9 hZ.1; go_simp; try rfl)
    go_simp; refine tkP 16 ?_
    go_simp; refine tkP 17 ?_
    go_simp; refine tkP 18 ?_
    go_simp; refine tkP 19 ?_ (y := by intro w hZ; have n0 := kZ hZ.2.2.2.2 Q0.out; go_simp; try rfl)
    go_simp; refine tkP 20 ?_
    go_simp; refine tkP 21 ?_
    go_simp; refine tkP 22 ?_
    go_simp; refine tkP 23 ?_
    go_simp; refine tkP 24 ?_ (y := by intro w hZ; obtain ⟨v0, v1, v2, v3, v4, v5, v6⟩ := c7X hZ.2.2.1; go_simp; try rfl)
    go_simp; refine tkP 25 ?_
    go_simp; refine tkP 26 ?_
    go_simp; refine tkP 27 ?_
    go_simp; refine tkP 28 ?_ (y := by intro w hZ; obtain ⟨v0, v1, v2, v3, v4, v5, v6⟩ := c7X hZ.2.2.1; go_simp; try rfl)
    go_simp; refine tkP 29 ?_
    go_simp; refine tkP 30 ?_ (y := by intro w hZ; obtain ⟨y0, y1, y2, y3, y4, y5, y6, y7, y8⟩ := cells9 hZ.1; go_simp; try rfl)
    go_simp; refine tkP 31 ?_
    go_simp; refine tkP 32 ?_
    go_simp; refine tkP 33 ?_
    go_simp; refine tkP 34 ?_
    go_simp; refine dnW ?_ _
    have KZ := hD hH; clear hH; go_wp2_with fail
    go_meet
    case rel => exact ⟨rfl, KZ.out⟩
   ·clear h45; refine rgW (RwO w #[.int .i64 gk, .int .i64 gf, .int .i64 gt, .int .i64 gn, .int .i64 gs, .int .i64 gr, .int .i64 gp, .int .i64 go, .int .i64 gc] #[.int .i64 un, .int .i64 us, .int .i64 ur, .int .i64 u1, .int .i64 u2, .int .i64 u3, .int .i64 u4] none) ?_ fun hH => ?_
    ·exact (HR4.out.kp (dQ (Kp.refl _)))
    refine tkP 0 ?_
    go_simp; refine tkP 1 ?_ (y := by intro w hZ; obtain ⟨v0, v1, v2, v3, v4, v5, v6⟩ := c7X hZ.2.2.1; go_simp; try rfl)
    go_simp; refine tkP 2 ?_
    go_simp; refine tkP 3 ?_ (y := by intro w hZ; obtain ⟨y0, y1, y2, y3, y4, y5, y6, y7, y8⟩ := cells9 hZ.1; go_simp; try rfl)
    go_simp; refine tkP 4 ?_
    go_simp; refine tkP 5 ?_
    go_simp; refine tkP 6 ?_
    go_simp; refine tkP 7 ?_ (y := by intro w hZ; obtain ⟨y0, y1, y2, y3, y4, y5, y6, y7, y8⟩ := cells9 hZ.1; go_simp; try rfl)
    go_simp; refine tkP 8 ?_
    go_simp; refine tkP 9 ?_
    go_simp; refine tkP 10 ?_ (y := by intro w hZ; obtain ⟨y0, y1, y2, y3, y4, y5, y6, y7, y8⟩ := cells9 hZ.1; go_simp; try rfl)
    go_simp; refine tkP 11 ?_
    go_simp; refine tkP 12 ?_
    go_simp; refine tkP 13 ?_
    go_simp; refine tkP 14 ?_
    go_simp; refine tkP 15 ?_ (y := by intro w hZ; obtain ⟨y0, y1, y2, y3, y4, y5, y6, y7, y8⟩ := cells9 hZ.1; go_simp; try rfl)
    go_simp; refine tkP 16 ?_
    go_simp; refine tkP 17 ?_
    go_simp; refine tkP 18 ?_
    go_simp; refine tkP 19 ?_ (y := by intro w hZ; have n0 := kZ hZ.2.2.2.2 Q0.out; go_simp; try rfl)
    go_simp; refine tkP 20 ?_
    go_simp; refine tkP 21 ?_
    go_simp; refine tkP 22 ?_
    go_simp; refine tkP 23 ?_
    go_simp; refine tkP 24 ?_ (y := by intro w hZ; obtain ⟨v0, v1, v2, v3, v4, v5, v6⟩ := c7X hZ.2.2.1; go_simp; try rfl)
    go_simp; refine tkP 25 ?_
    go_simp; refine tkP 26 ?_
    go_simp; refine skW 27 ?_
    go_simp; refine skW 28 ?_
    go_simp; refine skW 29 ?_
    go_simp; refine skW 30 ?_
    go_simp; refine skW 31 ?_
    go_simp; refine tkP 32 ?_
    go_simp; refine tkP 33 ?_
    go_simp; refine tkP 34 ?_
    go_simp; refine dnW ?_ _
    have KZ := hD hH; clear hH; go_wp2_with fail
    go_meet
    case rel => exact ⟨rfl, KZ.out⟩
 case rest =>
  clear a0 a1 a2 a3 a4 a5 a6 a7 a8 c0 c1 c2 c3 c4 c5 c6 c7 c8 HH K2 hx h h1 h2 h3 h45 HND; obtain ⟨rfl, hr⟩ := hcut; obtain ⟨qa, qn, qc, qd, qm, qe, h0⟩ := TdO.new hr; obtain ⟨wd, hwd⟩ : ∃ x, wc.alloc (.cells #[.slice none 0 0, .slice none 0 0, (0:Int)] 39) = x := ⟨_, rfl⟩
  obtain ⟨ob, hob⟩ : ∃ x, wc.heap.size = x := ⟨_, rfl⟩
  rw [hwd, hob] at h0; have H := hD h0; have HDN := hD (fun w1 => refDown8_any gk w1); have han := fun w1 k c => rAnswer (w := w1) (⟨gk, gf, gt, gn, gs, gr, gp, go, gc⟩ : MM) k c
  dsimp only [MM.cells, answerM] at han; obtain ⟨HAN, HWD, HOE⟩ := hD3 han hwd hob; clear hwd hob hr h0 han; go_upto_region 7 with fail
  rw [HWD.out, HOE.out]; clear HWD HOE; obtain ⟨a0, a1, a2, a3, a4, a5, a6, a7, a8⟩ := cells9 H.out.rw.1; obtain ⟨p0, p1, p2, p3, p4, p5, p6⟩ := c7X H.out.rw.2.2.1; obtain ⟨z0, z1, z2⟩ := cellsR3 H.out.rw.2.1; obtain ⟨j0, j1, j2⟩ := cellsR3 H.out.r3; have fz := frozN H.out.rw.2.1
  by_cases k18 : gk = 18
  ·have g18 : (gk == 18) = true := beq_iff_eq.2 k18
   by_cases hr : ur < 0
   ·have hfi := HFI.out; have hT : tellP m (⟨gk, gf, gt, gn, gs, gr, gp, go, gc⟩ : MM) = ⟨[(⟨7, 0, 0, gr, 0, gp, 0, 0, 0, 0, 0, 0, 0, 0⟩ : FX)], [], 0⟩ := by
     unfold tellP; rw [hfi]; refine (if_pos k18).trans ?_
     exact congrArg (fun x => (⟨x, [], 0⟩ : RsM)) (if_pos hr)
    have HT := hD hT; have d1 := dT hr; clear HFI hT hfi k18 hr; go_upto_if 68 with fail
    go_cut [] from 226 (TdQ w #[.int .i64 gk, .int .i64 gf, .int .i64 gt, .int .i64 gn, .int .i64 gs, .int .i64 gr, .int .i64 gp, .int .i64 go, .int .i64 gc] #[.int .i64 un, .int .i64 us, .int .i64 ur, .int .i64 u1, .int .i64 u2, .int .i64 u3, .int .i64 u4] none ob [(⟨7, 0, 0, gr, 0, gp, 0, 0, 0, 0, 0, 0, 0, 0⟩ : FX)] ([] : List MM) 0)
    case first =>
     have HA := hD (H.out.kp (kA wd (.cells #[(7:Int), (0:Int), (0:Int), gr, (0:Int), gp, (0:Int), (0:Int), (0:Int), (0:Int), (0:Int), (0:Int), (0:Int), .float .f64 0] 82))); go_wp2_with (at_builtin; refine aG (E := fcE) ty_fcD (by decide) _ rfl _ _ rfl (w.heap.size + 1 + 1 + 1) _ qn ([] : List FX) rfl HA.out.of _ [(⟨7, 0, 0, gr, 0, gp, 0, 0, 0, 0, 0, 0, 0, 0⟩ : FX)] rfl (pG (mH wd (.cells #[(7:Int), (0:Int), (0:Int), gr, (0:Int), gp, (0:Int), (0:Int), (0:Int), (0:Int), (0:Int), (0:Int), (0:Int), .float .f64 0] 82)) rfl) (show qn + 1 ≤ 1000000 by rw [← HA.out.nf]; decide) HA.out.base ?_)
     rintro v1 u1 o1 hg1 hb1; obtain ⟨xa, xc, rfl⟩ := fG (n := qn + 1) o1; obtain ⟨j0', j1', j2'⟩ := cellsR3 (HA.out.r3F hg1); have fu := frozN (HA.out.r3F hg1); have H := hD (HA.out.addF hg1 o1); clear HA o1 hg1 hb1; go_wp2_with fail
     go_meet
     case rel => exact ⟨_, _, _, _, _, _, H.out⟩
    case rest =>
     clear a0 a1 a2 a3 a4 a5 a6 a7 a8 p0 p1 p2 p3 p4 p5 p6 z0 z1 z2 j0 j1 j2 fz; obtain ⟨qa, qn, qc, qd, qm, qe, h⟩ := hcut; have H := hD h; clear h; obtain ⟨a0, a1, a2, a3, a4, a5, a6, a7, a8⟩ := cells9 H.out.rw.1; obtain ⟨p0, p1, p2, p3, p4, p5, p6⟩ := c7X H.out.rw.2.2.1; obtain ⟨z0, z1, z2⟩ := cellsR3 H.out.rw.2.1; obtain ⟨j0, j1, j2⟩ := cellsR3 H.out.r3; have fz := frozN H.out.rw.2.1; go_wp2; refine bodyPost_ret (results_cell_row (p := 4) rfl _ _ (w.heap.size + 1) 39 _ (0, 0) _ rfl (setR3 _ _ _ H.out.rw.2.1) Tryz.underlying39 rfl (by kernel_rfl)) rfl ?_
     rw [HT.out]; exact ⟨_, rfl, H.out.rsv⟩
   ·have hfi := HFI.out; have hT : tellP m (⟨gk, gf, gt, gn, gs, gr, gp, go, gc⟩ : MM) = rs0 := by
     unfold tellP; rw [hfi]; refine (if_pos k18).trans ?_
     exact congrArg (fun x => (⟨x, [], 0⟩ : RsM)) (if_neg hr)
    have HT := hD hT; have d1 := dF hr; clear HFI hT hfi k18 hr; go_wp2; refine bodyPost_ret (results_cell_row (p := 4) rfl _ _ (w.heap.size + 1) 39 _ (0, 0) _ rfl (setR3 _ _ _ H.out.rw.2.1) Tryz.underlying39 rfl (by kernel_rfl)) rfl ?_
    rw [HT.out]; exact ⟨_, rfl, H.out.rsv⟩
  have g18 : (gk == 18) = false := by simpa using k18
  by_cases k19 : gk = 19
  ·have g19 : (gk == 19) = true := beq_iff_eq.2 k19; have hfi := HFI.out
   by_cases hc : ur < 0 ∧ u3 = 1 ∧ (gc = 2 ∨ gc = 4 ∨ gc = 5)
   ·obtain ⟨hr, hs, hg⟩ := hc; have hT : tellP m (⟨gk, gf, gt, gn, gs, gr, gp, go, gc⟩ : MM) = ⟨[(⟨8, 0, 0, 0, 0, gp, 0, 0, 0, 0, 14, 1, 0, 0⟩ : FX)], [], 0⟩ := by
     unfold tellP; rw [hfi]; refine (if_neg k18).trans ((if_pos k19).trans ?_)
     exact if_pos ⟨hr, hs, hg⟩
    have HT := hD hT; have d1 := dT hr; clear HFI hT hfi k18 k19 hr; have g3 : (u3 == 1) = true := beq_iff_eq.2 hs; have hq : ((gc == 2) = true) ∨ ((gc == 2) = false ∧ (gc == 4) = true) ∨ ((gc == 2) = false ∧ (gc == 4) = false ∧ (gc == 5) = true) := by rcases hg with h | h | h <;> simp [h]
    clear hs hg
    rcases hq with n2 | ⟨n2, n4⟩ | ⟨n2, n4, n5⟩ <;> (
     go_upto_if 108 with fail
     go_cut [] from 226 (TdQ w #[.int .i64 gk, .int .i64 gf, .int .i64 gt, .int .i64 gn, .int .i64 gs, .int .i64 gr, .int .i64 gp, .int .i64 go, .int .i64 gc] #[.int .i64 un, .int .i64 us, .int .i64 ur, .int .i64 u1, .int .i64 u2, .int .i64 u3, .int .i64 u4] none ob [(⟨8, 0, 0, 0, 0, gp, 0, 0, 0, 0, 14, 1, 0, 0⟩ : FX)] ([] : List MM) 0)
     case first =>
      have HA := hD (H.out.kp (kA wd (.cells #[(8:Int), (0:Int), (0:Int), (0:Int), (0:Int), gp, (0:Int), (0:Int), (0:Int), (0:Int), (14:Int), (1:Int), (0:Int), .float .f64 0] 82))); go_wp2_with (at_builtin; refine aG (E := fcE) ty_fcD (by decide) _ rfl _ _ rfl (w.heap.size + 1 + 1 + 1) _ qn ([] : List FX) rfl HA.out.of _ [(⟨8, 0, 0, 0, 0, gp, 0, 0, 0, 0, 14, 1, 0, 0⟩ : FX)] rfl (pG (mH wd (.cells #[(8:Int), (0:Int), (0:Int), (0:Int), (0:Int), gp, (0:Int), (0:Int), (0:Int), (0:Int), (14:Int), (1:Int), (0:Int), .float .f64 0] 82)) rfl) (show qn + 1 ≤ 1000000 by rw [← HA.out.nf]; decide) HA.out.base ?_)
      rintro v1 u1 o1 hg1 hb1; obtain ⟨xa, xc, rfl⟩ := fG (n := qn + 1) o1; obtain ⟨j0', j1', j2'⟩ := cellsR3 (HA.out.r3F hg1); have fu := frozN (HA.out.r3F hg1); have H := hD (HA.out.addF hg1 o1); clear HA o1 hg1 hb1; go_wp2_with fail
      go_meet
      case rel => exact ⟨_, _, _, _, _, _, H.out⟩
     case rest =>
      clear a0 a1 a2 a3 a4 a5 a6 a7 a8 p0 p1 p2 p3 p4 p5 p6 z0 z1 z2 j0 j1 j2 fz; obtain ⟨qa, qn, qc, qd, qm, qe, h⟩ := hcut; have H := hD h; clear h; obtain ⟨a0, a1, a2, a3, a4, a5, a6, a7, a8⟩ := cells9 H.out.rw.1; obtain ⟨p0, p1, p2, p3, p4, p5, p6⟩ := c7X H.out.rw.2.2.1; obtain ⟨z0, z1, z2⟩ := cellsR3 H.out.rw.2.1; obtain ⟨j0, j1, j2⟩ := cellsR3 H.out.r3; have fz := frozN H.out.rw.2.1; go_wp2; refine bodyPost_ret (results_cell_row (p := 4) rfl _ _ (w.heap.size + 1) 39 _ (0, 0) _ rfl (setR3 _ _ _ H.out.rw.2.1) Tryz.underlying39 rfl (by kernel_rfl)) rfl ?_
      rw [HT.out]; exact ⟨_, rfl, H.out.rsv⟩
     )
   ·have hT : tellP m (⟨gk, gf, gt, gn, gs, gr, gp, go, gc⟩ : MM) = rs0 := by
     unfold tellP; rw [hfi]; refine (if_neg k18).trans ((if_pos k19).trans ?_)
     exact if_neg hc
    have HT := hD hT
    by_cases hr : ur < 0
    ·have d1 := dT hr
     by_cases hs : u3 = 1
     ·have g3 : (u3 == 1) = true := beq_iff_eq.2 hs; have n2 : (gc == 2) = false := by simpa using fun e => hc ⟨hr, hs, .inl e⟩
      have n4 : (gc == 4) = false := by simpa using fun e => hc ⟨hr, hs, .inr (.inl e)⟩
      have n5 : (gc == 5) = false := by simpa using fun e => hc ⟨hr, hs, .inr (.inr e)⟩
      clear HFI hT hfi k18 k19 hr hs hc; go_wp2; refine bodyPost_ret (results_cell_row (p := 4) rfl _ _ (w.heap.size + 1) 39 _ (0, 0) _ rfl (setR3 _ _ _ H.out.rw.2.1) Tryz.underlying39 rfl (by kernel_rfl)) rfl ?_
      rw [HT.out]; exact ⟨_, rfl, H.out.rsv⟩
     ·have g3 : (u3 == 1) = false := by simpa using hs
      clear HFI hT hfi k18 k19 hr hs hc; go_wp2; refine bodyPost_ret (results_cell_row (p := 4) rfl _ _ (w.heap.size + 1) 39 _ (0, 0) _ rfl (setR3 _ _ _ H.out.rw.2.1) Tryz.underlying39 rfl (by kernel_rfl)) rfl ?_
      rw [HT.out]; exact ⟨_, rfl, H.out.rsv⟩
    ·have d1 := dF hr; clear HFI hT hfi k18 k19 hr hc; go_wp2; refine bodyPost_ret (results_cell_row (p := 4) rfl _ _ (w.heap.size + 1) 39 _ (0, 0) _ rfl (setR3 _ _ _ H.out.rw.2.1) Tryz.underlying39 rfl (by kernel_rfl)) rfl ?_
     rw [HT.out]; exact ⟨_, rfl, H.out.rsv⟩
  have g19 : (gk == 19) = false := by simpa using k19
  by_cases k15 : gk = 15
  ·have g15 : (gk == 15) = true := beq_iff_eq.2 k15; have hfi := HFI.out; have hT : tellP m (⟨gk, gf, gt, gn, gs, gr, gp, go, gc⟩ : MM) = ⟨[], [(⟨16, gt, gf, gn, gs, gr, gp, 0, u3⟩ : MM)], 0⟩ := by
    unfold tellP; rw [hfi]; refine (if_neg k18).trans ((if_neg k19).trans ((if_pos k15).trans ?_))
    rfl
   have HT := hD hT; clear HFI hT hfi k18 k19 k15; go_upto_if 120 with fail
   go_cut [] from 226 (TdQ w #[.int .i64 gk, .int .i64 gf, .int .i64 gt, .int .i64 gn, .int .i64 gs, .int .i64 gr, .int .i64 gp, .int .i64 go, .int .i64 gc] #[.int .i64 un, .int .i64 us, .int .i64 ur, .int .i64 u1, .int .i64 u2, .int .i64 u3, .int .i64 u4] none ob ([] : List FX) [(⟨16, gt, gf, gn, gs, gr, gp, 0, u3⟩ : MM)] 0)
   case first =>
    go_wp2_with fail
    obtain ⟨WD, hWD⟩ : ∃ x, (wd).drew = x := ⟨_, rfl⟩
    have HD := hD (H.out.drew hWD); have HWD := hD hWD; have kDD := Kp.refl WD; clear hWD; refine rgW (RwO w #[.int .i64 gk, .int .i64 gf, .int .i64 gt, .int .i64 gn, .int .i64 gs, .int .i64 gr, .int .i64 gp, .int .i64 go, .int .i64 gc] #[.int .i64 un, .int .i64 us, .int .i64 ur, .int .i64 u1, .int .i64 u2, .int .i64 u3, .int .i64 u4] none) ?_ fun hH => ?_
    ·exact (by rw [HWD.out]; exact HD.out.rw)
    rw [HWD.out] at hH ⊢; refine tkP 0 ?_
    go_simp; refine tkP 2 ?_ (y := by intro w hZ; obtain ⟨y0, y1, y2, y3, y4, y5, y6, y7, y8⟩ := cells9 hZ.1; go_simp; try rfl)
    go_simp; refine tkP 3 ?_
    go_simp; refine tkP 4 ?_
    go_simp; refine tkP 5 ?_ (y := by intro w hZ; obtain ⟨v0, v1, v2, v3, v4, v5, v6⟩ := c7X hZ.2.2.1; go_simp; try rfl)
    go_simp; refine wpAnyH_ready (rs := [1, 6]) (by kernel_rfl) (by simp) ?_
    refine aC (fun K hK => ?_) (aC (fun K hK => ?_) aN0)
    ·have gl := kZ kDD (cellsR3 HD.out.r3).2.1; go_simp; refine hK.out _ _ (hH) fun hH => ?_
     clear hK K; refine rdW 6 fun K hK => ?_
     go_simp; go_wp2_with (go_at_call 39; (with_reducible refine (HAN.out _ _ _).mono ?_); rintro e' W3 ⟨rfl, hk3⟩)
     refine hK.out _ _ (hH.kp hk3) fun hH => ?_
     clear hK K; have k3 := kT kDD hk3; refine rdW 7 fun K hK => ?_
     go_simp; refine hK.out _ _ (hH.kp (kA _ _)) fun hH => ?_
     clear hK K; have o4 := own_oneM (w := W3) (B := W3.heap.size) (⟨16, gt, gf, gn, gs, gr, gp, 0, u3⟩ : MM) (Nat.le_refl _); obtain ⟨W4, hW4⟩ : ∃ x, W3.alloc (.cells #[(16:Int), gt, gf, gn, gs, gr, gp, (0:Int), u3] 26) = x := ⟨_, rfl⟩
     have c4 : Kp W3 W4 := by rw [← hW4]; exact kA _ _
     dsimp only [FX.cells, MM.cells] at o4; rw [hW4] at o4; obtain ⟨xp, hxp⟩ : ∃ x, W3.heap.size = x := ⟨_, rfl⟩
     have k4 := kT k3 c4; rw [hxp] at o4; rw [hW4] at hH ⊢
     try rw [hxp]
     clear hW4 hxp c4; refine wpAnyH_ready (rs := [8]) (by kernel_rfl) (by simp) ?_
     refine AllReadyH.consLG rfl (fun K hK => ?_) aN0
     have P2 := qG (E := mmE) (by decide) o4; have H4 := HD.out.kp k4; go_simp; refine aG (E := mmE) ty_mm (by decide) _ rfl _ _ rfl (w.heap.size + 1 + 1 + 1) _ _ ([] : List MM) rfl H4.om _ _ rfl P2 ?f3 ?f4 ?_
     case f3 => exact (show qm + 1 ≤ 1000000 by rw [← H4.nm]; decide)
     case f4 => exact H4.base
     rintro v5 W5 o5 hg hb; obtain ⟨xa, xc, rfl⟩ := fG (n := qm + 1) o5; refine hK.out _ _ (hH.grow H4.om (by decide) hg) fun hH => ?_
     clear hK K; have r5 := H4.r3M hg; have HA := hD (H4.addM hg o5); clear hg hb P2 o5 H4; refine tkP 9 ?_
     go_simp; refine rdW 10 fun K hK => ?_
     obtain ⟨s0, s1, s2⟩ := cellsR3 r5; have fz5 := frozN r5; go_simp; refine hK.out _ _ (hH.set HD.out.hb HD.out.he _ _) fun hH => ?_
     clear hK K; refine dnW ?_ _
     have H := HA; clear r5 HA hH; go_wp2_with fail
     go_meet
     case rel => exact ⟨_, _, _, _, _, _, H.out⟩
    ·go_simp; go_wp2_with (go_at_call 39; (with_reducible refine (HAN.out _ _ _).mono ?_); rintro e' W3 ⟨rfl, hk3⟩)
     refine hK.out _ _ (hH.kp hk3) fun hH => ?_
     clear hK K; have k3 := kT kDD hk3; refine wpAnyH_ready (rs := [1, 7]) (by kernel_rfl) (by simp) ?_
     refine aC (fun K hK => ?_) (aC (fun K hK => ?_) aN0)
     ·have gl := kZ k3 (cellsR3 HD.out.r3).2.1; go_simp; refine hK.out _ _ (hH) fun hH => ?_
      clear hK K; refine rdW 7 fun K hK => ?_
      go_simp; refine hK.out _ _ (hH.kp (kA _ _)) fun hH => ?_
      clear hK K; have o4 := own_oneM (w := W3) (B := W3.heap.size) (⟨16, gt, gf, gn, gs, gr, gp, 0, u3⟩ : MM) (Nat.le_refl _); obtain ⟨W4, hW4⟩ : ∃ x, W3.alloc (.cells #[(16:Int), gt, gf, gn, gs, gr, gp, (0:Int), u3] 26) = x := ⟨_, rfl⟩
      have c4 : Kp W3 W4 := by rw [← hW4]; exact kA _ _
      dsimp only [FX.cells, MM.cells] at o4; rw [hW4] at o4; obtain ⟨xp, hxp⟩ : ∃ x, W3.heap.size = x := ⟨_, rfl⟩
      have k4 := kT k3 c4; rw [hxp] at o4; rw [hW4] at hH ⊢
      try rw [hxp]
      clear hW4 hxp c4; refine wpAnyH_ready (rs := [8]) (by kernel_rfl) (by simp) ?_
      refine AllReadyH.consLG rfl (fun K hK => ?_) aN0
      have P2 := qG (E := mmE) (by decide) o4; have H4 := HD.out.kp k4; go_simp; refine aG (E := mmE) ty_mm (by decide) _ rfl _ _ rfl (w.heap.size + 1 + 1 + 1) _ _ ([] : List MM) rfl H4.om _ _ rfl P2 ?f3 ?f4 ?_
      case f3 => exact (show qm + 1 ≤ 1000000 by rw [← H4.nm]; decide)
      case f4 => exact H4.base
      rintro v5 W5 o5 hg hb; obtain ⟨xa, xc, rfl⟩ := fG (n := qm + 1) o5; refine hK.out _ _ (hH.grow H4.om (by decide) hg) fun hH => ?_
      clear hK K; have r5 := H4.r3M hg; have HA := hD (H4.addM hg o5); clear hg hb P2 o5 H4; refine tkP 9 ?_
      go_simp; refine rdW 10 fun K hK => ?_
      obtain ⟨s0, s1, s2⟩ := cellsR3 r5; have fz5 := frozN r5; go_simp; refine hK.out _ _ (hH.set HD.out.hb HD.out.he _ _) fun hH => ?_
      clear hK K; refine dnW ?_ _
      have H := HA; clear r5 HA hH; go_wp2_with fail
      go_meet
      case rel => exact ⟨_, _, _, _, _, _, H.out⟩
     ·go_simp; refine hK.out _ _ (hH.kp (kA _ _)) fun hH => ?_
      clear hK K; have o4 := own_oneM (w := W3) (B := W3.heap.size) (⟨16, gt, gf, gn, gs, gr, gp, 0, u3⟩ : MM) (Nat.le_refl _); obtain ⟨W4, hW4⟩ : ∃ x, W3.alloc (.cells #[(16:Int), gt, gf, gn, gs, gr, gp, (0:Int), u3] 26) = x := ⟨_, rfl⟩
      have c4 : Kp W3 W4 := by rw [← hW4]; exact kA _ _
      dsimp only [FX.cells, MM.cells] at o4; rw [hW4] at o4; obtain ⟨xp, hxp⟩ : ∃ x, W3.heap.size = x := ⟨_, rfl⟩
      have k4 := kT k3 c4; rw [hxp] at o4; rw [hW4] at hH ⊢
      try rw [hxp]
      clear hW4 hxp c4; refine rdW 1 fun K hK => ?_
      have gl := kZ k4 (cellsR3 HD.out.r3).2.1; go_simp; refine hK.out _ _ (hH) fun hH => ?_
      clear hK K; refine wpAnyH_ready (rs := [8]) (by kernel_rfl) (by simp) ?_
      refine AllReadyH.consLG rfl (fun K hK => ?_) aN0
      have P2 := qG (E := mmE) (by decide) o4; have H4 := HD.out.kp k4; go_simp; refine aG (E := mmE) ty_mm (by decide) _ rfl _ _ rfl (w.heap.size + 1 + 1 + 1) _ _ ([] : List MM) rfl H4.om _ _ rfl P2 ?f3 ?f4 ?_
      case f3 => exact (show qm + 1 ≤ 1000000 by rw [← H4.nm]; decide)
      case f4 => exact H4.base
      rintro v5 W5 o5 hg hb; obtain ⟨xa, xc, rfl⟩ := fG (n := qm + 1) o5; refine hK.out _ _ (hH.grow H4.om (by decide) hg) fun hH => ?_
      clear hK K; have r5 := H4.r3M hg; have HA := hD (H4.addM hg o5); clear hg hb P2 o5 H4; refine tkP 9 ?_
      go_simp; refine rdW 10 fun K hK => ?_
      obtain ⟨s0, s1, s2⟩ := cellsR3 r5; have fz5 := frozN r5; go_simp; refine hK.out _ _ (hH.set HD.out.hb HD.out.he _ _) fun hH => ?_
      clear hK K; refine dnW ?_ _
      have H := HA; clear r5 HA hH; go_wp2_with fail
      go_meet
      case rel => exact ⟨_, _, _, _, _, _, H.out⟩
   case rest =>
    clear a0 a1 a2 a3 a4 a5 a6 a7 a8 p0 p1 p2 p3 p4 p5 p6 z0 z1 z2 j0 j1 j2 fz; obtain ⟨qa, qn, qc, qd, qm, qe, h⟩ := hcut; have H := hD h; clear h; obtain ⟨a0, a1, a2, a3, a4, a5, a6, a7, a8⟩ := cells9 H.out.rw.1; obtain ⟨p0, p1, p2, p3, p4, p5, p6⟩ := c7X H.out.rw.2.2.1; obtain ⟨z0, z1, z2⟩ := cellsR3 H.out.rw.2.1; obtain ⟨j0, j1, j2⟩ := cellsR3 H.out.r3; have fz := frozN H.out.rw.2.1; go_wp2; refine bodyPost_ret (results_cell_row (p := 4) rfl _ _ (w.heap.size + 1) 39 _ (0, 0) _ rfl (setR3 _ _ _ H.out.rw.2.1) Tryz.underlying39 rfl (by kernel_rfl)) rfl ?_
    rw [HT.out]; exact ⟨_, rfl, H.out.rsv⟩
  have g15 : (gk == 15) = false := by simpa using k15
  have hfi := HFI.out; have hd := HDD.out; rw [hd] at HDN; have hT : tellP m (⟨gk, gf, gt, gn, gs, gr, gp, go, gc⟩ : MM) = rs0 := by
   unfold tellP; rw [hfi]; refine (if_neg k18).trans ((if_neg k19).trans ((if_neg k15).trans ((if_pos hd).trans ?_)))
   rfl
  have HT := hD hT; clear HFI hT hfi HDD k18 k19 k15 hd; go_wp2_with (go_at_call 40; (with_reducible refine (HDN.out _).mono ?_); rintro e' w3 ⟨rfl, rfl⟩)
  refine bodyPost_ret (results_cell_row (p := 4) rfl _ _ (w.heap.size + 1) 39 _ (0, 0) _ rfl (setR3 _ _ _ H.out.rw.2.1) Tryz.underlying39 rfl (by kernel_rfl)) rfl ?_
  rw [HT.out]; exact ⟨_, rfl, H.out.rsv⟩
end Go.Proofs.YtncoofnhifcnhaaGreatDoor
