/- Parts of this proof (own work). -/
import Derived.Test.YtncoofnhifcnhaaGreatDoorZt36
import Derived.Test.YtncoofnhifcnhaaGreatDoorZt37
set_option maxRecDepth 100000
set_option maxHeartbeats 40000000
namespace Go.Proofs.YtncoofnhifcnhaaGreatDoor
open Go.RowKit Go.ChangeShapes Go.WideShapes
variable {w0 w w' W w3 : World} {B q : Nat} {m : StM} {ads : List Addr}
theorem rTellB (h : SD B q m w) (gk gf gt gn gs gr gp go gc : Int) (nd un us ur u1 u2 u3 u4 : Int) (hnd : m.node = nd) (hsp : (prtP m gp = none ∧ un = 0 ∧ us = 0 ∧ ur = -1 ∧ u1 = 0 ∧ u2 = 0 ∧ u3 = 0 ∧ u4 = 0) ∨ (prtP m gp = some ⟨un, us, ur, ⟨u1, u2, u3, u4⟩⟩ ∧ (decide (un = gn ∧ us = gs) && (gf == gn && (gt == nd && (decide (ur < 0) || ur == gr)))) = false)) (hfi : fitsP m (⟨gk, gf, gt, gn, gs, gr, gp, go, gc⟩ : MM) = none) : Calls Tryz.prog 13 #[.pointer (some ⟨q, 0, none⟩), .agg #[gk, gf, gt, gn, gs, gr, gp, go, gc]] w fun r w' => ∃ v, r = .returned v ∧ RsV 82 w.heap.size (tellP m (⟨gk, gf, gt, gn, gs, gr, gp, go, gc⟩ : MM)) v w' ∧ Kp w w' := by
 obtain ⟨b0, hb0⟩ : ∃ x, (prtP m gp).isSome = x := ⟨_, rfl⟩
 obtain ⟨HND, HFI, HSP⟩ := hD3 hnd hfi hsp; have HH := hD (fun w1 (hk : Kp w w1) => rHas (h.kp hk) gp b0 hb0); have K2 := hD (pk2 w (.cells #[gk, gf, gt, gn, gs, gr, gp, go, gc] 26) (.cells #[.slice none 0 0, .slice none 0 0, (0:Int)] 39)); obtain ⟨a0, a1, a2, a3, a4, a5, a6, a7, a8⟩ := cells9 (nX0 w (.cells #[gk, gf, gt, gn, gs, gr, gp, go, gc] 26) (.cells #[.slice none 0 0, .slice none 0 0, (0:Int)] 39)); obtain ⟨c0, c1, c2, c3, c4, c5, c6, c7, c8⟩ := cells9 (p3_0 w (.cells #[gk, gf, gt, gn, gs, gr, gp, go, gc] 26) (.cells #[.slice none 0 0, .slice none 0 0, (0:Int)] 39) (.cells #[(0:Int), (0:Int), .int .i64 (-1), (0:Int), (0:Int), (0:Int), (0:Int)] 95)); clear hnd hfi hsp; go_enter Tryz.func13, Tryz.ntmps13; go_upto_if 15 with (go_at_call 38; (with_reducible refine (HH.out _ K2.out).mono ?_); rintro e' w2 ⟨rfl, rfl⟩)
 go_cut [5] from 226 (fun s5 w' => s5 = .bool false ∧ RwO w #[.int .i64 gk, .int .i64 gf, .int .i64 gt, .int .i64 gn, .int .i64 gs, .int .i64 gr, .int .i64 gp, .int .i64 go, .int .i64 gc] #[.int .i64 un, .int .i64 us, .int .i64 ur, .int .i64 u1, .int .i64 u2, .int .i64 u3, .int .i64 u4] none w')
 case first =>
  have H := HSP.out
  rcases H with ⟨hx, rfl, rfl, rfl, rfl, rfl, rfl, rfl⟩ | ⟨hx, hb⟩
  ·have e0 : false = b0 := by rw [← hb0, hx]; rfl
   subst e0; clear hb0 HH; go_wp2_with fail
   go_meet
   case rel => exact ⟨rfl, p3_0 w _ _ _, p3_1 w _ _ _, p3_2 w _ _ _, (fun x e => by cases e), pk3 w _ _ _⟩
  ·have e0 : true = b0 := by rw [← hb0, hx]; rfl
   subst e0; obtain ⟨np, hnp⟩ : ∃ n, m.parts.length = n := ⟨_, rfl⟩
   obtain ⟨gb, dp, q0, q3, hi0, hiN, hpc⟩ := h.lookAt gp ⟨un, us, ur, ⟨u1, u2, u3, u4⟩⟩ hx np hnp; rw [HND.out] at q0; obtain ⟨N, hN⟩ : ∃ N : Int, (np : Int) = N := ⟨_, rfl⟩
   have iN : gp < N := by omega
   have X0 := hD (show w.cell? ⟨gb, gp.toNat * 7, none⟩ = some (.int .i64 un) from hpc 0 _ (by decide) rfl); have X1 := hD (show w.cell? ⟨gb, gp.toNat * 7 + 1, none⟩ = some (.int .i64 us) from hpc 1 _ (by decide) rfl); have X2 := hD (show w.cell? ⟨gb, gp.toNat * 7 + 2, none⟩ = some (.int .i64 ur) from hpc 2 _ (by decide) rfl); have X3 := hD (show w.cell? ⟨gb, gp.toNat * 7 + 3, none⟩ = some (.int .i64 u1) from hpc 3 _ (by decide) rfl); have X4 := hD (show w.cell? ⟨gb, gp.toNat * 7 + 4, none⟩ = some (.int .i64 u2) from hpc 4 _ (by decide) rfl); have X5 := hD (show w.cell? ⟨gb, gp.toNat * 7 + 5, none⟩ = some (.int .i64 u3) from hpc 5 _ (by decide) rfl); have X6 := hD (show w.cell? ⟨gb, gp.toNat * 7 + 6, none⟩ = some (.int .i64 u4) from hpc 6 _ (by decide) rfl); obtain ⟨Q0, Q3⟩ := hD2 q0 q3; clear hb0 HH HSP HFI HND hx hnp hpc hiN h q0 q3; go_upto_region 4 with fail
   go_cut [] from 226 (RwO w #[.int .i64 gk, .int .i64 gf, .int .i64 gt, .int .i64 gn, .int .i64 gs, .int .i64 gr, .int .i64 gp, .int .i64 go, .int .i64 gc] #[.int .i64 un, .int .i64 us, .int .i64 ur, .int .i64 u1, .int .i64 u2, .int .i64 u3, .int .i64 u4] none)
   case first =>
    obtain ⟨WD, hWD⟩ : ∃ x, (((w.alloc (.cells #[gk, gf, gt, gn, gs, gr, gp, go, gc] 26)).alloc (.cells #[.slice none 0 0, .slice none 0 0, (0:Int)] 39)).alloc (.cells #[(0:Int), (0:Int), .int .i64 (-1), (0:Int), (0:Int), (0:Int), (0:Int)] 95)).drew = x := ⟨_, rfl⟩
    have kD : Kp (((w.alloc (.cells #[gk, gf, gt, gn, gs, gr, gp, go, gc] 26)).alloc (.cells #[.slice none 0 0, .slice none 0 0, (0:Int)] 39)).alloc (.cells #[(0:Int), (0:Int), .int .i64 (-1), (0:Int), (0:Int), (0:Int), (0:Int)] 95)) WD := by rw [← hWD]; exact dQ (Kp.refl _)
    have HWD := hD hWD; have RPD := hD (rZ kD (p3_2 w _ _ _)); clear hWD; refine rgW (fun w' => w'.heap[w.heap.size]? = some (.cells #[gk, gf, gt, gn, gs, gr, gp, go, gc] 26) ∧ w'.heap[w.heap.size + 1]? = some (.cells #[.slice none 0 0, .slice none 0 0, (0:Int)] 39) ∧ Kp w w') ?_ fun hH => ?_
    ·exact by rw [HWD.out]; exact ⟨rZ kD (p3_0 w _ _ _), rZ kD (p3_1 w _ _ _), kT (pk3 w _ _ _) kD⟩
    rw [HWD.out] at hH ⊢; refine tkP 0 ?_
    go_simp; refine tkP 1 ?_
    go_simp; refine tkP 2 ?_
    go_simp; refine tkP 3 ?_ (y := by intro w hZ; have n3 := kZ hZ.2.2 Q3.out; go_simp; try rfl)
    go_simp; refine tkP 4 ?_
    go_simp; refine tkP 5 ?_ (y := by intro w hZ; obtain ⟨y0, y1, y2, y3, y4, y5, y6, y7, y8⟩ := cells9 hZ.1; go_simp; try rfl)
    go_simp; refine tkP 6 ?_
    go_simp; refine tkP 7 ?_ (y := by intro w hZ; have g0 := kZ hZ.2.2 X0.out; have g1 := kZ hZ.2.2 X1.out; have g2 := kZ hZ.2.2 X2.out; have g3 := kZ hZ.2.2 X3.out; have g4 := kZ hZ.2.2 X4.out; have g5 := kZ hZ.2.2 X5.out; have g6 := kZ hZ.2.2 X6.out; go_simp; try rfl)
    go_simp; refine rdW 8 fun K hK => ?_
    have r1 := RPD.out; obtain ⟨s0, s1, s2, s3, s4, s5, s6⟩ := c7X r1; have fz := frozN r1; go_simp; refine hK.out _ _ (⟨(set7_ne (show w.heap.size ≠ w.heap.size + 1 + 1 by omega) _ _ _ _ _ _ _).trans hH.1, (set7_ne (show w.heap.size + 1 ≠ w.heap.size + 1 + 1 by omega) _ _ _ _ _ _ _).trans hH.2.1, set_7_kp hH.2.2 (show w.heap.size ≤ w.heap.size + 1 + 1 by omega) _ _ _ _ _ _ _⟩) fun hH => ?_
    clear hK K; refine dnW ?_ _
    obtain ⟨R1, KZ⟩ := hD2 r1 hH; clear r1 hH; go_wp2_with fail
    go_meet
    case rel => exact ⟨KZ.out.1, KZ.out.2.1, set_7 _ _ _ _ _ _ _ R1.out, (fun x e => by cases e), KZ.out.2.2⟩
   case rest =>
    clear a0 a1 a2 a3 a4 a5 a6 a7 a8 c0 c1 c2 c3 c4 c5 c6 c7 c8; have HR4 := hD hcut; clear hcut; go_upto_region 5 with fail
    obtain ⟨t1, h1⟩ : ∃ x, decide (un = gn ∧ us = gs) = x := ⟨_, rfl⟩
    obtain ⟨t2, h2⟩ : ∃ x, (gf == gn) = x := ⟨_, rfl⟩
    obtain ⟨t3, h3⟩ : ∃ x, (gt == nd) = x := ⟨_, rfl⟩
    obtain ⟨t4, h4⟩ : ∃ x, decide (ur < 0) = x := ⟨_, rfl⟩
    obtain ⟨t5, h5⟩ : ∃ x, (ur == gr) = x := ⟨_, rfl⟩
    have heq : ∀ w, (binOp .eql 24 (.agg #[un, us]) (.agg #[gn, gs])).run Tryz.prog w = .ok (.bool (decide (un = gn ∧ us = gs))) w := fun w => act_eql9 un us gn gs w
    have heg := fun op x y (w : World) => act_guard9 op x y un us gn gs w
    rw [h1] at heq; rw [h1, h2, h3, h4, h5] at hb; clear h1
    cases t1
    ·clear hb; refine rgW (RwO w #[.int .i64 gk, .int .i64 gf, .int .i64 gt, .int .i64 gn, .int .i64 gs, .int .i64 gr, .int .i64 gp, .int .i64 go, .int .i64 gc] #[.int .i64 un, .int .i64 us, .int .i64 ur, .int .i64 u1, .int .i64 u2, .int .i64 u3, .int .i64 u4] none) ?_ fun hH => ?_
     ·exact (HR4.out.kp (dQ (Kp.refl _)))
     refine tkP 0 ?_
     go_simp; refine tkP 1 ?_ (y := by intro w hZ; obtain ⟨v0, v1, v2, v3, v4, v5, v6⟩ := c7X hZ.2.2.1; go_simp; try rfl)
     go_simp; refine tkP 2 ?_
     go_simp; refine tkP 3 ?_ (y := by intro w hZ; obtain ⟨y0, y1, y2, y3, y4, y5, y6, y7, y8⟩ := cells9 hZ.1; go_simp; try rfl)
     go_simp; refine tkP 4 ?_
     go_simp; refine tkP 5 ?_
     go_simp; refine skW 6 ?_
     go_simp; refine skW 7 ?_
     go_simp; refine skW 8 ?_
     go_simp; refine skW 9 ?_
     go_simp; refine skW 10 ?_
     go_simp; refine skW 11 ?_
     go_simp; refine tkP 12 ?_
     go_simp; refine tkP 13 ?_
     go_simp; refine skW 14 ?_
     go_simp; refine skW 15 ?_
     go_simp; refine skW 16 ?_
     go_simp; refine skW 17 ?_
     go_simp; refine skW 18 ?_
     go_simp; refine skW 19 ?_
     go_simp; refine skW 20 ?_
     go_simp; refine tkP 21 ?_
     go_simp; refine tkP 22 ?_
     go_simp; refine skW 23 ?_
     go_simp; refine skW 24 ?_
     go_simp; refine skW 25 ?_
     go_simp; refine skW 26 ?_
     go_simp; refine skW 27 ?_
     go_simp; refine skW 28 ?_
     go_simp; refine skW 29 ?_
     go_simp; refine skW 30 ?_
     go_simp; refine skW 31 ?_
     go_simp; refine skW 32 ?_
     go_simp; refine tkP 33 ?_
     go_simp; refine tkP 34 ?_
     go_simp; refine dnW ?_ _
     have KZ := hD hH; clear hH; go_wp2_with fail
     go_meet
     case rel => exact ⟨rfl, KZ.out⟩
    cases t2
    ·clear hb; refine rgW (RwO w #[.int .i64 gk, .int .i64 gf, .int .i64 gt, .int .i64 gn, .int .i64 gs, .int .i64 gr, .int .i64 gp, .int .i64 go, .int .i64 gc] #[.int .i64 un, .int .i64 us, .int .i64 ur, .int .i64 u1, .int .i64 u2, .int .i64 u3, .int .i64 u4] none) ?_ fun hH => ?_
     ·exact (HR4.out.kp (dQ (Kp.refl _)))
     refine tkP 0 ?_
     go_simp; refine tkP 1 ?_ (y := by intro w hZ; obtain ⟨v0, v1, v2, v3, v4, v5, v6⟩ := c7X hZ.2.2.1; go_simp; try rfl)
     go_simp; refine tkP 2 ?_
     go_simp; refine tkP 3 ?_ (y := by intro w hZ; obtain ⟨y0, y1, y2, y3, y4, y5, y6, y7, y8⟩ := cells9 hZ.1; go_simp; try rfl)
     go_simp; refine tkP 4 ?_
     go_simp; refine tkP 5 ?_
     go_simp; refine tkP 6 ?_
     go_simp; refine tkP 7 ?_ (y := by intro w hZ; obtain ⟨y0, y1, y2, y3, y4, y5, y6, y7, y8⟩ := cells9 hZ.1; go_simp; try rfl)
     go_simp; refine tkP 8 ?_
     go_simp; refine tkP 9 ?_
     go_simp; refine tkP 10 ?_ (y := by intro w hZ; obtain ⟨y0, y1, y2, y3, y4, y5, y6, y7, y8⟩ := cells9 hZ.1; go_simp; try rfl)
     go_simp; refine tkP 11 ?_
     go_simp; refine tkP 12 ?_
     go_simp; refine tkP 13 ?_
     go_simp; refine skW 14 ?_
     go_simp; refine skW 15 ?_
     go_simp; refine skW 16 ?_
     go_simp; refine skW 17 ?_
     go_simp; refine skW 18 ?_
     go_simp; refine skW 19 ?_
     go_simp; refine skW 20 ?_
     go_simp; refine tkP 21 ?_
     go_simp; refine tkP 22 ?_
     go_simp; refine skW 23 ?_
     go_simp; refine skW 24 ?_
     go_simp; refine skW 25 ?_
     go_simp; refine skW 26 ?_
     go_simp; refine skW 27 ?_
     go_simp; refine skW 28 ?_
     go_simp; refine skW 29 ?_
     go_simp; refine skW 30 ?_
     go_simp; refine skW 31 ?_
     go_simp; refine skW 32 ?_
     go_simp; refine tkP 33 ?_
     go_simp; refine tkP 34 ?_
     go_simp; refine dnW ?_ _
     have KZ := hD hH; clear hH; go_wp2_with fail
     go_meet
     case rel => exact ⟨rfl, KZ.out⟩
    cases t3
    ·clear hb; refine rgW (RwO w #[.int .i64 gk, .int .i64 gf, .int .i64 gt, .int .i64 gn, .int .i64 gs, .int .i64 gr, .int .i64 gp, .int .i64 go, .int .i64 gc] #[.int .i64 un, .int .i64 us, .int .i64 ur, .int .i64 u1, .int .i64 u2, .int .i64 u3, .int .i64 u4] none) ?_ fun hH => ?_
     ·exact (HR4.out.kp (dQ (Kp.refl _)))
     refine tkP 0 ?_
     go_simp; refine tkP 1 ?_ (y := by intro w hZ; obtain ⟨v0, v1, v2, v3, v4, v5, v6⟩ := c7X hZ.2.2.1; go_simp; try rfl)
     go_simp; refine tkP 2 ?_
     go_simp; refine tkP 3 ?_ (y := by intro w hZ; obtain ⟨y0, y1, y2, y3, y4, y5, y6, y7, y8⟩ := cells9 hZ.1; go_simp; try rfl)
     go_simp; refine tkP 4 ?_
     go_simp; refine tkP 5 ?_
     go_simp; refine tkP 6 ?_
     go_simp; refine tkP 7 ?_ (y := by intro w hZ; obtain ⟨y0, y1, y2, y3, y4, y5, y6, y7, y8⟩ := cells9 hZ.1; go_simp; try rfl)
     go_simp; refine tkP 8 ?_
     go_simp; refine tkP 9 ?_
     go_simp; refine tkP 10 ?_ (y := by intro w hZ; obtain ⟨y0, y1, y2, y3, y4, y5, y6, y7, y8⟩ := cells9 hZ.1; go_simp; try rfl)
     go_simp; refine tkP 11 ?_
     go_simp; refine tkP 12 ?_
     go_simp; refine tkP 13 ?_
     go_simp; refine tkP 14 ?_
     go_simp; refine tkP 15 ?_ (y := by intro w hZ; obtain ⟨y0, y1, y2, y3, y4, y5, y6, y7, y8⟩ := cells9 hZ.1; go_simp; try rfl)
     go_simp; refine tkP 16 ?_
     go_simp; refine tkP 17 ?_
     go_simp; refine tkP 18 ?_
     go_simp; refine tkP 19 ?_ (y := by intro w hZ; have n0 := kZ hZ.2.2.2.2 Q0.out; go_simp; try rfl)
     go_simp; refine tkP 20 ?_
     go_simp; refine tkP 21 ?_
     go_simp; refine tkP 22 ?_
     go_simp; refine skW 23 ?_
     go_simp; refine skW 24 ?_
     go_simp; refine skW 25 ?_
     go_simp; refine skW 26 ?_
     go_simp; refine skW 27 ?_
     go_simp; refine skW 28 ?_
     go_simp; refine skW 29 ?_
     go_simp; refine skW 30 ?_
     go_simp; refine skW 31 ?_
     go_simp; refine skW 32 ?_
     go_simp; refine tkP 33 ?_
     go_simp; refine tkP 34 ?_
     go_simp; refine dnW ?_ _
     have KZ := hD hH; clear hH; go_wp2_with fail
     go_meet
     case rel => exact ⟨rfl, KZ.out⟩
    cases t4
    rotate_left
    ·cases hb
    cases t5
    rotate_left
    ·cases hb
    clear hb; refine rgW (RwO w #[.int .i64 gk, .int .i64 gf, .int .i64 gt, .int .i64 gn, .int .i64 gs, .int .i64 gr, .int .i64 gp, .int .i64 go, .int .i64 gc] #[.int .i64 un, .int .i64 us, .int .i64 ur, .int .i64 u1, .int .i64 u2, .int .i64 u3, .int .i64 u4] none) ?_ fun hH => ?_
    ·exact (HR4.out.kp (dQ (Kp.refl _)))
    refine tkP 0 ?_
    go_simp; refine tkP 1 ?_ (y := by intro w hZ; obtain ⟨v0, v1, v2, v3, v4, v5, v6⟩ := c7X hZ.2.2.1; go_simp; try rfl)
    go_simp; refine tkP 2 ?_
    go_simp; refine tkP 3 ?_ (y := by intro w hZ; obtain ⟨y0, y1, y2, y3, y4, y5, y6, y7, y8⟩ := cells9 hZ.1; go_simp; try rfl)
    go_simp; refine tkP 4 ?_
    go_simp; refine tkP 5 ?_
    go_simp; refine tkP 6 ?_
    go_simp; refine tkP 7 ?_ (y := by intro w hZ; obtain ⟨y0, y1, y2, y3, y4, y5, y6, y7, y8⟩ := cells9 hZ.1; go_simp; try rfl)
    go_simp; refine tkP 8 ?_
    go_simp; refine tkP 9 ?_
    go_simp; refine tkP 10 ?_ (y := by intro w hZ; obtain ⟨y0, y1, y2, y3, y4, y5, y6, y7, y8⟩ := cells9 hZ.1; go_simp; try rfl)
    go_simp; refine tkP 11 ?_
    go_simp; refine tkP 12 ?_
    go_simp; refine tkP 13 ?_
    go_simp; refine tkP 14 ?_
    go_simp; refine tkP 15 ?_ (y := by intro w hZ; obtain ⟨y0, y1, y2, y3, y4, y5, y6, y7, y8⟩ := cells9 hZ.1; go_simp; try rfl)
    go_simp; refine tkP 16 ?_
    go_simp; refine tkP 17 ?_
    go_simp; refine tkP 18 ?_
    go_simp; refine tkP 19 ?_ (y := by intro w hZ; have n0 := kZ hZ.2.2.2.2 Q0.out; go_simp; try rfl)
    go_simp; refine tkP 20 ?_
    go_simp; refine tkP 21 ?_
    go_simp; refine tkP 22 ?_
    go_simp; refine tkP 23 ?_
    go_simp; refine tkP 24 ?_ (y := by intro w hZ; obtain ⟨v0, v1, v2, v3, v4, v5, v6⟩ := c7X hZ.2.2.1; go_simp; try rfl)
    go_simp; refine tkP 25 ?_
    go_simp; refine tkP 26 ?_
    go_simp; refine tkP 27 ?_
    go_simp; refine tkP 28 ?_ (y := by intro w hZ; obtain ⟨v0, v1, v2, v3, v4, v5, v6⟩ := c7X hZ.2.2.1; go_simp; try rfl)
    go_simp; refine tkP 29 ?_
    go_simp; refine tkP 30 ?_ (y := by intro w hZ; obtain ⟨y0, y1, y2, y3, y4, y5, y6, y7, y8⟩ := cells9 hZ.1; go_simp; try rfl)
    go_simp; refine tkP 31 ?_
    go_simp; refine tkP 32 ?_
    go_simp; refine tkP 33 ?_
    go_simp; refine tkP 34 ?_
    go_simp; refine dnW ?_ _
    have KZ := hD hH; clear hH; go_wp2_with fail
    go_meet
    case rel => exact ⟨rfl, KZ.out⟩
 case rest =>
  clear a0 a1 a2 a3 a4 a5 a6 a7 a8 c0 c1 c2 c3 c4 c5 c6 c7 c8 HH K2 HSP hb0 HND h; obtain ⟨rfl, hr⟩ := hcut; obtain ⟨qa, qn, qc, qd, qm, qe, h0⟩ := TdO.new hr; obtain ⟨wd, hwd⟩ : ∃ x, wc.alloc (.cells #[.slice none 0 0, .slice none 0 0, (0:Int)] 39) = x := ⟨_, rfl⟩
  obtain ⟨ob, hob⟩ : ∃ x, wc.heap.size = x := ⟨_, rfl⟩
  rw [hwd, hob] at h0; have H := hD h0; have HDN := hD (fun w1 => refDown8_any gk w1); have han := fun w1 k c => rAnswer (w := w1) (⟨gk, gf, gt, gn, gs, gr, gp, go, gc⟩ : MM) k c
  dsimp only [MM.cells, answerM] at han; obtain ⟨HAN, HWD, HOE⟩ := hD3 han hwd hob; clear hwd hob hr h0 han; go_upto_region 7 with fail
  rw [HWD.out, HOE.out]; clear HWD HOE; obtain ⟨a0, a1, a2, a3, a4, a5, a6, a7, a8⟩ := cells9 H.out.rw.1; obtain ⟨p0, p1, p2, p3, p4, p5, p6⟩ := c7X H.out.rw.2.2.1; obtain ⟨z0, z1, z2⟩ := cellsR3 H.out.rw.2.1; obtain ⟨j0, j1, j2⟩ := cellsR3 H.out.r3; have fz := frozN H.out.rw.2.1; have hfi := HFI.out
  by_cases k18 : gk = 18
  ·have g18 : (gk == 18) = true := beq_iff_eq.2 k18; have hT : tellP m (⟨gk, gf, gt, gn, gs, gr, gp, go, gc⟩ : MM) = rs0 := by
    unfold tellP; rw [hfi]; exact if_pos k18
   have HT := hD hT; clear HFI hT hfi k18; go_wp2; refine bodyPost_ret (results_cell_row (p := 4) rfl _ _ (w.heap.size + 1) 39 _ (0, 0) _ rfl (setR3 _ _ _ H.out.rw.2.1) Tryz.underlying39 rfl (by kernel_rfl)) rfl ?_
   rw [HT.out]; exact ⟨_, rfl, H.out.rsv⟩
  have g18 : (gk == 18) = false := by simpa using k18
  by_cases k19 : gk = 19
  ·have g19 : (gk == 19) = true := beq_iff_eq.2 k19; have hT : tellP m (⟨gk, gf, gt, gn, gs, gr, gp, go, gc⟩ : MM) = rs0 := by
    unfold tellP; rw [hfi]; refine (if_neg k18).trans ((if_pos k19).trans ?_)
    rfl
   have HT := hD hT; clear HFI hT hfi k18 k19; go_wp2; refine bodyPost_ret (results_cell_row (p := 4) rfl _ _ (w.heap.size + 1) 39 _ (0, 0) _ rfl (setR3 _ _ _ H.out.rw.2.1) Tryz.underlying39 rfl (by kernel_rfl)) rfl ?_
   rw [HT.out]; exact ⟨_, rfl, H.out.rsv⟩
  have g19 : (gk == 19) = false := by simpa using k19
  by_cases k15 : gk = 15
  ·have g15 : (gk == 15) = true := beq_iff_eq.2 k15; have hT : tellP m (⟨gk, gf, gt, gn, gs, gr, gp, go, gc⟩ : MM) = ⟨[], [(⟨19, gt, gf, gn, gs, gr, gp, 0, 3⟩ : MM)], 0⟩ := by
    unfold tellP; rw [hfi]; refine (if_neg k18).trans ((if_neg k19).trans ((if_pos k15).trans ?_))
    rfl
   have HT := hD hT; clear HFI hT hfi k18 k19 k15; go_upto_if 120 with fail
   go_cut [] from 226 (TdQ w #[.int .i64 gk, .int .i64 gf, .int .i64 gt, .int .i64 gn, .int .i64 gs, .int .i64 gr, .int .i64 gp, .int .i64 go, .int .i64 gc] #[.int .i64 un, .int .i64 us, .int .i64 ur, .int .i64 u1, .int .i64 u2, .int .i64 u3, .int .i64 u4] none ob ([] : List FX) [(⟨19, gt, gf, gn, gs, gr, gp, 0, 3⟩ : MM)] 0)
   case first =>
    go_wp2_with fail
    obtain ⟨WD, hWD⟩ : ∃ x, (wd).drew = x := ⟨_, rfl⟩
    have HD := hD (H.out.drew hWD); have HWD := hD hWD; have kDD := Kp.refl WD; clear hWD; refine rgW (RwO w #[.int .i64 gk, .int .i64 gf, .int .i64 gt, .int .i64 gn, .int .i64 gs, .int .i64 gr, .int .i64 gp, .int .i64 go, .int .i64 gc] #[.int .i64 un, .int .i64 us, .int .i64 ur, .int .i64 u1, .int .i64 u2, .int .i64 u3, .int .i64 u4] none) ?_ fun hH => ?_
    ·exact (by rw [HWD.out]; exact HD.out.rw)
    rw [HWD.out] at hH ⊢; refine tkP 0 ?_
    go_simp; refine tkP 2 ?_ (y := by intro w hZ; obtain ⟨y0, y1, y2, y3, y4, y5, y6, y7, y8⟩ := cells9 hZ.1; go_simp; try rfl)
    go_simp; refine wpAnyH_ready (rs := [1, 3]) (by kernel_rfl) (by simp) ?_
    refine aC (fun K hK => ?_) (aC (fun K hK => ?_) aN0)
    ·have gl := kZ kDD (cellsR3 HD.out.r3).2.1; go_simp; refine hK.out _ _ (hH) fun hH => ?_
     clear hK K; refine rdW 3 fun K hK => ?_
     go_simp; go_wp2_with (go_at_call 39; (with_reducible refine (HAN.out _ _ _).mono ?_); rintro e' W3 ⟨rfl, hk3⟩)
     refine hK.out _ _ (hH.kp hk3) fun hH => ?_
     clear hK K; have k3 := kT kDD hk3; refine rdW 4 fun K hK => ?_
     go_simp; refine hK.out _ _ (hH.kp (kA _ _)) fun hH => ?_
     clear hK K; have o4 := own_oneM (w := W3) (B := W3.heap.size) (⟨19, gt, gf, gn, gs, gr, gp, 0, 3⟩ : MM) (Nat.le_refl _); obtain ⟨W4, hW4⟩ : ∃ x, W3.alloc (.cells #[(19:Int), gt, gf, gn, gs, gr, gp, (0:Int), (3:Int)] 26) = x := ⟨_, rfl⟩
     have c4 : Kp W3 W4 := by rw [← hW4]; exact kA _ _
     dsimp only [FX.cells, MM.cells] at o4; rw [hW4] at o4; obtain ⟨xp, hxp⟩ : ∃ x, W3.heap.size = x := ⟨_, rfl⟩
     have k4 := kT k3 c4; rw [hxp] at o4; rw [hW4] at hH ⊢
     try rw [hxp]
     clear hW4 hxp c4; refine wpAnyH_ready (rs := [5]) (by kernel_rfl) (by simp) ?_
     refine AllReadyH.consLG rfl (fun K hK => ?_) aN0
     have P2 := qG (E := mmE) (by decide) o4; have H4 := HD.out.kp k4; go_simp; refine aG (E := mmE) ty_mm (by decide) _ rfl _ _ rfl (w.heap.size + 1 + 1 + 1) _ _ ([] : List MM) rfl H4.om _ _ rfl P2 ?f3 ?f4 ?_
     case f3 => exact (show qm + 1 ≤ 1000000 by rw [← H4.nm]; decide)
     case f4 => exact H4.base
     rintro v5 W5 o5 hg hb; obtain ⟨xa, xc, rfl⟩ := fG (n := qm + 1) o5; refine hK.out _ _ (hH.grow H4.om (by decide) hg) fun hH => ?_
     clear hK K; have r5 := H4.r3M hg; have HA := hD (H4.addM hg o5); clear hg hb P2 o5 H4; refine tkP 6 ?_
     go_simp; refine rdW 7 fun K hK => ?_
     obtain ⟨s0, s1, s2⟩ := cellsR3 r5; have fz5 := frozN r5; go_simp; refine hK.out _ _ (hH.set HD.out.hb HD.out.he _ _) fun hH => ?_
     clear hK K; refine dnW ?_ _
     have H := HA; clear r5 HA hH; go_wp2_with fail
     go_meet
     case rel => exact ⟨_, _, _, _, _, _, H.out⟩
    ·go_simp; go_wp2_with (go_at_call 39; (with_reducible refine (HAN.out _ _ _).mono ?_); rintro e' W3 ⟨rfl, hk3⟩)
     refine hK.out _ _ (hH.kp hk3) fun hH => ?_
     clear hK K; have k3 := kT kDD hk3; refine wpAnyH_ready (rs := [1, 4]) (by kernel_rfl) (by simp) ?_
     refine aC (fun K hK => ?_) (aC (fun K hK => ?_) aN0)
     ·have gl := kZ k3 (cellsR3 HD.out.r3).2.1; go_simp; refine hK.out _ _ (hH) fun hH => ?_
      clear hK K; refine rdW 4 fun K hK => ?_
      go_simp; refine hK.out _ _ (hH.kp (kA _ _)) fun hH => ?_
      clear hK K; have o4 := own_oneM (w := W3) (B := W3.heap.size) (⟨19, gt, gf, gn, gs, gr, gp, 0, 3⟩ : MM) (Nat.le_refl _); obtain ⟨W4, hW4⟩ : ∃ x, W3.alloc (.cells #[(19:Int), gt, gf, gn, gs, gr, gp, (0:Int), (3:Int)] 26) = x := ⟨_, rfl⟩
      have c4 : Kp W3 W4 := by rw [← hW4]; exact kA _ _
      dsimp only [FX.cells, MM.cells] at o4; rw [hW4] at o4; obtain ⟨xp, hxp⟩ : ∃ x, W3.heap.size = x := ⟨_, rfl⟩
      have k4 := kT k3 c4; rw [hxp] at o4; rw [hW4] at hH ⊢
      try rw [hxp]
      clear hW4 hxp c4; refine wpAnyH_ready (rs := [5]) (by kernel_rfl) (by simp) ?_
      refine AllReadyH.consLG rfl (fun K hK => ?_) aN0
      have P2 := qG (E := mmE) (by decide) o4; have H4 := HD.out.kp k4; go_simp; refine aG (E := mmE) ty_mm (by decide) _ rfl _ _ rfl (w.heap.size + 1 + 1 + 1) _ _ ([] : List MM) rfl H4.om _ _ rfl P2 ?f3 ?f4 ?_
      case f3 => exact (show qm + 1 ≤ 1000000 by rw [← H4.nm]; decide)
      case f4 => exact H4.base
      rintro v5 W5 o5 hg hb; obtain ⟨xa, xc, rfl⟩ := fG (n := qm + 1) o5; refine hK.out _ _ (hH.grow H4.om (by decide) hg) fun hH => ?_
      clear hK K; have r5 := H4.r3M hg; have HA := hD (H4.addM hg o5); clear hg hb P2 o5 H4; refine tkP 6 ?_
      go_simp; refine rdW 7 fun K hK => ?_
      obtain ⟨s0, s1, s2⟩ := cellsR3 r5; have fz5 := frozN r5; go_simp; refine hK.out _ _ (hH.set HD.out.hb HD.out.he _ _) fun hH => ?_
      clear hK K; refine dnW ?_ _
      have H := HA; clear r5 HA hH; go_wp2_with fail
      go_meet
      case rel => exact ⟨_, _, _, _, _, _, H.out⟩
     ·go_simp; refine hK.out _ _ (hH.kp (kA _ _)) fun hH => ?_
      clear hK K; have o4 := own_oneM (w := W3) (B := W3.heap.size) (⟨19, gt, gf, gn, gs, gr, gp, 0, 3⟩ : MM) (Nat.le_refl _); obtain ⟨W4, hW4⟩ : ∃ x, W3.alloc (.cells #[(19:Int), gt, gf, gn, gs, gr, gp, (0:Int), (3:Int)] 26) = x := ⟨_, rfl⟩
      have c4 : Kp W3 W4 := by rw [← hW4]; exact kA _ _
      dsimp only [FX.cells, MM.cells] at o4; rw [hW4] at o4; obtain ⟨xp, hxp⟩ : ∃ x, W3.heap.size = x := ⟨_, rfl⟩
      have k4 := kT k3 c4; rw [hxp] at o4; rw [hW4] at hH ⊢
      try rw [hxp]
      clear hW4 hxp c4; refine rdW 1 fun K hK => ?_
      have gl := kZ k4 (cellsR3 HD.out.r3).2.1; go_simp; refine hK.out _ _ (hH) fun hH => ?_
      clear hK K; refine wpAnyH_ready (rs := [5]) (by kernel_rfl) (by simp) ?_
      refine AllReadyH.consLG rfl (fun K hK => ?_) aN0
      have P2 := qG (E := mmE) (by decide) o4; have H4 := HD.out.kp k4; go_simp; refine aG (E := mmE) ty_mm (by decide) _ rfl _ _ rfl (w.heap.size + 1 + 1 + 1) _ _ ([] : List MM) rfl H4.om _ _ rfl P2 ?f3 ?f4 ?_
      case f3 => exact (show qm + 1 ≤ 1000000 by rw [← H4.nm]; decide)
      case f4 => exact H4.base
      rintro v5 W5 o5 hg hb; obtain ⟨xa, xc, rfl⟩ := fG (n := qm + 1) o5; refine hK.out _ _ (hH.grow H4.om (by decide) hg) fun hH => ?_
      clear hK K; have r5 := H4.r3M hg; have HA := hD (H4.addM hg o5); clear hg hb P2 o5 H4; refine tkP 6 ?_
      go_simp; refine rdW 7 fun K hK => ?_
      obtain ⟨s0, s1, s2⟩ := cellsR3 r5; have fz5 := frozN r5; go_simp; refine hK.out _ _ (hH.set HD.out.hb HD.out.he _ _) fun hH => ?_
      clear hK K; refine dnW ?_ _
      have H := HA; clear r5 HA hH; go_wp2_with fail
      go_meet
      case rel => exact ⟨_, _, _, _, _, _, H.out⟩
   case rest =>
    clear a0 a1 a2 a3 a4 a5 a6 a7 a8 p0 p1 p2 p3 p4 p5 p6 z0 z1 z2 j0 j1 j2 fz; obtain ⟨qa, qn, qc, qd, qm, qe, h⟩ := hcut; have H := hD h; clear h; obtain ⟨a0, a1, a2, a3, a4, a5, a6, a7, a8⟩ := cells9 H.out.rw.1; obtain ⟨p0, p1, p2, p3, p4, p5, p6⟩ := c7X H.out.rw.2.2.1; obtain ⟨z0, z1, z2⟩ := cellsR3 H.out.rw.2.1; obtain ⟨j0, j1, j2⟩ := cellsR3 H.out.r3; have fz := frozN H.out.rw.2.1; go_wp2; refine bodyPost_ret (results_cell_row (p := 4) rfl _ _ (w.heap.size + 1) 39 _ (0, 0) _ rfl (setR3 _ _ _ H.out.rw.2.1) Tryz.underlying39 rfl (by kernel_rfl)) rfl ?_
    rw [HT.out]; exact ⟨_, rfl, H.out.rsv⟩
  have g15 : (gk == 15) = false := by simpa using k15
  obtain ⟨dn, hd⟩ : ∃ x, downM gk = x := ⟨_, rfl⟩
  rw [hd] at HDN
  cases dn with
  | false =>
   have hT : tellP m (⟨gk, gf, gt, gn, gs, gr, gp, go, gc⟩ : MM) = rs0 := by
    unfold tellP; rw [hfi]; refine (if_neg k18).trans ((if_neg k19).trans ((if_neg k15).trans ((if_pos hd).trans ?_)))
    rfl
   have HT := hD hT; clear HFI hT hfi k18 k19 k15 hd; go_wp2_with (go_at_call 40; (with_reducible refine (HDN.out _).mono ?_); rintro e' w3 ⟨rfl, rfl⟩)
   refine bodyPost_ret (results_cell_row (p := 4) rfl _ _ (w.heap.size + 1) 39 _ (0, 0) _ rfl (setR3 _ _ _ H.out.rw.2.1) Tryz.underlying39 rfl (by kernel_rfl)) rfl ?_
   rw [HT.out]; exact ⟨_, rfl, H.out.rsv⟩
  | true =>
   have hT : tellP m (⟨gk, gf, gt, gn, gs, gr, gp, go, gc⟩ : MM) = ⟨[], [(⟨19, gt, gf, gn, gs, gr, gp, 0, 3⟩ : MM)], 0⟩ := by
    unfold tellP; rw [hfi]; refine (if_neg k18).trans ((if_neg k19).trans ((if_neg k15).trans ((if_neg (by rw [hd]; decide)).trans ?_)))
    rfl
   have HT := hD hT; clear HFI hT hfi k18 k19 k15 hd; go_upto_region 24 with (go_at_call 40; (with_reducible refine (HDN.out _).mono ?_); rintro e' w3 ⟨rfl, rfl⟩)
   go_cut [] from 226 (TdQ w #[.int .i64 gk, .int .i64 gf, .int .i64 gt, .int .i64 gn, .int .i64 gs, .int .i64 gr, .int .i64 gp, .int .i64 go, .int .i64 gc] #[.int .i64 un, .int .i64 us, .int .i64 ur, .int .i64 u1, .int .i64 u2, .int .i64 u3, .int .i64 u4] none ob ([] : List FX) [(⟨19, gt, gf, gn, gs, gr, gp, 0, 3⟩ : MM)] 0)
   case first =>
    obtain ⟨WD, hWD⟩ : ∃ x, (wd).drew = x := ⟨_, rfl⟩
    have HD := hD (H.out.drew hWD); have HWD := hD hWD; have kDD := Kp.refl WD; clear hWD; refine rgW (RwO w #[.int .i64 gk, .int .i64 gf, .int .i64 gt, .int .i64 gn, .int .i64 gs, .int .i64 gr, .int .i64 gp, .int .i64 go, .int .i64 gc] #[.int .i64 un, .int .i64 us, .int .i64 ur, .int .i64 u1, .int .i64 u2, .int .i64 u3, .int .i64 u4] none) ?_ fun hH => ?_
    ·exact (by rw [HWD.out]; exact HD.out.rw)
    rw [HWD.out] at hH ⊢; refine tkP 0 ?_
    go_simp; refine tkP 2 ?_ (y := by intro w hZ; obtain ⟨y0, y1, y2, y3, y4, y5, y6, y7, y8⟩ := cells9 hZ.1; go_simp; try rfl)
    go_simp; refine wpAnyH_ready (rs := [1, 3]) (by kernel_rfl) (by simp) ?_
    refine aC (fun K hK => ?_) (aC (fun K hK => ?_) aN0)
    ·have gl := kZ kDD (cellsR3 HD.out.r3).2.1; go_simp; refine hK.out _ _ (hH) fun hH => ?_
     clear hK K; refine rdW 3 fun K hK => ?_
     go_simp; go_wp2_with (go_at_call 39; (with_reducible refine (HAN.out _ _ _).mono ?_); rintro e' W3 ⟨rfl, hk3⟩)
     refine hK.out _ _ (hH.kp hk3) fun hH => ?_
     clear hK K; have k3 := kT kDD hk3; refine rdW 4 fun K hK => ?_
     go_simp; refine hK.out _ _ (hH.kp (kA _ _)) fun hH => ?_
     clear hK K; have o4 := own_oneM (w := W3) (B := W3.heap.size) (⟨19, gt, gf, gn, gs, gr, gp, 0, 3⟩ : MM) (Nat.le_refl _); obtain ⟨W4, hW4⟩ : ∃ x, W3.alloc (.cells #[(19:Int), gt, gf, gn, gs, gr, gp, (0:Int), (3:Int)] 26) = x := ⟨_, rfl⟩
     have c4 : Kp W3 W4 := by rw [← hW4]; exact kA _ _
     dsimp only [FX.cells, MM.cells] at o4; rw [hW4] at o4; obtain ⟨xp, hxp⟩ : ∃ x, W3.heap.size = x := ⟨_, rfl⟩
     have k4 := kT k3 c4; rw [hxp] at o4; rw [hW4] at hH ⊢
     try rw [hxp]
     clear hW4 hxp c4; refine wpAnyH_ready (rs := [5]) (by kernel_rfl) (by simp) ?_
     refine AllReadyH.consLG rfl (fun K hK => ?_) aN0
     have P2 := qG (E := mmE) (by decide) o4; have H4 := HD.out.kp k4; go_simp; refine aG (E := mmE) ty_mm (by decide) _ rfl _ _ rfl (w.heap.size + 1 + 1 + 1) _ _ ([] : List MM) rfl H4.om _ _ rfl P2 ?f3 ?f4 ?_
     case f3 => exact (show qm + 1 ≤ 1000000 by rw [← H4.nm]; decide)
     case f4 => exact H4.base
     rintro v5 W5 o5 hg hb; obtain ⟨xa, xc, rfl⟩ := fG (n := qm + 1) o5; refine hK.out _ _ (hH.grow H4.om (by decide) hg) fun hH => ?_
     clear hK K; have r5 := H4.r3M hg; have HA := hD (H4.addM hg o5); clear hg hb P2 o5 H4; refine tkP 6 ?_
     go_simp; refine rdW 7 fun K hK => ?_
     obtain ⟨s0, s1, s2⟩ := cellsR3 r5; have fz5 := frozN r5; go_simp; refine hK.out _ _ (hH.set HD.out.hb HD.out.he _ _) fun hH => ?_
     clear hK K; refine dnW ?_ _
     have H := HA; clear r5 HA hH; go_wp2_with fail
     go_meet
     case rel => exact ⟨_, _, _, _, _, _, H.out⟩
    ·go_simp; go_wp2_with (go_at_call 39; (with_reducible refine (HAN.out _ _ _).mono ?_); rintro e' W3 ⟨rfl, hk3⟩)
     refine hK.out _ _ (hH.kp hk3) fun hH => ?_
     clear hK K; have k3 := kT kDD hk3; refine wpAnyH_ready (rs := [1, 4]) (by kernel_rfl) (by simp) ?_
     refine aC (fun K hK => ?_) (aC (fun K hK => ?_) aN0)
     ·have gl := kZ k3 (cellsR3 HD.out.r3).2.1; go_simp; refine hK.out _ _ (hH) fun hH => ?_
      clear hK K; refine rdW 4 fun K hK => ?_
      go_simp; refine hK.out _ _ (hH.kp (kA _ _)) fun hH => ?_
      clear hK K; have o4 := own_oneM (w := W3) (B := W3.heap.size) (⟨19, gt, gf, gn, gs, gr, gp, 0, 3⟩ : MM) (Nat.le_refl _); obtain ⟨W4, hW4⟩ : ∃ x, W3.alloc (.cells #[(19:Int), gt, gf, gn, gs, gr, gp, (0:Int), (3:Int)] 26) = x := ⟨_, rfl⟩
      have c4 : Kp W3 W4 := by rw [← hW4]; exact kA _ _
      dsimp only [FX.cells, MM.cells] at o4; rw [hW4] at o4; obtain ⟨xp, hxp⟩ : ∃ x, W3.heap.size = x := ⟨_, rfl⟩
      have k4 := kT k3 c4; rw [hxp] at o4; rw [hW4] at hH ⊢
      try rw [hxp]
      clear hW4 hxp c4; refine wpAnyH_ready (rs := [5]) (by kernel_rfl) (by simp) ?_
      refine AllReadyH.consLG rfl (fun K hK => ?_) aN0
      have P2 := qG (E := mmE) (by decide) o4; have H4 := HD.out.kp k4; go_simp; refine aG (E := mmE) ty_mm (by decide) _ rfl _ _ rfl (w.heap.size + 1 + 1 + 1) _ _ ([] : List MM) rfl H4.om _ _ rfl P2 ?f3 ?f4 ?_
      case f3 => exact (show qm + 1 ≤ 1000000 by rw [← H4.nm]; decide)
      case f4 => exact H4.base
      rintro v5 W5 o5 hg hb; obtain ⟨xa, xc, rfl⟩ := fG (n := qm + 1) o5; refine hK.out _ _ (hH.grow H4.om (by decide) hg) fun hH => ?_
      clear hK K; have r5 := H4.r3M hg; have HA := hD (H4.addM hg o5); clear hg hb P2 o5 H4; refine tkP 6 ?_
      go_simp; refine rdW 7 fun K hK => ?_
      obtain ⟨s0, s1, s2⟩ := cellsR3 r5; have fz5 := frozN r5; go_simp; refine hK.out _ _ (hH.set HD.out.hb HD.out.he _ _) fun hH => ?_
      clear hK K; refine dnW ?_ _
      have H := HA; clear r5 HA hH; go_wp2_with fail
      go_meet
      case rel => exact ⟨_, _, _, _, _, _, H.out⟩
     ·go_simp; refine hK.out _ _ (hH.kp (kA _ _)) fun hH => ?_
      clear hK K; have o4 := own_oneM (w := W3) (B := W3.heap.size) (⟨19, gt, gf, gn, gs, gr, gp, 0, 3⟩ : MM) (Nat.le_refl _); obtain ⟨W4, hW4⟩ : ∃ x, W3.alloc (.cells #[(19:Int), gt, gf, gn, gs, gr, gp, (0:Int), (3:Int)] 26) = x := ⟨_, rfl⟩
      have c4 : Kp W3 W4 := by rw [← hW4]; exact kA _ _
      dsimp only [FX.cells, MM.cells] at o4; rw [hW4] at o4; obtain ⟨xp, hxp⟩ : ∃ x, W3.heap.size = x := ⟨_, rfl⟩
      have k4 := kT k3 c4; rw [hxp] at o4; rw [hW4] at hH ⊢
      try rw [hxp]
      clear hW4 hxp c4; refine rdW 1 fun K hK => ?_
      have gl := kZ k4 (cellsR3 HD.out.r3).2.1; go_simp; refine hK.out _ _ (hH) fun hH => ?_
      clear hK K; refine wpAnyH_ready (rs := [5]) (by kernel_rfl) (by simp) ?_
      refine AllReadyH.consLG rfl (fun K hK => ?_) aN0
      have P2 := qG (E := mmE) (by decide) o4; have H4 := HD.out.kp k4; go_simp; refine aG (E := mmE) ty_mm (by decide) _ rfl _ _ rfl (w.heap.size + 1 + 1 + 1) _ _ ([] : List MM) rfl H4.om _ _ rfl P2 ?f3 ?f4 ?_
      case f3 => exact (show qm + 1 ≤ 1000000 by rw [← H4.nm]; decide)
      case f4 => exact H4.base
      rintro v5 W5 o5 hg hb; obtain ⟨xa, xc, rfl⟩ := fG (n := qm + 1) o5; refine hK.out _ _ (hH.grow H4.om (by decide) hg) fun hH => ?_
      clear hK K; have r5 := H4.r3M hg; have HA := hD (H4.addM hg o5); clear hg hb P2 o5 H4; refine tkP 6 ?_
      go_simp; refine rdW 7 fun K hK => ?_
      obtain ⟨s0, s1, s2⟩ := cellsR3 r5; have fz5 := frozN r5; go_simp; refine hK.out _ _ (hH.set HD.out.hb HD.out.he _ _) fun hH => ?_
      clear hK K; refine dnW ?_ _
      have H := HA; clear r5 HA hH; go_wp2_with fail
      go_meet
      case rel => exact ⟨_, _, _, _, _, _, H.out⟩
   case rest =>
    clear a0 a1 a2 a3 a4 a5 a6 a7 a8 p0 p1 p2 p3 p4 p5 p6 z0 z1 z2 j0 j1 j2 fz; obtain ⟨qa, qn, qc, qd, qm, qe, h⟩ := hcut; have H := hD h; clear h; obtain ⟨a0, a1, a2, a3, a4, a5, a6, a7, a8⟩ := cells9 H.out.rw.1; obtain ⟨p0, p1, p2, p3, p4, p5, p6⟩ := c7X H.out.rw.2.2.1; obtain ⟨z0, z1, z2⟩ := cellsR3 H.out.rw.2.1; obtain ⟨j0, j1, j2⟩ := cellsR3 H.out.r3; have fz := frozN H.out.rw.2.1; go_wp2; refine bodyPost_ret (results_cell_row (p := 4) rfl _ _ (w.heap.size + 1) 39 _ (0, 0) _ rfl (setR3 _ _ _ H.out.rw.2.1) Tryz.underlying39 rfl (by kernel_rfl)) rfl ?_
    rw [HT.out]; exact ⟨_, rfl, H.out.rsv⟩
theorem fits_doc (m : StM) (g : MM) : ∃ un us ur u1 u2 u3 u4 b, fitsP m g = (if b = true then some ⟨un, us, ur, ⟨u1, u2, u3, u4⟩⟩ else none) ∧ ((prtP m g.p = none ∧ b = false ∧ un = 0 ∧ us = 0 ∧ ur = -1 ∧ u1 = 0 ∧ u2 = 0 ∧ u3 = 0 ∧ u4 = 0) ∨ (prtP m g.p = some ⟨un, us, ur, ⟨u1, u2, u3, u4⟩⟩ ∧ (decide (un = g.n ∧ us = g.s) && (g.f == g.n && (g.t == m.node && (decide (ur < 0) || ur == g.r)))) = b)) := by
 unfold fitsP
 cases hx : prtP m g.p with
 | none => exact ⟨0, 0, -1, 0, 0, 0, 0, false, rfl, .inl ⟨rfl, rfl, rfl, rfl, rfl, rfl, rfl, rfl, rfl⟩⟩
 | some x =>
  obtain ⟨un, us, ur, ⟨u1, u2, u3, u4⟩⟩ := x; refine ⟨un, us, ur, u1, u2, u3, u4, _, ?_, .inr ⟨rfl, rfl⟩⟩
  dsimp only
  by_cases hc : un = g.n ∧ us = g.s ∧ g.f = g.n ∧ g.t = m.node ∧ (ur < 0 ∨ ur = g.r)
  ·rw [if_pos hc, if_pos]; simp only [Bool.and_eq_true, decide_eq_true_eq, beq_iff_eq, Bool.or_eq_true]
   exact ⟨⟨hc.1, hc.2.1⟩, hc.2.2⟩
  ·rw [if_neg hc, if_neg]; simp only [Bool.and_eq_true, decide_eq_true_eq, beq_iff_eq, Bool.or_eq_true]
   exact fun h => hc ⟨h.1.1, h.1.2, h.2⟩
def told2 (z : SeatM) (k : Int) : Bool :=
 z.right == false || (((z.tell k).2.changed && (z.tell k).2.send == 0 && (z.tell k).2.fault == 0) || (!(z.tell k).2.changed && (z.tell k).2.fault == 0 && (z.tell k).2.send != 0) || (!(z.tell k).2.changed && (z.tell k).2.send == 0 && (z.tell k).2.fault != 0) || (!(z.tell k).2.changed && (z.tell k).2.send == 0 && (z.tell k).2.fault == 0))
theorem told2_all : seatsL.all (fun z => kindsL.all (told2 z)) = true := by decide +kernel
theorem told2_ok {z : SeatM} {k : Int} (h : OkZ z 2) (hk : 1 ≤ k ∧ k ≤ 14) : ((z.tell k).2.changed = true ∧ (z.tell k).2.send = 0 ∧ (z.tell k).2.fault = 0) ∨ ((z.tell k).2.changed = false ∧ (z.tell k).2.fault = 0 ∧ (z.tell k).2.send ≠ 0) ∨ ((z.tell k).2.changed = false ∧ (z.tell k).2.send = 0 ∧ (z.tell k).2.fault ≠ 0) ∨ ((z.tell k).2.changed = false ∧ (z.tell k).2.send = 0 ∧ (z.tell k).2.fault = 0) := by
 have h1 := List.all_eq_true.1 told2_all z (seats_in h.1 h.2); have h2 := List.all_eq_true.1 h1 k (kinds_in hk); unfold told2 at h2; rw [h.1] at h2; simp only [Bool.or_eq_true, Bool.and_eq_true, beq_iff_eq, bne_iff_ne, Bool.not_eq_true', Bool.true_eq_false, false_or] at h2
 rcases h2 with ((h2 | h2) | h2) | h2
 ·exact .inl ⟨h2.1.1, h2.1.2, h2.2⟩
 ·exact .inr (.inl ⟨h2.1.1, h2.1.2, h2.2⟩)
 ·exact .inr (.inr (.inl ⟨h2.1.1, h2.1.2, h2.2⟩))
 ·exact .inr (.inr (.inr ⟨h2.1.1, h2.1.2, h2.2⟩))
theorem rTell (h : SD B q m w) (ok : OkS m) (gk gf gt gn gs gr gp go gc : Int) : Calls Tryz.prog 13 #[.pointer (some ⟨q, 0, none⟩), .agg #[gk, gf, gt, gn, gs, gr, gp, go, gc]] w fun r w' => ∃ v, r = .returned v ∧ RsV 82 w.heap.size (tellP m (⟨gk, gf, gt, gn, gs, gr, gp, go, gc⟩ : MM)) v w' ∧ Kp w w' := by
 obtain ⟨nd, hnd⟩ : ∃ n, m.node = n := ⟨_, rfl⟩
 obtain ⟨un, us, ur, u1, u2, u3, u4, b, hfits, hsp⟩ := fits_doc m (⟨gk, gf, gt, gn, gs, gr, gp, go, gc⟩ : MM); rw [hnd] at hsp; dsimp only at hsp
 cases b with
 | false =>
  rcases hsp with ⟨hx, _, h'⟩ | h'
  ·exact rTellB h gk gf gt gn gs gr gp go gc nd un us ur u1 u2 u3 u4 hnd (.inl ⟨hx, h'⟩) hfits
  ·exact rTellB h gk gf gt gn gs gr gp go gc nd un us ur u1 u2 u3 u4 hnd (.inr h') hfits
 | true =>
  rcases hsp with ⟨_, h2, _⟩ | ⟨hx, hb⟩
  ·cases h2
  simp only [Bool.and_eq_true] at hb
  obtain ⟨h1, h2, h3, h45⟩ := hb
  cases hd : downM gk with
  | false => exact rTellA h gk gf gt gn gs gr gp go gc nd un us ur u1 u2 u3 u4 hnd hx h1 h2 h3 h45 hfits hd
  | true =>
   have hk14 := down_in hd; have hz : OkZ ⟨u1, u2, u3, u4⟩ 2 := (prt_le ok hx).2.2.2.2.2; have ht0 := (told_ok hz hk14).1; have ht2 := told2_ok hz hk14; obtain ⟨⟨er, ⟨⟨e1, e2, e3, e4⟩, es, ef, ew, ec⟩⟩, hY⟩ : ∃ y, (⟨u1, u2, u3, u4⟩ : SeatM).tell gk = y := ⟨_, rfl⟩
   rw [hY] at ht0 ht2; dsimp only at ht0 ht2; subst ht0; refine rTellD h gk gf gt gn gs gr gp go gc nd un us ur u1 u2 u3 u4 hnd hx h1 h2 h3 h45 hd e1 e2 e3 e4 es ef ew ec hY ht2 _ rfl _ ?_
   unfold tellP; rw [hfits]; refine Eq.symm ((if_neg (show ¬ gk = 18 by omega)).trans ((if_neg (show ¬ gk = 19 by omega)).trans ((if_neg (show ¬ gk = 15 by omega)).trans ((if_neg (by rw [hd]; decide)).trans ?_))))
   try dsimp only
   try rw [if_pos rfl]
   try dsimp only
   rw [hY, hnd]
   rfl
end Go.Proofs.YtncoofnhifcnhaaGreatDoor
