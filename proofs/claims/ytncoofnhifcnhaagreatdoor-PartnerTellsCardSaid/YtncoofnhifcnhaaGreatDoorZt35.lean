/- Parts of this proof (own work). -/
import Derived.Test.YtncoofnhifcnhaaGreatDoorZt34
set_option maxRecDepth 100000
set_option maxHeartbeats 40000000
namespace Go.Proofs.YtncoofnhifcnhaaGreatDoor
open Go.RowKit Go.ChangeShapes Go.WideShapes
variable {w0 w w' W w3 : World} {B q : Nat} {m : StM} {ads : List Addr}
theorem rSame_any (lst : List FX) (ms : List MM) (wk : Int) (v v' : Value) (h : RsV 82 0 ⟨lst, ms, wk⟩ v w) (h' : RsV 82 0 ⟨lst, ms, wk⟩ v' w) (hwf : ∀ f ∈ lst, f.wf) (h10 : lst.length ≤ 10) (h11 : ms.length ≤ 10) : Calls Tryz.prog 11 #[v, v'] w fun r w' => r = .returned (.bool true) ∧ Kp w w' := by
 obtain ⟨n, hn⟩ : ∃ n, lst.length = n := ⟨_, rfl⟩
 obtain ⟨k, hk⟩ : ∃ n, ms.length = n := ⟨_, rfl⟩
 obtain ⟨aa, ac, am, ad, rfl, hfa, hma⟩ := RsV.form (r := ⟨lst, ms, wk⟩) h hn hk; obtain ⟨ba, bc, bm, bd, rfl, hfb, hmb⟩ := RsV.form (r := ⟨lst, ms, wk⟩) h' hn hk; obtain ⟨NN, hNN⟩ : ∃ N : Int, (n : Int) = N := ⟨_, rfl⟩
 obtain ⟨KK, hKK⟩ : ∃ N : Int, (k : Int) = N := ⟨_, rfl⟩
 dsimp only at hfa hma hfb hmb ⊢; obtain ⟨HN, HK, HNN⟩ := hD3 hn hk hNN; have HKK' := hD hKK; have HLn := hD (show n ≤ 10 by omega); have HLk := hD (show k ≤ 10 by omega); obtain ⟨FA, FB, MA, MB, HW⟩ := hD5 hfa hfb hma hmb hwf; have K2 := hD (pk2 w (.cells #[.slice aa n ac, .slice am k ad, wk] 39) (.cells #[.slice ba n bc, .slice bm k bd, wk] 39)); have R0 := hD (nX0 w (.cells #[.slice aa n ac, .slice am k ad, wk] 39) (.cells #[.slice ba n bc, .slice bm k bd, wk] 39)); have R1 := hD (nX1 w (.cells #[.slice aa n ac, .slice am k ad, wk] 39) (.cells #[.slice ba n bc, .slice bm k bd, wk] 39)); obtain ⟨b0, b1, b2⟩ := cellsR3 R0.out; obtain ⟨b3, b4, b5⟩ := cellsR3 R1.out; clear h h' h10 h11 hn hk hfa hma hfb hmb hwf; go_enter Tryz.func11, Tryz.ntmps11; go_wp2; go_loopw [33] (fun i wr => ∃ (j : Nat), j ≤ n ∧ i = .int .i64 j ∧ wr.heap[w.heap.size]? = some (.cells #[.slice aa n ac, .slice am k ad, wk] 39) ∧ wr.heap[w.heap.size + 1]? = some (.cells #[.slice ba n bc, .slice bm k bd, wk] 39) ∧ Kp w wr) (fun i _ => n - (intOf i).toNat)
 case atStart => exact ⟨0, Nat.zero_le _, rfl, R0.out, R1.out, K2.out⟩
 case round =>
  obtain ⟨j, hj, rfl, r0, r1, hk⟩ := hrel; obtain ⟨kk, hkk⟩ : ∃ x : Int, (j : Int) = x := ⟨_, rfl⟩
  rw [hkk]; obtain ⟨HKK, KR, RA, RB⟩ := hD4 hkk hk r0 r1
  by_cases hlt : j < n
  ·have hjl : kk < NN := by have := HNN.out; omega
   have hk0 : 0 ≤ kk := by omega
   have htk : kk.toNat = j := by omega
   have hN8 : NN ≤ 60 := by have := HNN.out; have := HLn.out; omega
   have hw1 : wrap64 (kk + 1) = kk + 1 := IntWalk.wrap64_in _ (by omega); have HLT := hD hlt; have hjx : j < lst.length := by have := HN.out; omega
   obtain ⟨ga, ca, eva, _, _, _, _, hca⟩ := cQ (E := fcE) (oK FA.out hk) HN.out hlt; obtain ⟨gb, cb, evb, _, _, _, _, hcb⟩ := cQ (E := fcE) (oK FB.out hk) HN.out hlt; have hza : ∀ (i : Nat) (u : Value), i < 14 → (fcE.enc (lst[j]'hjx))[i]? = some u → wr.cell? ⟨ga, j * 14 + i, none⟩ = some u := hca; have hzb : ∀ (i : Nat) (u : Value), i < 14 → (fcE.enc (lst[j]'hjx))[i]? = some u → wr.cell? ⟨gb, j * 14 + i, none⟩ = some u := hcb; have eva := congrArg (fun v => match v with | Value.slice a _ _ => a | _ => none) eva; have evb := congrArg (fun v => match v with | Value.slice a _ _ => a | _ => none) evb; dsimp only at eva evb; obtain ⟨⟨fk, fn, fs, fr, fe, fp, fq, fo, fd, fa, ft, fh, fc, fx⟩, hF⟩ : ∃ f, lst[j]'hjx = f := ⟨_, rfl⟩
   have hwj := HW.out _ (List.getElem_mem hjx); rw [hF] at hza hzb hwj; rw [← htk] at hza hzb; have hsm := fun w1 => refSame14_any (⟨fk, fn, fs, fr, fe, fp, fq, fo, fd, fa, ft, fh, fc, fx⟩ : FX) (⟨fk, fn, fs, fr, fe, fp, fq, fo, fd, fa, ft, fh, fc, fx⟩ : FX) hwj hwj w1
   rw [same_refl14] at hsm; dsimp only [FX.cells] at hsm; have HSM := hD hsm; obtain ⟨za0, za1, za2, za3, za4, za5, za6, za7, za8, za9, za10, za11, za12, za13⟩ := cW14 hza; obtain ⟨zb0, zb1, zb2, zb3, zb4, zb5, zb6, zb7, zb8, zb9, zb10, zb11, zb12, zb13⟩ := cW14 hzb; have SA := hD (show wr.cell? ⟨w.heap.size, 0, none⟩ = some (.slice (some ⟨ga, 0, none⟩) n ac) by rw [← eva]; exact (cellsR3 r0).1); have SB := hD (show wr.cell? ⟨w.heap.size + 1, 0, none⟩ = some (.slice (some ⟨gb, 0, none⟩) n bc) by rw [← evb]; exact (cellsR3 r1).1); obtain ⟨ZA0, ZB0, ZA1, ZB1, ZA2, ZB2, ZA3, ZB3⟩ := hD8 za0 zb0 za1 zb1 za2 zb2 za3 zb3; obtain ⟨ZA4, ZB4, ZA5, ZB5, ZA6, ZB6, ZA7, ZB7⟩ := hD8 za4 zb4 za5 zb5 za6 zb6 za7 zb7; obtain ⟨ZA8, ZB8, ZA9⟩ := hD3 za8 zb8 za9
   obtain ⟨ZB9, ZA10, ZB10, ZA11, ZB11, ZA12, ZB12, ZA13⟩ := hD8 zb9 za10 zb10 za11 zb11 za12 zb12 za13; have ZB13 := hD zb13; clear za0 zb0 za1 zb1 za2 zb2 za3 zb3 za4 zb4 za5 zb5 za6 zb6 za7 zb7 za8 zb8 za9 zb9 za10 zb10 za11 zb11 za12 zb12 za13 zb13; clear hkk hj hlt r0 r1 hk htk hjx hca hcb hza hzb eva evb hF hwj hsm; go_wp2_with fail
   obtain ⟨WD, hWD⟩ : ∃ x, wr.drew = x := ⟨_, rfl⟩
   have kD : Kp wr WD := by rw [← hWD]; exact dQ (Kp.refl _)
   have HWD := hD hWD; clear hWD; refine rgW (fun w' => Kp wr w') ?_ fun hH => ?_
   ·exact by rw [HWD.out]; exact kD
   rw [HWD.out] at hH ⊢; refine tkP 0 ?_
   go_simp; refine tkP 1 ?_ (y := by intro w hZ; have g0 := kZ hZ SA.out; go_simp; try rfl)
   go_simp; refine tkP 2 ?_
   go_simp; refine tkP 3 ?_
   go_simp; refine tkP 4 ?_ (y := by intro w hZ; have g0 := kZ hZ ZA0.out; have g1 := kZ hZ ZA1.out; have g2 := kZ hZ ZA2.out; have g3 := kZ hZ ZA3.out; have g4 := kZ hZ ZA4.out; have g5 := kZ hZ ZA5.out; have g6 := kZ hZ ZA6.out; have g7 := kZ hZ ZA7.out; have g8 := kZ hZ ZA8.out; have g9 := kZ hZ ZA9.out; have g10 := kZ hZ ZA10.out; have g11 := kZ hZ ZA11.out; have g12 := kZ hZ ZA12.out; have g13 := kZ hZ ZA13.out; go_simp; try rfl)
   go_simp; refine tkP 5 ?_
   go_simp; refine tkP 6 ?_ (y := by intro w hZ; have g0 := kZ hZ SB.out; go_simp; try rfl)
   go_simp; refine tkP 7 ?_
   go_simp; refine tkP 8 ?_
   go_simp; refine tkP 9 ?_ (y := by intro w hZ; have g0 := kZ hZ ZB0.out; have g1 := kZ hZ ZB1.out; have g2 := kZ hZ ZB2.out; have g3 := kZ hZ ZB3.out; have g4 := kZ hZ ZB4.out; have g5 := kZ hZ ZB5.out; have g6 := kZ hZ ZB6.out; have g7 := kZ hZ ZB7.out; have g8 := kZ hZ ZB8.out; have g9 := kZ hZ ZB9.out; have g10 := kZ hZ ZB10.out; have g11 := kZ hZ ZB11.out; have g12 := kZ hZ ZB12.out; have g13 := kZ hZ ZB13.out; go_simp; try rfl)
   go_simp; refine rdW 10 fun K hK => ?_
   go_simp; go_wp2_with (go_at_call 37; (with_reducible refine (HSM.out _).mono ?_); rintro e' w5 ⟨rfl, hk5⟩)
   refine hK.out _ _ (kT hH hk5) fun hH => ?_
   clear hK K; refine tkP 11 ?_
   go_simp; refine dnW ?_ _
   have KZ := hD (show Kp wr _ from hH); clear hH; go_wp2; go_roundw
   case rel => exact ⟨j + 1, by have := HLT.out; omega, by have := HKK.out; first | rw [show ((j + 1 : Nat) : Int) = kk + 1 by omega] | rw [show ((j + 1 : Nat) : Int) = kk + 1 by omega, hw1], rZ KZ.out RA.out, rZ KZ.out RB.out, kT KR.out KZ.out⟩
   case measure => have := HKK.out; have := HLT.out; simp [intOf]; omega
  ·have hje : ¬ kk < NN := by have := HNN.out; omega
   obtain ⟨g0, g1, g2⟩ := cellsR3 r0; obtain ⟨g3, g4, g5⟩ := cellsR3 r1; clear hkk hj hlt r0 r1 hk; go_wp2; go_loopw [52] (fun i wr' => ∃ (j : Nat), j ≤ k ∧ i = .int .i64 j ∧ wr'.heap[w.heap.size]? = some (.cells #[.slice aa n ac, .slice am k ad, wk] 39) ∧ wr'.heap[w.heap.size + 1]? = some (.cells #[.slice ba n bc, .slice bm k bd, wk] 39) ∧ Kp w wr') (fun i _ => k - (intOf i).toNat)
   case atStart => exact ⟨0, Nat.zero_le _, rfl, RA.out, RB.out, KR.out⟩
   case round =>
    obtain ⟨j, hj, rfl, r0, r1, hk⟩ := hrel; obtain ⟨kk, hkk⟩ : ∃ x : Int, (j : Int) = x := ⟨_, rfl⟩
    rw [hkk]; obtain ⟨HKJ, KR, RA, RB⟩ := hD4 hkk hk r0 r1
    by_cases hlt : j < k
    ·have hjl : kk < KK := by have := HKK'.out; omega
     have hk0 : 0 ≤ kk := by omega
     have htk : kk.toNat = j := by omega
     have hN8 : KK ≤ 60 := by have := HKK'.out; have := HLk.out; omega
     have hw1 : wrap64 (kk + 1) = kk + 1 := IntWalk.wrap64_in _ (by omega); have HLT := hD hlt; have hjx : j < ms.length := by have := HK.out; omega
     obtain ⟨ga, ca, eva, _, _, _, _, hca⟩ := cQ (E := mmE) (oK MA.out hk) HK.out hlt; obtain ⟨gb, cb, evb, _, _, _, _, hcb⟩ := cQ (E := mmE) (oK MB.out hk) HK.out hlt; have hza : ∀ (i : Nat) (u : Value), i < 9 → (mmE.enc (ms[j]'hjx))[i]? = some u → wr.cell? ⟨ga, j * 9 + i, none⟩ = some u := hca; have hzb : ∀ (i : Nat) (u : Value), i < 9 → (mmE.enc (ms[j]'hjx))[i]? = some u → wr.cell? ⟨gb, j * 9 + i, none⟩ = some u := hcb; have eva := congrArg (fun v => match v with | Value.slice a _ _ => a | _ => none) eva; have evb := congrArg (fun v => match v with | Value.slice a _ _ => a | _ => none) evb; dsimp only at eva evb; obtain ⟨⟨gk, gf, gt, gn, gs, gr, gp, go, gc⟩, hF⟩ : ∃ f, ms[j]'hjx = f := ⟨_, rfl⟩
     rw [hF] at hza hzb; rw [← htk] at hza hzb; have za0 : wr.cell? ⟨ga, kk.toNat * 9, none⟩ = some (.int .i64 gk) := hza 0 _ (by decide) rfl; have za1 : wr.cell? ⟨ga, kk.toNat * 9 + 1, none⟩ = some (.int .i64 gf) := hza 1 _ (by decide) rfl; have za2 : wr.cell? ⟨ga, kk.toNat * 9 + 2, none⟩ = some (.int .i64 gt) := hza 2 _ (by decide) rfl; have za3 : wr.cell? ⟨ga, kk.toNat * 9 + 3, none⟩ = some (.int .i64 gn) := hza 3 _ (by decide) rfl; have za4 : wr.cell? ⟨ga, kk.toNat * 9 + 4, none⟩ = some (.int .i64 gs) := hza 4 _ (by decide) rfl; have za5 : wr.cell? ⟨ga, kk.toNat * 9 + 5, none⟩ = some (.int .i64 gr) := hza 5 _ (by decide) rfl; have za6 : wr.cell? ⟨ga, kk.toNat * 9 + 6, none⟩ = some (.int .i64 gp) := hza 6 _ (by decide) rfl; have za7 : wr.cell? ⟨ga, kk.toNat * 9 + 7, none⟩ = some (.int .i64 go) := hza 7 _ (by decide) rfl; have za8 : wr.cell? ⟨ga, kk.toNat * 9 + 8, none⟩ = some (.int .i64 gc) := hza 8 _ (by decide) rfl
     have zb0 : wr.cell? ⟨gb, kk.toNat * 9, none⟩ = some (.int .i64 gk) := hzb 0 _ (by decide) rfl; have zb1 : wr.cell? ⟨gb, kk.toNat * 9 + 1, none⟩ = some (.int .i64 gf) := hzb 1 _ (by decide) rfl; have zb2 : wr.cell? ⟨gb, kk.toNat * 9 + 2, none⟩ = some (.int .i64 gt) := hzb 2 _ (by decide) rfl; have zb3 : wr.cell? ⟨gb, kk.toNat * 9 + 3, none⟩ = some (.int .i64 gn) := hzb 3 _ (by decide) rfl; have zb4 : wr.cell? ⟨gb, kk.toNat * 9 + 4, none⟩ = some (.int .i64 gs) := hzb 4 _ (by decide) rfl; have zb5 : wr.cell? ⟨gb, kk.toNat * 9 + 5, none⟩ = some (.int .i64 gr) := hzb 5 _ (by decide) rfl; have zb6 : wr.cell? ⟨gb, kk.toNat * 9 + 6, none⟩ = some (.int .i64 gp) := hzb 6 _ (by decide) rfl; have zb7 : wr.cell? ⟨gb, kk.toNat * 9 + 7, none⟩ = some (.int .i64 go) := hzb 7 _ (by decide) rfl; have zb8 : wr.cell? ⟨gb, kk.toNat * 9 + 8, none⟩ = some (.int .i64 gc) := hzb 8 _ (by decide) rfl; have heq : ∀ w, (binOp .neq 26 (.agg #[gk, gf, gt, gn, gs, gr, gp, go, gc]) (.agg #[gk, gf, gt, gn, gs, gr, gp, go, gc])).run Tryz.prog w = .ok (.bool false) w := fun w => by
      have := msg_neq (⟨gk, gf, gt, gn, gs, gr, gp, go, gc⟩ : MM) (⟨gk, gf, gt, gn, gs, gr, gp, go, gc⟩ : MM) w; rw [dT rfl] at this; exact this
     have heg := fun op x y (w : World) => msg_guard op x y (⟨gk, gf, gt, gn, gs, gr, gp, go, gc⟩ : MM) (⟨gk, gf, gt, gn, gs, gr, gp, go, gc⟩ : MM) w
     dsimp only [MM.cells] at heg; have SA := hD (show wr.cell? ⟨w.heap.size, 1, none⟩ = some (.slice (some ⟨ga, 0, none⟩) k ad) by rw [← eva]; exact (cellsR3 r0).2.1); have SB := hD (show wr.cell? ⟨w.heap.size + 1, 1, none⟩ = some (.slice (some ⟨gb, 0, none⟩) k bd) by rw [← evb]; exact (cellsR3 r1).2.1); obtain ⟨ZA0, ZB0, ZA1, ZB1, ZA2, ZB2, ZA3, ZB3⟩ := hD8 za0 zb0 za1 zb1 za2 zb2 za3 zb3; obtain ⟨ZA4, ZB4, ZA5, ZB5, ZA6, ZB6, ZA7, ZB7⟩ := hD8 za4 zb4 za5 zb5 za6 zb6 za7 zb7; obtain ⟨ZA8, ZB8⟩ := hD2 za8 zb8; clear za0 zb0 za1 zb1 za2 zb2 za3 zb3 za4 zb4 za5 zb5 za6 zb6 za7 zb7 za8 zb8; clear hkk hj hlt r0 r1 hk htk hjx hca hcb hza hzb eva evb hF; go_wp2_with fail
     obtain ⟨WD, hWD⟩ : ∃ x, wr.drew = x := ⟨_, rfl⟩
     have kD : Kp wr WD := by rw [← hWD]; exact dQ (Kp.refl _)
     have HWD := hD hWD; clear hWD; refine rgW (fun w' => Kp wr w') ?_ fun hH => ?_
     ·exact by rw [HWD.out]; exact kD
     rw [HWD.out] at hH ⊢; refine tkP 0 ?_
     go_simp; refine tkP 1 ?_ (y := by intro w hZ; have g0 := kZ hZ SA.out; go_simp; try rfl)
     go_simp; refine tkP 2 ?_
     go_simp; refine tkP 3 ?_
     go_simp; refine tkP 4 ?_ (y := by intro w hZ; have g0 := kZ hZ ZA0.out; have g1 := kZ hZ ZA1.out; have g2 := kZ hZ ZA2.out; have g3 := kZ hZ ZA3.out; have g4 := kZ hZ ZA4.out; have g5 := kZ hZ ZA5.out; have g6 := kZ hZ ZA6.out; have g7 := kZ hZ ZA7.out; have g8 := kZ hZ ZA8.out; go_simp; try rfl)
     go_simp; refine tkP 5 ?_
     go_simp; refine tkP 6 ?_ (y := by intro w hZ; have g0 := kZ hZ SB.out; go_simp; try rfl)
     go_simp; refine tkP 7 ?_
     go_simp; refine tkP 8 ?_
     go_simp; refine tkP 9 ?_ (y := by intro w hZ; have g0 := kZ hZ ZB0.out; have g1 := kZ hZ ZB1.out; have g2 := kZ hZ ZB2.out; have g3 := kZ hZ ZB3.out; have g4 := kZ hZ ZB4.out; have g5 := kZ hZ ZB5.out; have g6 := kZ hZ ZB6.out; have g7 := kZ hZ ZB7.out; have g8 := kZ hZ ZB8.out; go_simp; try rfl)
     go_simp; refine tkP 10 ?_
     go_simp; refine dnW ?_ _
     have KZ := hD (show Kp wr _ from hH); clear hH; go_wp2; go_roundw
     case rel => exact ⟨j + 1, by have := HLT.out; omega, by have := HKJ.out; first | rw [show ((j + 1 : Nat) : Int) = kk + 1 by omega] | rw [show ((j + 1 : Nat) : Int) = kk + 1 by omega, hw1], rZ KZ.out RA.out, rZ KZ.out RB.out, kT KR.out KZ.out⟩
     case measure => have := HKJ.out; have := HLT.out; simp [intOf]; omega
    ·have hje : ¬ kk < KK := by have := HKK'.out; omega
     clear hkk hj hlt r0 r1 hk; go_wp2; go_ret; exact ⟨rfl, KR.out⟩
def alL : List FX := [(⟨6, 0, 0, 0, 0, 0, 1, 0, 0, 0, 0, 0, 0, 0⟩ : FX), (⟨7, 0, 0, 0, 0, 0, 0, 0, 0, 0, 0, 0, 0, 0⟩ : FX), (⟨8, 0, 0, 0, 0, 0, 0, 0, 0, 0, 5, 0, 0, 0⟩ : FX)]
theorem alL_wf : ∀ f ∈ alL, f.wf := by
 intro f hf; simp only [alL, List.mem_cons, List.not_mem_nil, or_false] at hf
 rcases hf with rfl | rfl | rfl <;> (unfold FX.wf; decide)
theorem alL_tell : (tellP (bldM (newSt 1) alL) (⟨9, 0, 1, 0, 0, 0, 0, 0, 0⟩ : MM)).facts = [fxTurned 0 6 0] ∧ (tellP (bldM (newSt 1) alL) (⟨9, 0, 1, 0, 0, 0, 0, 0, 0⟩ : MM)).send = [] ∧ (tellP (bldM (newSt 1) alL) (⟨9, 0, 1, 0, 0, 0, 0, 0, 0⟩ : MM)).work = 9 := by decide +kernel
theorem own_alL (B : Nat) (hb : B ≤ w.heap.size) : (w.alloc (.cells #[.int .i64 6, .int .i64 0, .int .i64 0, .int .i64 0, .int .i64 0, .int .i64 0, .int .i64 1, .int .i64 0, .int .i64 0, .int .i64 0, .int .i64 0, .int .i64 0, .int .i64 0, .float .f64 0, .int .i64 7, .int .i64 0, .int .i64 0, .int .i64 0, .int .i64 0, .int .i64 0, .int .i64 0, .int .i64 0, .int .i64 0, .int .i64 0, .int .i64 0, .int .i64 0, .int .i64 0, .float .f64 0, .int .i64 8, .int .i64 0, .int .i64 0, .int .i64 0, .int .i64 0, .int .i64 0, .int .i64 0, .int .i64 0, .int .i64 0, .int .i64 0, .int .i64 5, .int .i64 0, .int .i64 0, .float .f64 0] 73)).ownsRow B 73 14 (.slice (some ⟨w.heap.size, 0, none⟩) 3 3) 3 (fcE.row alL) := by
 have := World.ownsRow_lit (base := B) (e := 73) (size := 14) w #[.int .i64 6, .int .i64 0, .int .i64 0, .int .i64 0, .int .i64 0, .int .i64 0, .int .i64 1, .int .i64 0, .int .i64 0, .int .i64 0, .int .i64 0, .int .i64 0, .int .i64 0, .float .f64 0, .int .i64 7, .int .i64 0, .int .i64 0, .int .i64 0, .int .i64 0, .int .i64 0, .int .i64 0, .int .i64 0, .int .i64 0, .int .i64 0, .int .i64 0, .int .i64 0, .int .i64 0, .float .f64 0, .int .i64 8, .int .i64 0, .int .i64 0, .int .i64 0, .int .i64 0, .int .i64 0, .int .i64 0, .int .i64 0, .int .i64 0, .int .i64 0, .int .i64 5, .int .i64 0, .int .i64 0, .float .f64 0] 3 hb (by decide) rfl; rw [show fcE.row alL = (#[.int .i64 6, .int .i64 0, .int .i64 0, .int .i64 0, .int .i64 0, .int .i64 0, .int .i64 1, .int .i64 0, .int .i64 0, .int .i64 0, .int .i64 0, .int .i64 0, .int .i64 0, .float .f64 0, .int .i64 7, .int .i64 0, .int .i64 0, .int .i64 0, .int .i64 0, .int .i64 0, .int .i64 0, .int .i64 0, .int .i64 0, .int .i64 0, .int .i64 0, .int .i64 0, .int .i64 0, .float .f64 0, .int .i64 8, .int .i64 0, .int .i64 0, .int .i64 0, .int .i64 0, .int .i64 0, .int .i64 0, .int .i64 0, .int .i64 0, .int .i64 0, .int .i64 5, .int .i64 0, .int .i64 0, .float .f64 0]).toList by unfold EncG.row alL; simp [fcE, FX.cells]]
 exact this
theorem alive16_any (C : FacC ads w) (E : EP [0, 3, 4, 8, 13] ads w) (P : ParC ads w) : Calls Tryz.prog 8 #[] w fun r w' => r = .returned (.bool true) ∧ Kp w w' := by
 have kA := kA w (.cells #[.int .i64 6, .int .i64 0, .int .i64 0, .int .i64 0, .int .i64 0, .int .i64 0, .int .i64 1, .int .i64 0, .int .i64 0, .int .i64 0, .int .i64 0, .int .i64 0, .int .i64 0, .float .f64 0, .int .i64 7, .int .i64 0, .int .i64 0, .int .i64 0, .int .i64 0, .int .i64 0, .int .i64 0, .int .i64 0, .int .i64 0, .int .i64 0, .int .i64 0, .int .i64 0, .int .i64 0, .float .f64 0, .int .i64 8, .int .i64 0, .int .i64 0, .int .i64 0, .int .i64 0, .int .i64 0, .int .i64 0, .int .i64 0, .int .i64 0, .int .i64 0, .int .i64 5, .int .i64 0, .int .i64 0, .float .f64 0] 73); have hbu := built_any (C.kp kA) (E.kp kA) 1 _ alL (by unfold inN; omega) (by decide) (own_slfc (own_alL (w := w) w.heap.size (Nat.le_refl _)) rfl alL_wf); have hte := fun w1 (hk : Kp w w1) B q (h : SL B q (bldM (newSt 1) alL) w1) => (P.tell w1 hk B q _ h (bld_ok _ (newSt_ok (by omega))) (⟨9, 0, 1, 0, 0, 0, 0, 0, 0⟩ : MM)).mono (R' := fun r w' => ∃ fa fc ma mc, r = .returned (.agg #[.slice fa 1 fc, .slice ma 0 mc, (9:Int)]) ∧ w'.ownsRow w1.heap.size 73 14 (.slice fa 1 fc) 1 (fcE.row [fxTurned 0 6 0]) ∧ Kp w1 w') (by
  obtain ⟨h1, h2, h3⟩ := alL_tell; rintro e w2 ⟨v, rfl, h, hk⟩; obtain ⟨fa, fc, ma, mc, rfl, h4, h5⟩ := RsV.form (lf := 1) (lm := 0) h (by rw [h1]; rfl) (by rw [h2]; rfl); rw [h1] at h4; rw [h3]; exact ⟨fa, fc, ma, mc, rfl, h4, hk⟩)
 dsimp only [MM.cells] at hte; obtain ⟨HBU, HTE, K0⟩ := hD3 hbu hte kA; have hsf := sF; clear C E P kA hbu hte; go_enter Tryz.func8, Tryz.ntmps8; go_wp2_with (first | (go_at_call 9; (with_reducible refine HBU.out.mono ?_); rintro e' w1 ⟨q, q', rfl, hsl, _, hk1⟩; have S1 := hD hsl; have K1 := hD (kT K0.out hk1); clear hsl hk1) | (go_at_call 10; (with_reducible refine (HTE.out _ K1.out _ _ S1.out).mono ?_); rintro e' w2 ⟨fa, fc, ma, mc, rfl, hof, hk2⟩; have kz := kT hk2 (kA w2 (.cells #[.slice fa 1 fc, .slice ma 0 mc, (9:Int)] 34)); have K2 := hD (kT K1.out kz); obtain ⟨r0, r1, r2⟩ := cellsR3 (mH w2 (.cells #[.slice fa 1 fc, .slice ma 0 mc, (9:Int)] 34)); obtain ⟨gp, ck, ev, _, _, _, _, hc0⟩ := cQ (E := fcE) (n := 1) (oK hof (kA w2 (.cells #[.slice fa 1 fc, .slice ma 0 mc, (9:Int)] 34))) rfl (by omega : 0 < 1); have ev := congrArg (fun v => match v with | Value.slice a _ _ => a | _ => none) ev; dsimp only at ev; subst ev; have x10 : (w2.alloc (.cells #[.slice (some ⟨gp, 0, none⟩) 1 fc, .slice ma 0 mc, (9:Int)] 34)).cell? ⟨gp, 10, none⟩ = some (.int .i64 6) := hc0 10 _ (by decide) rfl; clear hc0 hof hk2 kz))
 go_ret; exact ⟨rfl, K2.out⟩
theorem rAsked (gk gf gt gn gs gr gp go gc : Int) : Calls Tryz.prog 15 #[.agg #[gk, gf, gt, gn, gs, gr, gp, go, gc]] w fun r w' => r = .returned (.bool (askedP (⟨gk, gf, gt, gn, gs, gr, gp, go, gc⟩ : MM))) ∧ Kp w w' := by
 have hd := fun w => refDown8_any gk w
 have KB := hD (kA w (.cells #[gk, gf, gt, gn, gs, gr, gp, go, gc] 26)); obtain ⟨b0, b1, b2, b3, b4, b5, b6, b7, b8⟩ := cells9 (mH w (.cells #[gk, gf, gt, gn, gs, gr, gp, go, gc] 26)); unfold askedP; dsimp only; have e1 : decide (gk = 18) = (gk == 18) := by simp [Bool.beq_eq_decide_eq]
 have e2 : decide (gk = 16) = (gk == 16) := by simp [Bool.beq_eq_decide_eq]
 have e3 : decide (gk = 19) = (gk == 19) := by simp [Bool.beq_eq_decide_eq]
 have e4 : decide (gk = 15) = (gk == 15) := by simp [Bool.beq_eq_decide_eq]
 have e5 : decide (gt ≠ gn) = (gt != gn) := by simp [bne, Bool.beq_eq_decide_eq]
 rw [e1, e2, e3, e4, e5]; obtain ⟨t0, h0⟩ : ∃ x, downM gk = x := ⟨_, rfl⟩
 obtain ⟨t1, h1⟩ : ∃ x, (gk == 18) = x := ⟨_, rfl⟩
 obtain ⟨t2, h2⟩ : ∃ x, (gk == 16) = x := ⟨_, rfl⟩
 obtain ⟨t3, h3⟩ : ∃ x, (gk == 19) = x := ⟨_, rfl⟩
 obtain ⟨t4, h4⟩ : ∃ x, (gk == 15) = x := ⟨_, rfl⟩
 rw [h0] at hd ⊢; rw [h1, h2, h3, h4]; have HD := hD hd; clear e1 e2 e3 e4 e5 hd h0
 cases t0 with
 | true =>
  clear h1 h2 h3 h4; go_enter Tryz.func15, Tryz.ntmps15; go_wp2_with (go_at_call 40; (with_reducible refine (HD.out _).mono ?_); rintro e' w1 ⟨rfl, rfl⟩)
  go_ret; exact ⟨rfl, KB.out⟩
 | false =>
  cases t1 with
  | true =>
   go_enter Tryz.func15, Tryz.ntmps15; go_wp2_with (go_at_call 40; (with_reducible refine (HD.out _).mono ?_); rintro e' w1 ⟨rfl, rfl⟩)
   go_ret; exact ⟨rfl, KB.out⟩
  | false =>
   cases t2 with
   | true =>
    go_enter Tryz.func15, Tryz.ntmps15; go_wp2_with (go_at_call 40; (with_reducible refine (HD.out _).mono ?_); rintro e' w1 ⟨rfl, rfl⟩)
    go_ret; exact ⟨rfl, KB.out⟩
   | false =>
    cases t3 with
    | true =>
     go_enter Tryz.func15, Tryz.ntmps15; go_wp2_with (go_at_call 40; (with_reducible refine (HD.out _).mono ?_); rintro e' w1 ⟨rfl, rfl⟩)
     go_ret; exact ⟨rfl, KB.out⟩
    | false =>
     cases t4 with
     | true =>
      go_enter Tryz.func15, Tryz.ntmps15; go_wp2_with (go_at_call 40; (with_reducible refine (HD.out _).mono ?_); rintro e' w1 ⟨rfl, rfl⟩)
      go_ret; exact ⟨rfl, KB.out⟩
     | false =>
      go_enter Tryz.func15, Tryz.ntmps15; go_wp2_with (go_at_call 40; (with_reducible refine (HD.out _).mono ?_); rintro e' w1 ⟨rfl, rfl⟩)
      go_ret; exact ⟨rfl, KB.out⟩
theorem RsV.of {t : TypeId} {fs : List FX} {ms : List MM} {wk : Int} {n k : Nat} {vf vs : Value} (hn : fs.length = n) (hk : ms.length = k) (h1 : w.ownsRow B t 14 vf n (fcE.row fs)) (h2 : w.ownsRow B 26 9 vs k (mmE.row ms)) : RsV t B ⟨fs, ms, wk⟩ (.agg #[vf, vs, wk]) w := by
 subst hn hk; exact ⟨vf, vs, rfl, h1, h2⟩
theorem place_len (x : PaM) (g : MM) : (placeP x g).length ≤ 1 := by unfold placeP; split <;> simp
theorem tell_two (m : StM) (g : MM) : (tellP m g).facts.length ≤ 2 ∧ (tellP m g).send.length ≤ 2 := by
 have hp := fun x => place_len x g
 unfold tellP seatP
 repeat' split
 all_goals (refine ⟨?_, ?_⟩ <;> simp [rs0] <;> (first | exact hp _ | exact Nat.le_trans (hp _) (by decide)))
def RwO (w : World) (M P : Array Value) (E : Option (Nat × Array Value)) (w' : World) : Prop := w'.heap[w.heap.size]? = some (.cells M 26 (0, 0)) ∧ w'.heap[w.heap.size + 1]? = some (.cells #[.slice none 0 0, .slice none 0 0, (0:Int)] 39) ∧ w'.heap[w.heap.size + 1 + 1]? = some (.cells P 95 (0, 0)) ∧ (∀ x, E = some x → w'.heap[x.1]? = some (.cells x.2 98 (0, 0))) ∧ Kp w w'
section
variable {M P : Array Value} {E : Option (Nat × Array Value)} {ob : Nat} {FS : List FX} {SS : List MM} {qa qd : Option Addr} {qn qc qm qe : Nat} {k : Int} {w1 w2 : World}
theorem RwO.kp0 (h : RwO w M P E w1) : Kp w w1 := h.2.2.2.2
theorem RwO.kp (h : RwO w M P E w1) (hk : Kp w1 w2) : RwO w M P E w2 := ⟨rZ hk h.1, rZ hk h.2.1, rZ hk h.2.2.1, fun x e => rZ hk (h.2.2.2.1 x e), kT h.2.2.2.2 hk⟩
theorem RwO.set (h : RwO w M P E w1) (hb : w.heap.size + 1 + 1 < ob) (he : ∀ x, E = some x → x.1 ≠ ob) (i : Nat) (v : Value) : RwO w M P E (w1.setCell ⟨ob, i, none⟩ v) :=
 ⟨(bS _ _ _ _ (show w.heap.size ≠ ob by omega)).trans h.1, (bS _ _ _ _ (show w.heap.size + 1 ≠ ob by omega)).trans h.2.1, (bS _ _ _ _ (show w.heap.size + 1 + 1 ≠ ob by omega)).trans h.2.2.1, fun x e => (bS _ _ _ _ (he x e)).trans (h.2.2.2.1 x e), Below.setCell h.2.2.2.2 (show w.heap.size ≤ ob by omega) _⟩
theorem RwO.grow (h : RwO w M P E w1) {e : TypeId} {j n : Nat} {v : Value} {xs : List Value} (ho : w1.ownsRow (w.heap.size + 1 + 1 + 1) e j v n xs) (hne : 98 ≠ e) (hg : w1.grownBy w2 v.ownBlock) : RwO w M P E w2 :=
 ⟨(hg.block _ (oZ h.1) (fun q => by have := (ho.lt _ q.symm).1; omega)).trans h.1, (hg.block _ (oZ h.2.1) (fun q => by have := (ho.lt _ q.symm).1; omega)).trans h.2.1, (hg.block _ (oZ h.2.2.1) (fun q => by have := (ho.lt _ q.symm).1; omega)).trans h.2.2.1,
  fun x e => (hg.block _ (oZ (h.2.2.2.1 x e)) (Ne.symm (own_neP ho (h.2.2.2.1 x e) hne))).trans (h.2.2.2.1 x e), Below.grown h.2.2.2.2 hg (kS h.2.2.2.2) (fun b hk => by have := (ho.lt b hk).1; omega)⟩
structure TdO (w : World) (M P : Array Value) (E : Option (Nat × Array Value)) (ob : Nat) (FS : List FX) (SS : List MM) (qa : Option Addr) (qn qc : Nat) (qd : Option Addr) (qm qe : Nat) (k : Int) (w' : World) : Prop where
 rw : RwO w M P E w'
 r3 : w'.heap[ob]? = some (.cells #[.slice qa qn qc, .slice qd qm qe, k] 39 (0, 0))
 nf : FS.length = qn
 nm : SS.length = qm
 of : w'.ownsRow (w.heap.size + 1 + 1 + 1) 82 14 (.slice qa qn qc) qn (fcE.row FS)
 om : w'.ownsRow (w.heap.size + 1 + 1 + 1) 26 9 (.slice qd qm qe) qm (mmE.row SS)
 hb : w.heap.size + 1 + 1 < ob
 he : ∀ x, E = some x → x.1 ≠ ob
def TdQ (w : World) (M P : Array Value) (E : Option (Nat × Array Value)) (ob : Nat) (FS : List FX) (SS : List MM) (k : Int) (w' : World) : Prop := ∃ qa qn qc qd qm qe, TdO w M P E ob FS SS qa qn qc qd qm qe k w'
theorem TdO.kp (H : TdO w M P E ob FS SS qa qn qc qd qm qe k w1) (hk : Kp w1 w2) : TdO w M P E ob FS SS qa qn qc qd qm qe k w2 := ⟨H.rw.kp hk, rZ hk H.r3, H.nf, H.nm, oK H.of hk, oK H.om hk, H.hb, H.he⟩
theorem TdO.drew (H : TdO w M P E ob FS SS qa qn qc qd qm qe k w1) (h : w1.drew = w2) : TdO w M P E ob FS SS qa qn qc qd qm qe k w2 := H.kp (by rw [← h]; exact dQ (Kp.refl _))
theorem TdO.base (H : TdO w M P E ob FS SS qa qn qc qd qm qe k w1) : (w.heap.size + 1 + 1 + 1) ≤ w1.heap.size := by have := oZ H.rw.2.2.1; omega
theorem TdO.new (h : RwO w M P none w1) : TdQ w M P none w1.heap.size [] [] 0 (w1.alloc (.cells #[.slice none 0 0, .slice none 0 0, (0:Int)] 39)) :=
 ⟨none, 0, 0, none, 0, 0, h.kp (kA _ _), (mH w1 (.cells #[.slice none 0 0, .slice none 0 0, (0:Int)] 39)), rfl, rfl, own_no, own_no, oZ h.2.2.1, fun x e => by cases e⟩
theorem TdO.withE (H : TdO w M P none ob FS SS qa qn qc qd qm qe k w1) (cs : Array Value) : TdO w M P (some (w1.heap.size, cs)) ob FS SS qa qn qc qd qm qe k (w1.alloc (.cells cs 98)) := by
 have hk := kA w1 (.cells cs 98); have H2 := H.kp hk; refine ⟨⟨H2.rw.1, H2.rw.2.1, H2.rw.2.2.1, fun x e => ?_, H2.rw.2.2.2.2⟩, H2.r3, H2.nf, H2.nm, H2.of, H2.om, H2.hb, fun x e => ?_⟩
 ·obtain rfl := Option.some.inj e; exact (mH w1 (.cells cs 98))
 ·obtain rfl := Option.some.inj e; have := oZ H.r3
  show w1.heap.size ≠ ob
  omega
theorem TdO.r3F (H : TdO w M P E ob FS SS qa qn qc qd qm qe k w1) (hg : w1.grownBy w2 (Value.slice qa qn qc).ownBlock) : w2.heap[ob]? = some (.cells #[.slice qa qn qc, .slice qd qm qe, k] 39 (0, 0)) := (hg.block _ (oZ H.r3) (Ne.symm (own_neP H.of H.r3 (by decide)))).trans H.r3
theorem TdO.r3M (H : TdO w M P E ob FS SS qa qn qc qd qm qe k w1) (hg : w1.grownBy w2 (Value.slice qd qm qe).ownBlock) : w2.heap[ob]? = some (.cells #[.slice qa qn qc, .slice qd qm qe, k] 39 (0, 0)) := (hg.block _ (oZ H.r3) (Ne.symm (own_neP H.om H.r3 (by decide)))).trans H.r3
theorem own_at {e : TypeId} {j n i : Nat} {v x y z u : Value} {xs : List Value} {B' : Nat} (h : w1.ownsRow B' e j v n xs) (r : w1.heap[ob]? = some (.cells #[x, y, z] 39 (0, 0))) (ne : 39 ≠ e) : (w1.setCell ⟨ob, i, none⟩ u).ownsRow B' e j v n xs :=
 sG h (fun b e => bS _ _ _ _ (fun e2 => own_neP h r ne ((show b = ob from e2) ▸ e)))
theorem TdO.addF (H : TdO w M P E ob FS SS qa qn qc qd qm qe k w1) {x : FX} {a : Option Addr} {c : Nat} (hg : w1.grownBy w2 (Value.slice qa qn qc).ownBlock) (o : w2.ownsRow (w.heap.size + 1 + 1 + 1) 82 14 (.slice a (qn + 1) c) (qn + 1) (fcE.row (FS ++ [x]))) : TdO w M P E ob (FS ++ [x]) SS a (qn + 1) c qd qm qe k (w2.setCell ⟨ob, 0, none⟩ (.slice a (qn + 1) c)) :=
 ⟨(H.rw.grow H.of (by decide) hg).set H.hb H.he _ _, (Joins.block_setCell (H.r3F hg) _).trans rfl, by rw [List.length_append, H.nf]; rfl, H.nm, own_at o (H.r3F hg) (by decide),
  own_at (sG H.om (fun b e => hg.block b (H.om.lt b e).2 (fun e2 => aQ H.om H.of (by decide) b e e2.symm))) (H.r3F hg) (by decide), H.hb, H.he⟩
theorem TdO.addM (H : TdO w M P E ob FS SS qa qn qc qd qm qe k w1) {x : MM} {a : Option Addr} {c : Nat} (hg : w1.grownBy w2 (Value.slice qd qm qe).ownBlock) (o : w2.ownsRow (w.heap.size + 1 + 1 + 1) 26 9 (.slice a (qm + 1) c) (qm + 1) (mmE.row (SS ++ [x]))) : TdO w M P E ob FS (SS ++ [x]) qa qn qc a (qm + 1) c k (w2.setCell ⟨ob, 1, none⟩ (.slice a (qm + 1) c)) :=
 ⟨(H.rw.grow H.om (by decide) hg).set H.hb H.he _ _, (Joins.block_setCell (H.r3M hg) _).trans rfl, H.nf, by rw [List.length_append, H.nm]; rfl,
  own_at (sG H.of (fun b e => hg.block b (H.of.lt b e).2 (fun e2 => aQ H.of H.om (by decide) b e e2.symm))) (H.r3M hg) (by decide), own_at o (H.r3M hg) (by decide), H.hb, H.he⟩
theorem TdO.work (H : TdO w M P E ob FS SS qa qn qc qd qm qe k w1) (k2 : Int) : TdO w M P E ob FS SS qa qn qc qd qm qe k2 (w1.setCell ⟨ob, 2, none⟩ (.int .i64 k2)) :=
 ⟨H.rw.set H.hb H.he _ _, (Joins.block_setCell H.r3 _).trans rfl, H.nf, H.nm, own_at H.of H.r3 (by decide), own_at H.om H.r3 (by decide), H.hb, H.he⟩
theorem TdO.rsv (H : TdO w M P E ob FS SS qa qn qc qd qm qe k w1) : RsV 82 w.heap.size ⟨FS, SS, k⟩ (.agg #[.slice qa qn qc, .slice qd qm qe, k]) (((w1.setCell ⟨w.heap.size + 1, 0, none⟩ (.slice qa qn qc)).setCell ⟨w.heap.size + 1, 1, none⟩ (.slice qd qm qe)).setCell ⟨w.heap.size + 1, 2, none⟩ (.int .i64 k)) ∧ Kp w (((w1.setCell ⟨w.heap.size + 1, 0, none⟩ (.slice qa qn qc)).setCell ⟨w.heap.size + 1, 1, none⟩ (.slice qd qm qe)).setCell ⟨w.heap.size + 1, 2, none⟩ (.int .i64 k)) :=
 ⟨RsV.base (RsV.setN (r := ⟨FS, SS, k⟩) H.rw.2.1 (by decide) (by decide) H.nf H.nm H.of H.om) (show w.heap.size ≤ (w.heap.size + 1 + 1 + 1) by omega), setR3_kp H.rw.2.2.2.2 (show w.heap.size ≤ w.heap.size + 1 by omega) _ _ _⟩
end
theorem set7_ne {b c : Nat} (ne : c ≠ b) (y0 y1 y2 y3 y4 y5 y6 : Value) : (((((((w.setCell ⟨b, 0, none⟩ y0).setCell ⟨b, 1, none⟩ y1).setCell ⟨b, 2, none⟩ y2).setCell ⟨b, 3, none⟩ y3).setCell ⟨b, 4, none⟩ y4).setCell ⟨b, 5, none⟩ y5).setCell ⟨b, 6, none⟩ y6).heap[c]? = w.heap[c]? := by
 rw [bS _ _ _ _ ne, bS _ _ _ _ ne, bS _ _ _ _ ne, bS _ _ _ _ ne, bS _ _ _ _ ne, bS _ _ _ _ ne, bS _ _ _ _ ne]
end Go.Proofs.YtncoofnhifcnhaaGreatDoor
