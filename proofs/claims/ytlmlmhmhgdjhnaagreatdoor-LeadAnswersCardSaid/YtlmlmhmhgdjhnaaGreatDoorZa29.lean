/- Parts of this proof (own work). -/
import Derived.Test.YtlmlmhmhgdjhnaaGreatDoorZa28
set_option maxRecDepth 100000
set_option maxHeartbeats 40000000
namespace Go.Proofs.YtlmlmhmhgdjhnaaGreatDoor
open Go.RowKit Go.ChangeShapes Go.WideShapes
theorem info_ptD0 : (Tryz.prog.info? 130).map (fun i => (i.zero, i.size, i.bytes)) = some (some (.agg #[(0:Int), (0:Int), (0:Int), (0:Int), (0:Int), (0:Int), (0:Int)]), 7, 56) := by kernel_rfl
theorem info_ptD : ∃ i0, Tryz.prog.info? 130 = some i0 ∧ i0.zero = some (.agg #[(0:Int), (0:Int), (0:Int), (0:Int), (0:Int), (0:Int), (0:Int)]) ∧ i0.size = 7 ∧ i0.bytes = 56 := by
 have h := info_ptD0
 cases g : Tryz.prog.info? 130 with
 | none => rw [g] at h; cases h
 | some i0 =>
  rw [g] at h; simp only [Option.map_some, Option.some.injEq, Prod.mk.injEq] at h
  exact ⟨i0, rfl, h.1, h.2.1, h.2.2⟩
theorem ty_ptD : TyG Tryz.prog 74 130 7 (.agg #[(0:Int), (0:Int), (0:Int), (0:Int), (0:Int), (0:Int), (0:Int)]) 56 := ⟨Tryz.underlying74, info_ptD, rfl, by decide⟩
variable {w0 w w' W w3 : World} {B q : Nat} {m : StM} {gs : List AcG} {va vp : Value}
theorem refApply6 (Hs : GS tyD B q m gs va vp w) (ok : OkS m) (fn fs fr fe fp fq fo fd fa ft fh fc : Int) (fx : Nat) (hR : rightF (⟨6, fn, fs, fr, fe, fp, fq, fo, fd, fa, ft, fh, fc, fx⟩ : FX) = true) : Calls Tryz.prog 35 #[.pointer (some ⟨q, 0, none⟩), .agg #[(6:Int), fn, fs, fr, fe, fp, fq, fo, fd, fa, ft, fh, fc, fx]] w fun r w' => r = .returned (.int .i64 (applyQ m (⟨6, fn, fs, fr, fe, fp, fq, fo, fd, fa, ft, fh, fc, fx⟩ : FX)).1) ∧ ∃ gs' va' vp', GS tyD B q (applyQ m (⟨6, fn, fs, fr, fe, fp, fq, fo, fd, fa, ft, fh, fc, fx⟩ : FX)).2 gs' va' vp' w' ∧ Asd (Ow q gs va vp) (Ow q gs' va' vp') w w' := by
 obtain ⟨a0, c0, eva⟩ := Hs.vForm; obtain ⟨b0, d0, evp⟩ := Hs.pForm; obtain ⟨nd, nx, A, PL⟩ := m; obtain ⟨len, hl⟩ : ∃ x, gs.length = x := ⟨_, rfl⟩
 obtain ⟨np, hnp⟩ : ∃ x, PL.length = x := ⟨_, rfl⟩
 have hlA : A.length = len := by have := Hs.len; dsimp only at this; omega
 have l8 : len ≤ 8 := by have := ok.l8; dsimp only at this; omega
 have p8 : np ≤ 8 := by have := ok.p8; dsimp only at this; omega
 have e0 : w.cell? ⟨q, 0, none⟩ = some (.int .i64 nd) := cU (i := 0) Hs.row rfl; have e1 : w.cell? ⟨q, 1, none⟩ = some (.int .i64 nx) := cU (i := 1) Hs.row rfl; have e2 : w.cell? ⟨q, 2, none⟩ = some va := cU (i := 2) Hs.row rfl; have e3 : w.cell? ⟨q, 3, none⟩ = some vp := cU (i := 3) Hs.row rfl; dsimp only at evp; rw [eva, hl] at e2; rw [evp, hnp] at e3; have hkW := kA w (.cells #[(6:Int), fn, fs, fr, fe, fp, fq, fo, fd, fa, ft, fh, fc, fx] 102); have rW := (mH w (.cells #[(6:Int), fn, fs, fr, fe, fp, fq, fo, fd, fa, ft, fh, fc, fx] 102))
 obtain ⟨W, hW⟩ : ∃ W, w.alloc (.cells #[(6:Int), fn, fs, fr, fe, fp, fq, fo, fd, fa, ft, fh, fc, fx] 102) = W := ⟨_, rfl⟩
 rw [hW] at hkW rW; obtain ⟨f0, f1, f2, f3, f4, f5, f6, f7, f8, f9, f10, f11, f12, f13⟩ := cZ rW; obtain ⟨e0, e1, e2, e3⟩ := kZ4 hkW e0 e1 e2 e3; have hwf : FX.wf (⟨6, fn, fs, fr, fe, fp, fq, fo, fd, fa, ft, fh, fc, fx⟩ : FX) := right_wf hR; have hri := fun w1 => refRight14_any (⟨6, fn, fs, fr, fe, fp, fq, fo, fd, fa, ft, fh, fc, fx⟩ : FX) hwf w1
 dsimp only [FX.cells] at hri; rw [hR] at hri; obtain ⟨HRI, HRR⟩ := hD2 hri hR; obtain ⟨L, hL⟩ : ∃ L : Int, (len : Int) = L := ⟨_, rfl⟩
 obtain ⟨NP, hNP⟩ : ∃ N : Int, (np : Int) = N := ⟨_, rfl⟩
 obtain ⟨HS, OK, HL, HLA, HNP, HLL, HNN, KW⟩ := hD8 Hs ok hl hlA hnp hL hNP hkW; obtain ⟨RW, EVA, EVP⟩ := hD3 rW eva evp; have L8 := hD (And.intro l8 p8); have hsf := sF; have hO : w.ownsRow B 130 7 (.slice b0 np d0) np (paE.row PL) := by have := Hs.op; rw [evp] at this; dsimp only at this; rw [hnp] at this; exact this
 have OP := hD hO; clear hO
 by_cases h1 : fp = NP
 rotate_left
 ·have hdo : doS ⟨nd, nx, A, PL⟩ (⟨6, fn, fs, fr, fe, fp, fq, fo, fd, fa, ft, fh, fc, fx⟩ : FX) = none := by unfold doS; dsimp only; rw [if_neg (by decide), if_pos rfl, if_pos (by omega)]
  rw [aZ hR hdo]; have g1 : (fp == NP) = false := by simpa using h1
  have g2 : (fp != NP) = true := by simp [h1]
  clear hdo h1 Hs ok hR hl hnp hlA l8 p8 hkW rW eva evp hwf hri; go_enter Tryz.func35, Tryz.ntmps35; go_wp2_with (go_at_call 87; (with_reducible refine (HRI.out _).mono ?_); rintro e' w1 ⟨rfl, hk1⟩; have K1 := hD hk1; obtain ⟨e0, e1, e2, e3, f0, f1, f2, f3, f4, f5, f6, f7, f8, f9, f10, f11, f12, f13⟩ := kZ18 hk1 e0 e1 e2 e3 f0 f1 f2 f3 f4 f5 f6 f7 f8 f9 f10 f11 f12 f13; clear hk1)
  go_region
  go_wp2; go_ret; exact ⟨rfl, gs, va, vp, HS.out.kp (kT KW.out (dQ K1.out)), Asd.of_kp _ (kT KW.out (dQ K1.out))⟩
 ·have hdo : doS ⟨nd, nx, A, PL⟩ (⟨6, fn, fs, fr, fe, fp, fq, fo, fd, fa, ft, fh, fc, fx⟩ : FX) = some ⟨nd, nx, A, PL ++ [(⟨fn, fs, -1, ⟨fq, 2, 1, 0⟩⟩ : PaM)]⟩ := by unfold doS; dsimp only; rw [if_neg (by decide), if_pos rfl, if_neg (by omega)]
  rw [aS hR hdo]; subst h1; clear hdo Hs ok hR hl hnp hlA l8 p8 hkW rW eva evp hwf hri; go_enter Tryz.func35, Tryz.ntmps35; go_wp2_with (go_at_call 87; (with_reducible refine (HRI.out _).mono ?_); rintro e' w1 ⟨rfl, hk1⟩; have K1 := hD hk1; obtain ⟨e0, e1, e2, e3, f0, f1, f2, f3, f4, f5, f6, f7, f8, f9, f10, f11, f12, f13⟩ := kZ18 hk1 e0 e1 e2 e3 f0 f1 f2 f3 f4 f5 f6 f7 f8 f9 f10 f11 f12 f13; clear hk1)
  go_region
  go_wp2_with fail
  obtain ⟨WR, hWR⟩ : ∃ x, w1.drew.drew = x := ⟨_, rfl⟩
  have kR : Kp w1 WR := by rw [← hWR]; exact dQ (dQ (Kp.refl w1))
  have HWR := hD hWR; clear hWR; refine rgW (fun w' => w'.heap[w.heap.size]? = some (.cells #[(6:Int), fn, fs, fr, fe, fp, fq, fo, fd, fa, ft, fh, fc, fx] 102)) ?_ fun hH => ?_
  ·exact by rw [HWR.out]; exact rZ kR (rZ K1.out RW.out)
  rw [HWR.out] at hH ⊢; refine tkP 0 ?_
  go_simp; refine tkP 1 ?_
  go_simp; refine tkP 2 ?_
  go_simp; refine tkP 3 ?_
  go_simp; refine tkP 5 ?_
  go_simp; refine tkP 6 ?_ (y := by intro w hZ; obtain ⟨a0, a1, a2, a3, a4, a5, a6, a7, a8, a9, a10, a11, a12, a13⟩ := cZ hZ; go_simp; try rfl)
  go_simp; refine tkP 7 ?_
  go_simp; refine tkP 8 ?_ (y := by intro w hZ; obtain ⟨a0, a1, a2, a3, a4, a5, a6, a7, a8, a9, a10, a11, a12, a13⟩ := cZ hZ; go_simp; try rfl)
  go_simp; refine tkP 9 ?_
  go_simp; refine tkP 10 ?_
  go_simp; refine wpAnyH_ready (rs := [4, 11]) (by kernel_rfl) (by simp) ?_
  refine aC (fun K hK => ?_) (aC (fun K hK => ?_) aN0)
  ·have g3 := kZ kR e3; go_simp; refine hK.out _ _ (hH) fun hH => ?_
   clear hK K; refine rdW 11 fun K hK => ?_
   go_simp; refine hK.out _ _ (rZ (kA _ _) hH) fun hH => ?_
   clear hK K; obtain ⟨Y11, hY11⟩ : ∃ x, WR.alloc (.cells #[fn, fs, .int .i64 (-1), fq, (2:Int), (1:Int), (0:Int)] 130) = x := ⟨_, rfl⟩
   have c11 : Kp WR Y11 := by rw [← hY11]; exact kA _ _
   have r11 : Y11.heap[WR.heap.size]? = some (.cells #[fn, fs, .int .i64 (-1), fq, (2:Int), (1:Int), (0:Int)] 130) := by rw [← hY11]; exact (mH WR _)
   obtain ⟨p11, hp11⟩ : ∃ x, WR.heap.size = x := ⟨_, rfl⟩
   have k11 := kT kR c11; rw [hp11] at r11; rw [hY11] at hH ⊢
   try rw [hp11]
   clear hY11 hp11 c11; refine wpAnyH_ready (rs := [12]) (by kernel_rfl) (by simp) ?_
   refine AllReadyH.consLG rfl (fun K hK => ?_) aN0
   have P2 : PartG paE (.slice (some ⟨p11, 0, none⟩) 1 1) [(⟨fn, fs, -1, ⟨fq, 2, 1, 0⟩⟩ : PaM)] Y11 := pG r11 rfl; have OX := oK OP.out (kT KW.out (kT K1.out k11)); go_simp; refine aG (E := paE) ty_ptD (by decide) _ rfl _ _ rfl B _ _ PL rfl OX _ _ rfl P2 ?f3 ?f4 ?_
   case f3 => have := L8.out; simp; omega
   case f4 => have := HS.out.bq; have := oZ HS.out.row; have := kS (kT KW.out (kT K1.out k11)); omega
   rintro v12 Y12 o12 hg hb; obtain ⟨a12, c12, rfl⟩ := fG o12; have nb : ∀ b, w.heap.size ≤ b → some b ≠ (Value.slice b0 np d0).ownBlock := fun b hb e => by have := (OP.out.lt b e.symm).2; omega
   refine hK.out _ _ ((hg.block _ (oZ hH) (nb _ (Nat.le_refl _))).trans hH) fun hH => ?_
   clear hK K; have RF := HS.out.repP tyD_ok (kT KW.out (kT K1.out k11)) (w3 := Y12) (by rw [EVP.out, HNP.out]; exact hg) (L := np + 1) (ps := PL ++ [(⟨fn, fs, -1, ⟨fq, 2, 1, 0⟩⟩ : PaM)]) (by rw [List.length_append, HNP.out]; rfl) o12 (fun b e => by rw [EVP.out, HNP.out]; exact (hb b e).imp id (fun e => by have := kS (kT KW.out (kT K1.out k11)); omega)); have rq : Y12.heap[q]? = _ := (hg.block q (oZ (rZ (kT KW.out (kT K1.out k11)) HS.out.row)) (fun e => HS.out.qp tyD_ok (by rw [EVP.out, HNP.out]; exact e.symm))).trans (rZ (kT KW.out (kT K1.out k11)) HS.out.row); have RFH := hD RF; clear RF hg hb P2 OX nb; refine tkP 13 ?_
   go_simp; refine tkP 14 ?_
   go_simp; refine rdW 15 fun K hK => ?_
   have q12 : Y12.cell? ⟨q, 3, none⟩ = some vp := cU (i := 3) rq rfl; have z12 := fQ rq 3; go_simp; refine hK.out _ _ ((bS _ _ _ _ (fun e => by have := oZ HS.out.row; dsimp only at e; omega)).trans hH) fun hH => ?_
   clear hK K; refine dnW ?_ _
   go_wp2; go_ret; exact ⟨rfl, gs, va, _, RFH.out.1, RFH.out.2⟩
  ·go_simp; refine hK.out _ _ (rZ (kA _ _) hH) fun hH => ?_
   clear hK K; obtain ⟨Y11, hY11⟩ : ∃ x, WR.alloc (.cells #[fn, fs, .int .i64 (-1), fq, (2:Int), (1:Int), (0:Int)] 130) = x := ⟨_, rfl⟩
   have c11 : Kp WR Y11 := by rw [← hY11]; exact kA _ _
   have r11 : Y11.heap[WR.heap.size]? = some (.cells #[fn, fs, .int .i64 (-1), fq, (2:Int), (1:Int), (0:Int)] 130) := by rw [← hY11]; exact (mH WR _)
   obtain ⟨p11, hp11⟩ : ∃ x, WR.heap.size = x := ⟨_, rfl⟩
   have k11 := kT kR c11; rw [hp11] at r11; rw [hY11] at hH ⊢
   try rw [hp11]
   clear hY11 hp11 c11; refine rdW 4 fun K hK => ?_
   have g3 := kZ k11 e3; go_simp; refine hK.out _ _ (hH) fun hH => ?_
   clear hK K; refine wpAnyH_ready (rs := [12]) (by kernel_rfl) (by simp) ?_
   refine AllReadyH.consLG rfl (fun K hK => ?_) aN0
   have P2 : PartG paE (.slice (some ⟨p11, 0, none⟩) 1 1) [(⟨fn, fs, -1, ⟨fq, 2, 1, 0⟩⟩ : PaM)] Y11 := pG r11 rfl; have OX := oK OP.out (kT KW.out (kT K1.out k11)); go_simp; refine aG (E := paE) ty_ptD (by decide) _ rfl _ _ rfl B _ _ PL rfl OX _ _ rfl P2 ?f3 ?f4 ?_
   case f3 => have := L8.out; simp; omega
   case f4 => have := HS.out.bq; have := oZ HS.out.row; have := kS (kT KW.out (kT K1.out k11)); omega
   rintro v12 Y12 o12 hg hb; obtain ⟨a12, c12, rfl⟩ := fG o12; have nb : ∀ b, w.heap.size ≤ b → some b ≠ (Value.slice b0 np d0).ownBlock := fun b hb e => by have := (OP.out.lt b e.symm).2; omega
   refine hK.out _ _ ((hg.block _ (oZ hH) (nb _ (Nat.le_refl _))).trans hH) fun hH => ?_
   clear hK K; have RF := HS.out.repP tyD_ok (kT KW.out (kT K1.out k11)) (w3 := Y12) (by rw [EVP.out, HNP.out]; exact hg) (L := np + 1) (ps := PL ++ [(⟨fn, fs, -1, ⟨fq, 2, 1, 0⟩⟩ : PaM)]) (by rw [List.length_append, HNP.out]; rfl) o12 (fun b e => by rw [EVP.out, HNP.out]; exact (hb b e).imp id (fun e => by have := kS (kT KW.out (kT K1.out k11)); omega)); have rq : Y12.heap[q]? = _ := (hg.block q (oZ (rZ (kT KW.out (kT K1.out k11)) HS.out.row)) (fun e => HS.out.qp tyD_ok (by rw [EVP.out, HNP.out]; exact e.symm))).trans (rZ (kT KW.out (kT K1.out k11)) HS.out.row); have RFH := hD RF; clear RF hg hb P2 OX nb; refine tkP 13 ?_
   go_simp; refine tkP 14 ?_
   go_simp; refine rdW 15 fun K hK => ?_
   have q12 : Y12.cell? ⟨q, 3, none⟩ = some vp := cU (i := 3) rq rfl; have z12 := fQ rq 3; go_simp; refine hK.out _ _ ((bS _ _ _ _ (fun e => by have := oZ HS.out.row; dsimp only at e; omega)).trans hH) fun hH => ?_
   clear hK K; refine dnW ?_ _
   go_wp2; go_ret; exact ⟨rfl, gs, va, _, RFH.out.1, RFH.out.2⟩
end Go.Proofs.YtlmlmhmhgdjhnaaGreatDoor
