/-
  PARTS OF THIS PROOF (own work): SdG.
-/
import Derived.Test.YtpemeenfhkgmpaaGreatDoorZb01
import Derived.Test.YtpemeenfhkgmpaaGreatDoorZb23
namespace Go.Proofs.YtpemeenfhkgmpaaGreatDoor
open Go.RowKit Go.ChangeShapes Go.WideShapes

theorem info_ptD0 : (Tryz.prog.info? 92).map (fun i => (i.zero, i.size, i.bytes)) = some (some (.agg #[.int .i64 0, .int .i64 0, .int .i64 0, .int .i64 0, .int .i64 0, .int .i64 0, .int .i64 0]), 7, 56) := by kernel_rfl
theorem info_ptD : ∃ i0, Tryz.prog.info? 92 = some i0 ∧ i0.zero = some (.agg #[.int .i64 0, .int .i64 0, .int .i64 0, .int .i64 0, .int .i64 0, .int .i64 0, .int .i64 0]) ∧ i0.size = 7 ∧ i0.bytes = 56 := by
  have h := info_ptD0
  cases g : Tryz.prog.info? 92 with
  | none => rw [g] at h; cases h
  | some i0 =>
    rw [g] at h
    simp only [Option.map_some, Option.some.injEq, Prod.mk.injEq] at h
    exact ⟨i0, rfl, h.1, h.2.1, h.2.2⟩
theorem ty_ptD : TyG Tryz.prog 32 92 7 (.agg #[.int .i64 0, .int .i64 0, .int .i64 0, .int .i64 0, .int .i64 0, .int .i64 0, .int .i64 0]) 56 := ⟨Tryz.underlying32, info_ptD, rfl, by decide⟩
variable {w0 w w' W w3 : World} {B q : Nat} {m : StM} {gs : List AcG} {va vp : Value}

set_option maxRecDepth 100000 in
set_option maxHeartbeats 8000000 in
theorem refApply6 (Hs : GS tyD B q m gs va vp w) (ok : OkS m) (fn fs fr fe fp fq fo fd fa ft fh fc : Int) (fx : Nat) (hR : rightF (⟨6, fn, fs, fr, fe, fp, fq, fo, fd, fa, ft, fh, fc, fx⟩ : FX) = true) : Calls Tryz.prog 12 #[.pointer (some ⟨q, 0, none⟩), .agg #[.int .i64 6, .int .i64 fn, .int .i64 fs, .int .i64 fr, .int .i64 fe, .int .i64 fp, .int .i64 fq, .int .i64 fo, .int .i64 fd, .int .i64 fa, .int .i64 ft, .int .i64 fh, .int .i64 fc, .float .f64 fx]] w fun r w' => r = .returned (.int .i64 (applyQ m (⟨6, fn, fs, fr, fe, fp, fq, fo, fd, fa, ft, fh, fc, fx⟩ : FX)).1) ∧ ∃ gs' va' vp', GS tyD B q (applyQ m (⟨6, fn, fs, fr, fe, fp, fq, fo, fd, fa, ft, fh, fc, fx⟩ : FX)).2 gs' va' vp' w' ∧ Asd (Ow q gs va vp) (Ow q gs' va' vp') w w' := by
  obtain ⟨a0, c0, eva⟩ := Hs.vForm
  obtain ⟨b0, d0, evp⟩ := Hs.pForm
  obtain ⟨nd, nx, A, PL⟩ := m
  obtain ⟨len, hl⟩ : ∃ x, gs.length = x := ⟨_, rfl⟩
  obtain ⟨np, hnp⟩ : ∃ x, PL.length = x := ⟨_, rfl⟩
  have hlA : A.length = len := by have := Hs.len; dsimp only at this; omega
  have l8 : len ≤ 8 := by have := ok.l8; dsimp only at this; omega
  have p8 : np ≤ 8 := by have := ok.p8; dsimp only at this; omega
  have e0 : w.cell? ⟨q, 0, none⟩ = some (.int .i64 nd) := cellU (i := 0) Hs.row rfl
  have e1 : w.cell? ⟨q, 1, none⟩ = some (.int .i64 nx) := cellU (i := 1) Hs.row rfl
  have e2 : w.cell? ⟨q, 2, none⟩ = some va := cellU (i := 2) Hs.row rfl
  have e3 : w.cell? ⟨q, 3, none⟩ = some vp := cellU (i := 3) Hs.row rfl
  dsimp only at evp
  rw [eva, hl] at e2
  rw [evp, hnp] at e3
  have hkW := kp_alloc w (.cells #[.int .i64 6, .int .i64 fn, .int .i64 fs, .int .i64 fr, .int .i64 fe, .int .i64 fp, .int .i64 fq, .int .i64 fo, .int .i64 fd, .int .i64 fa, .int .i64 ft, .int .i64 fh, .int .i64 fc, .float .f64 fx] 42)
  have rW := (MapKept.heap_alloc w (.cells #[.int .i64 6, .int .i64 fn, .int .i64 fs, .int .i64 fr, .int .i64 fe, .int .i64 fp, .int .i64 fq, .int .i64 fo, .int .i64 fd, .int .i64 fa, .int .i64 ft, .int .i64 fh, .int .i64 fc, .float .f64 fx] 42)).1
  obtain ⟨W, hW⟩ : ∃ W, w.alloc (.cells #[.int .i64 6, .int .i64 fn, .int .i64 fs, .int .i64 fr, .int .i64 fe, .int .i64 fp, .int .i64 fq, .int .i64 fo, .int .i64 fd, .int .i64 fa, .int .i64 ft, .int .i64 fh, .int .i64 fc, .float .f64 fx] 42) = W := ⟨_, rfl⟩
  rw [hW] at hkW rW
  obtain ⟨f0, f1, f2, f3, f4, f5, f6, f7, f8, f9, f10, f11, f12, f13⟩ := cells14 rW
  have e0 := kp_cell hkW e0
  have e1 := kp_cell hkW e1
  have e2 := kp_cell hkW e2
  have e3 := kp_cell hkW e3
  have hwf : FX.wf (⟨6, fn, fs, fr, fe, fp, fq, fo, fd, fa, ft, fh, fc, fx⟩ : FX) := right_wf hR
  have hri := fun w1 => refRight14_any (⟨6, fn, fs, fr, fe, fp, fq, fo, fd, fa, ft, fh, fc, fx⟩ : FX) hwf w1
  dsimp only [FX.cells] at hri
  rw [hR] at hri
  have HRI := Lib.hid hri
  have HRR := Lib.hid hR
  obtain ⟨L, hL⟩ : ∃ L : Int, (len : Int) = L := ⟨_, rfl⟩
  obtain ⟨NP, hNP⟩ : ∃ N : Int, (np : Int) = N := ⟨_, rfl⟩
  have HS := Lib.hid Hs
  have OK := Lib.hid ok
  have HL := Lib.hid hl
  have HLA := Lib.hid hlA
  have HNP := Lib.hid hnp
  have HLL := Lib.hid hL
  have HNN := Lib.hid hNP
  have KW := Lib.hid hkW
  have RW := Lib.hid rW
  have EVA := Lib.hid eva
  have EVP := Lib.hid evp
  have L8 := Lib.hid (And.intro l8 p8)
  have hsf := store_fl
  have hO : w.ownsRow B 92 7 (.slice b0 np d0) np (paE.row PL) := by have := Hs.op; rw [evp] at this; dsimp only at this; rw [hnp] at this; exact this
  have OP := Lib.hid hO
  clear hO
  by_cases h1 : fp = NP
  rotate_left
  · have hdo : doS ⟨nd, nx, A, PL⟩ (⟨6, fn, fs, fr, fe, fp, fq, fo, fd, fa, ft, fh, fc, fx⟩ : FX) = none := by unfold doS; dsimp only; rw [if_neg (by decide), if_pos rfl, if_pos (by omega)]
    rw [applyQ_none hR hdo]
    have g1 : (fp == NP) = false := by simpa using h1
    have g2 : (fp != NP) = true := by simp [h1]
    clear hdo h1 Hs ok hR hl hnp hlA l8 p8 hkW rW eva evp hwf hri
    go_enter Tryz.func12, Tryz.ntmps12
    go_wp2_with (go_at_call 29; (with_reducible refine (HRI.out _).mono ?_); rintro e' w1 ⟨rfl, hk1⟩; have K1 := Lib.hid hk1; have e0 := kp_cell hk1 e0; have e1 := kp_cell hk1 e1; have e2 := kp_cell hk1 e2; have e3 := kp_cell hk1 e3; have f0 := kp_cell hk1 f0; have f1 := kp_cell hk1 f1; have f2 := kp_cell hk1 f2; have f3 := kp_cell hk1 f3; have f4 := kp_cell hk1 f4; have f5 := kp_cell hk1 f5; have f6 := kp_cell hk1 f6; have f7 := kp_cell hk1 f7; have f8 := kp_cell hk1 f8; have f9 := kp_cell hk1 f9; have f10 := kp_cell hk1 f10; have f11 := kp_cell hk1 f11; have f12 := kp_cell hk1 f12; have f13 := kp_cell hk1 f13; clear hk1)
    go_region
    go_wp2
    go_ret
    exact ⟨rfl, gs, va, vp, HS.out.kp (Kp.trans KW.out (drewQ K1.out)), Asd.of_kp _ (Kp.trans KW.out (drewQ K1.out))⟩
  · have hdo : doS ⟨nd, nx, A, PL⟩ (⟨6, fn, fs, fr, fe, fp, fq, fo, fd, fa, ft, fh, fc, fx⟩ : FX) = some ⟨nd, nx, A, PL ++ [(⟨fn, fs, -1, ⟨fq, 2, 1, 0⟩⟩ : PaM)]⟩ := by unfold doS; dsimp only; rw [if_neg (by decide), if_pos rfl, if_neg (by omega)]
    rw [applyQ_some hR hdo]
    subst h1
    clear hdo Hs ok hR hl hnp hlA l8 p8 hkW rW eva evp hwf hri
    go_enter Tryz.func12, Tryz.ntmps12
    go_wp2_with (go_at_call 29; (with_reducible refine (HRI.out _).mono ?_); rintro e' w1 ⟨rfl, hk1⟩; have K1 := Lib.hid hk1; have e0 := kp_cell hk1 e0; have e1 := kp_cell hk1 e1; have e2 := kp_cell hk1 e2; have e3 := kp_cell hk1 e3; have f0 := kp_cell hk1 f0; have f1 := kp_cell hk1 f1; have f2 := kp_cell hk1 f2; have f3 := kp_cell hk1 f3; have f4 := kp_cell hk1 f4; have f5 := kp_cell hk1 f5; have f6 := kp_cell hk1 f6; have f7 := kp_cell hk1 f7; have f8 := kp_cell hk1 f8; have f9 := kp_cell hk1 f9; have f10 := kp_cell hk1 f10; have f11 := kp_cell hk1 f11; have f12 := kp_cell hk1 f12; have f13 := kp_cell hk1 f13; clear hk1)
    go_region
    go_wp2_with fail
    obtain ⟨WR, hWR⟩ : ∃ x, w1.drew.drew = x := ⟨_, rfl⟩
    have kR : Kp w1 WR := by rw [← hWR]; exact drewQ (drewQ (Kp.refl w1))
    have HWR := Lib.hid hWR
    clear hWR
    refine wp_region_held_drew (S := fun w' => w'.heap[w.heap.size]? = some (.cells #[.int .i64 6, .int .i64 fn, .int .i64 fs, .int .i64 fr, .int .i64 fe, .int .i64 fp, .int .i64 fq, .int .i64 fo, .int .i64 fd, .int .i64 fa, .int .i64 ft, .int .i64 fh, .int .i64 fc, .float .f64 fx] 42)) (by kernel_rfl) ?_ (fun hHeld => ?_)
    · exact by rw [HWR.out]; exact kp_row kR (kp_row K1.out RW.out)
    rw [HWR.out] at hHeld ⊢
    refine tkW ?_ 0 ?_ ?_; rotate_left
    · intro w hSw; go_simp; try rfl
    go_simp
    refine tkW ?_ 1 ?_ ?_; rotate_left
    · intro w hSw; go_simp; try rfl
    go_simp
    refine tkW ?_ 2 ?_ ?_; rotate_left
    · intro w hSw; go_simp; try rfl
    go_simp
    refine tkW ?_ 3 ?_ ?_; rotate_left
    · intro w hSw; go_simp; try rfl
    go_simp
    refine tkW ?_ 5 ?_ ?_; rotate_left
    · intro w hSw; go_simp; try rfl
    go_simp
    refine tkW ?_ 6 ?_ ?_; rotate_left
    · intro w hSw; obtain ⟨a0, a1, a2, a3, a4, a5, a6, a7, a8, a9, a10, a11, a12, a13⟩ := cells14 hSw; go_simp; try rfl
    go_simp
    refine tkW ?_ 7 ?_ ?_; rotate_left
    · intro w hSw; go_simp; try rfl
    go_simp
    refine tkW ?_ 8 ?_ ?_; rotate_left
    · intro w hSw; obtain ⟨a0, a1, a2, a3, a4, a5, a6, a7, a8, a9, a10, a11, a12, a13⟩ := cells14 hSw; go_simp; try rfl
    go_simp
    refine tkW ?_ 9 ?_ ?_; rotate_left
    · intro w hSw; go_simp; try rfl
    go_simp
    refine tkW ?_ 10 ?_ ?_; rotate_left
    · intro w hSw; go_simp; try rfl
    go_simp
    refine wpAnyH_ready (rs := [4, 11]) (by kernel_rfl) (by simp) ?_
    refine AllReadyH.cons rfl (fun K hK => ?_) (AllReadyH.cons rfl (fun K hK => ?_) AllReadyH.nil)
    · have g3 := kp_cell kR e3
      go_simp
      refine hK.out _ _ ?_ (fun hHeld => ?_)
      · exact hHeld
      clear hK K
      refine wpAnyH_ready (rs := [11]) (by kernel_rfl) (by simp) ?_
      refine AllReadyH.cons rfl (fun K hK => ?_) AllReadyH.nil
      go_simp
      refine hK.out _ _ ?_ (fun hHeld => ?_)
      · exact kp_row (kp_alloc _ _) hHeld
      clear hK K
      obtain ⟨Y11, hY11⟩ : ∃ x, WR.alloc (.cells #[.int .i64 fn, .int .i64 fs, .int .i64 (-1), .int .i64 fq, .int .i64 2, .int .i64 1, .int .i64 0] 92) = x := ⟨_, rfl⟩
      have c11 : Kp WR Y11 := by rw [← hY11]; exact kp_alloc _ _
      have r11 : Y11.heap[WR.heap.size]? = some (.cells #[.int .i64 fn, .int .i64 fs, .int .i64 (-1), .int .i64 fq, .int .i64 2, .int .i64 1, .int .i64 0] 92) := by rw [← hY11]; exact (MapKept.heap_alloc WR _).1
      obtain ⟨p11, hp11⟩ : ∃ x, WR.heap.size = x := ⟨_, rfl⟩
      have k11 := Kp.trans kR c11
      rw [hp11] at r11
      rw [hY11] at hHeld ⊢
      try rw [hp11]
      clear hY11 hp11 c11
      refine wpAnyH_ready (rs := [12]) (by kernel_rfl) (by simp) ?_
      refine AllReadyH.consLG rfl (fun K hK => ?_) AllReadyH.nil
      have P2 : PartG paE (.slice (some ⟨p11, 0, none⟩) 1 1) [(⟨fn, fs, -1, ⟨fq, 2, 1, 0⟩⟩ : PaM)] Y11 := part_oneG r11 rfl
      have OX := own_kp OP.out (Kp.trans KW.out (Kp.trans K1.out k11))
      go_simp
      refine wpList_append_rwG (E := paE) ty_ptD (by decide) _ rfl _ _ rfl B _ _ PL rfl OX _ _ rfl P2 ?f3 ?f4 ?_
      case f3 => have := L8.out; simp; omega
      case f4 => have := HS.out.bq; have := old_of_row HS.out.row; have := kp_size (Kp.trans KW.out (Kp.trans K1.out k11)); omega
      rintro v12 Y12 o12 hg hb
      obtain ⟨a12, c12, rfl⟩ := own_formG o12
      have nb : ∀ b, w.heap.size ≤ b → some b ≠ (Value.slice b0 np d0).ownBlock := fun b hb e => by have := (OP.out.lt b e.symm).2; omega
      refine hK.out _ _ ?_ (fun hHeld => ?_)
      · exact (hg.block _ (old_of_row hHeld) (nb _ (Nat.le_refl _))).trans hHeld
      clear hK K
      have RF := HS.out.repP tyD_ok (Kp.trans KW.out (Kp.trans K1.out k11)) (w3 := Y12) (by rw [EVP.out, HNP.out]; exact hg) (L := np + 1) (ps := PL ++ [(⟨fn, fs, -1, ⟨fq, 2, 1, 0⟩⟩ : PaM)]) (by rw [List.length_append, HNP.out]; rfl) o12 (fun b e => by rw [EVP.out, HNP.out]; exact (hb b e).imp id (fun e => by have := kp_size (Kp.trans KW.out (Kp.trans K1.out k11)); omega))
      have rq : Y12.heap[q]? = _ := (hg.block q (old_of_row (kp_row (Kp.trans KW.out (Kp.trans K1.out k11)) HS.out.row)) (fun e => HS.out.qp tyD_ok (by rw [EVP.out, HNP.out]; exact e.symm))).trans (kp_row (Kp.trans KW.out (Kp.trans K1.out k11)) HS.out.row)
      have RFH := Lib.hid RF
      clear RF hg hb P2 OX nb
      refine tkW ?_ 13 ?_ ?_; rotate_left
      · intro w hSw; go_simp; try rfl
      go_simp
      refine tkW ?_ 14 ?_ ?_; rotate_left
      · intro w hSw; go_simp; try rfl
      go_simp
      refine wpAnyH_ready (rs := [15]) (by kernel_rfl) (by simp) ?_
      refine AllReadyH.cons rfl (fun K hK => ?_) AllReadyH.nil
      have q12 : Y12.cell? ⟨q, 3, none⟩ = some vp := cellU (i := 3) rq rfl
      have z12 := frozQ rq 3
      go_simp
      refine hK.out _ _ ?_ (fun hHeld => ?_)
      · exact (Below.heap_setCell _ _ _ _ (fun e => by have := old_of_row HS.out.row; dsimp only at e; omega)).trans hHeld
      clear hK K
      refine wpAnyH_done (by kernel_rfl) ?_ _
      go_wp2
      go_ret
      exact ⟨rfl, gs, va, _, RFH.out.1, RFH.out.2⟩
    · go_simp
      refine hK.out _ _ ?_ (fun hHeld => ?_)
      · exact kp_row (kp_alloc _ _) hHeld
      clear hK K
      obtain ⟨Y11, hY11⟩ : ∃ x, WR.alloc (.cells #[.int .i64 fn, .int .i64 fs, .int .i64 (-1), .int .i64 fq, .int .i64 2, .int .i64 1, .int .i64 0] 92) = x := ⟨_, rfl⟩
      have c11 : Kp WR Y11 := by rw [← hY11]; exact kp_alloc _ _
      have r11 : Y11.heap[WR.heap.size]? = some (.cells #[.int .i64 fn, .int .i64 fs, .int .i64 (-1), .int .i64 fq, .int .i64 2, .int .i64 1, .int .i64 0] 92) := by rw [← hY11]; exact (MapKept.heap_alloc WR _).1
      obtain ⟨p11, hp11⟩ : ∃ x, WR.heap.size = x := ⟨_, rfl⟩
      have k11 := Kp.trans kR c11
      rw [hp11] at r11
      rw [hY11] at hHeld ⊢
      try rw [hp11]
      clear hY11 hp11 c11
      refine wpAnyH_ready (rs := [4]) (by kernel_rfl) (by simp) ?_
      refine AllReadyH.cons rfl (fun K hK => ?_) AllReadyH.nil
      have g3 := kp_cell k11 e3
      go_simp
      refine hK.out _ _ ?_ (fun hHeld => ?_)
      · exact hHeld
      clear hK K
      refine wpAnyH_ready (rs := [12]) (by kernel_rfl) (by simp) ?_
      refine AllReadyH.consLG rfl (fun K hK => ?_) AllReadyH.nil
      have P2 : PartG paE (.slice (some ⟨p11, 0, none⟩) 1 1) [(⟨fn, fs, -1, ⟨fq, 2, 1, 0⟩⟩ : PaM)] Y11 := part_oneG r11 rfl
      have OX := own_kp OP.out (Kp.trans KW.out (Kp.trans K1.out k11))
      go_simp
      refine wpList_append_rwG (E := paE) ty_ptD (by decide) _ rfl _ _ rfl B _ _ PL rfl OX _ _ rfl P2 ?f3 ?f4 ?_
      case f3 => have := L8.out; simp; omega
      case f4 => have := HS.out.bq; have := old_of_row HS.out.row; have := kp_size (Kp.trans KW.out (Kp.trans K1.out k11)); omega
      rintro v12 Y12 o12 hg hb
      obtain ⟨a12, c12, rfl⟩ := own_formG o12
      have nb : ∀ b, w.heap.size ≤ b → some b ≠ (Value.slice b0 np d0).ownBlock := fun b hb e => by have := (OP.out.lt b e.symm).2; omega
      refine hK.out _ _ ?_ (fun hHeld => ?_)
      · exact (hg.block _ (old_of_row hHeld) (nb _ (Nat.le_refl _))).trans hHeld
      clear hK K
      have RF := HS.out.repP tyD_ok (Kp.trans KW.out (Kp.trans K1.out k11)) (w3 := Y12) (by rw [EVP.out, HNP.out]; exact hg) (L := np + 1) (ps := PL ++ [(⟨fn, fs, -1, ⟨fq, 2, 1, 0⟩⟩ : PaM)]) (by rw [List.length_append, HNP.out]; rfl) o12 (fun b e => by rw [EVP.out, HNP.out]; exact (hb b e).imp id (fun e => by have := kp_size (Kp.trans KW.out (Kp.trans K1.out k11)); omega))
      have rq : Y12.heap[q]? = _ := (hg.block q (old_of_row (kp_row (Kp.trans KW.out (Kp.trans K1.out k11)) HS.out.row)) (fun e => HS.out.qp tyD_ok (by rw [EVP.out, HNP.out]; exact e.symm))).trans (kp_row (Kp.trans KW.out (Kp.trans K1.out k11)) HS.out.row)
      have RFH := Lib.hid RF
      clear RF hg hb P2 OX nb
      refine tkW ?_ 13 ?_ ?_; rotate_left
      · intro w hSw; go_simp; try rfl
      go_simp
      refine tkW ?_ 14 ?_ ?_; rotate_left
      · intro w hSw; go_simp; try rfl
      go_simp
      refine wpAnyH_ready (rs := [15]) (by kernel_rfl) (by simp) ?_
      refine AllReadyH.cons rfl (fun K hK => ?_) AllReadyH.nil
      have q12 : Y12.cell? ⟨q, 3, none⟩ = some vp := cellU (i := 3) rq rfl
      have z12 := frozQ rq 3
      go_simp
      refine hK.out _ _ ?_ (fun hHeld => ?_)
      · exact (Below.heap_setCell _ _ _ _ (fun e => by have := old_of_row HS.out.row; dsimp only at e; omega)).trans hHeld
      clear hK K
      refine wpAnyH_done (by kernel_rfl) ?_ _
      go_wp2
      go_ret
      exact ⟨rfl, gs, va, _, RFH.out.1, RFH.out.2⟩
end Go.Proofs.YtpemeenfhkgmpaaGreatDoor
