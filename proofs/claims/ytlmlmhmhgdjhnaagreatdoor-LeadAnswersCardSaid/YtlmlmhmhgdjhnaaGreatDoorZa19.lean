/- Parts of this proof (own work). -/
import Derived.Test.YtlmlmhmhgdjhnaaGreatDoorZa18
set_option maxRecDepth 100000
set_option maxHeartbeats 40000000
namespace Go.Proofs.YtlmlmhmhgdjhnaaGreatDoor
open Go.RowKit Go.ChangeShapes Go.WideShapes
variable {w0 w w' W w3 : World} {B q : Nat} {m : StM} {gs : List AcG} {va vp : Value}
variable {ads : List Addr}
theorem nQ {w : World} {B' : Nat} {e t : TypeId} {k n b : Nat} {v : Value} {xs : List Value} {cs : Array Value} (h : w.ownsRow B' e k v n xs) (r : w.heap[b]? = some (.cells cs t (0, 0))) (ne : t ≠ e) : some b ≠ v.ownBlock := fun e2 => by
 obtain ⟨c, h1⟩ := own_kindQ h b e2.symm; rw [r] at h1; injection h1 with h1
 injection h1 with _ h1 _
 exact ne h1
theorem row_neQ {w : World} {t t' : TypeId} {b b' : Nat} {cs cs' : Array Value} (r : w.heap[b]? = some (.cells cs t (0, 0))) (r' : w.heap[b']? = some (.cells cs' t' (0, 0))) (ne : t ≠ t') : b ≠ b' := fun e => by
 subst e; rw [r] at r'; injection r' with r'
 injection r' with _ r' _
 exact ne r'
theorem lsOpen1 (Hs : GS tyL B q m gs va vp w) (h8 : gs.length ≤ 8) (fk : Int) (fn fs fr fe fp fq fo fd fa ft fh fc : Int) (fx : Nat) (hs : 0 ≤ fs ∧ fs < 1000000) {bf bs : Nat} (rf : w.heap[bf]? = some (.cells #[fk, fn, fs, fr, fe, fp, fq, fo, fd, fa, ft, fh, fc, fx] 87)) (rs : w.heap[bs]? = some (.cells #[.pointer (some ⟨q, 0, none⟩)] 31)) :
  Calls Tryz.prog 181 #[.pointer (some ⟨bf, 0, none⟩), .pointer (some ⟨bs, 0, none⟩)] w fun r w' => r = .returned (.tuple #[]) ∧ ∃ gs' va' vp', GS tyL B q { m with acts := m.acts ++ [⟨⟨fn, fs, fo, fd, fx⟩, fa, 0, []⟩], next := fs + 1 } gs' va' vp' w' ∧ Asd (Ow q gs va vp) (Ow q gs' va' vp') w w' := by
 obtain ⟨a0, c0, eva⟩ := Hs.vForm; obtain ⟨len, hl⟩ : ∃ x, gs.length = x := ⟨_, rfl⟩
 have hO : w.ownsRow B 92 8 (.slice a0 len c0) len (acE.row gs) := by have := Hs.oa; rw [eva, hl] at this; exact this
 have e2 : w.cell? ⟨q, 2, none⟩ = some (.slice a0 len c0) := by rw [← hl, ← eva]; exact cU (i := 2) Hs.row rfl
 have hw : wrap64 (fs + 1) = fs + 1 := IntWalk.wrap64_in _ (by omega); have HMA := hD (show m.acts ++ [⟨⟨fn, fs, fo, fd, fx⟩, fa, 0, []⟩] = (gs ++ [(⟨⟨⟨fn, fs, fo, fd, fx⟩, fa, 0, []⟩, none, 0⟩ : AcG)]).map AcG.a by rw [Hs.acts]; simp); obtain ⟨f0, f1, f2, f3, f4, f5, f6, f7, f8, f9, f10, f11, f12, f13⟩ := cZ rf; obtain ⟨HS, OA, EVA, HL⟩ := hD4 Hs hO eva hl; have L8 := hD (show len ≤ 8 by omega); obtain ⟨RFF, RSS⟩ := hD2 rf rs; have kc := kA w (.cells #[fn, fs, fo, fd, fx] 27); have RC := hD (mH w (.cells #[fn, fs, fo, fd, fx] 27)); obtain ⟨Xc, hXc⟩ : ∃ x, w.alloc (.cells #[fn, fs, fo, fd, fx] 27) = x := ⟨_, rfl⟩
 rw [hXc] at kc RC; have hsf := sF; clear Hs h8 hO eva hl rf rs hs; go_enter Tryz.func181, Tryz.ntmps181; go_wp2_with fail
 obtain ⟨WR, hWR⟩ : ∃ x, Xc.drew = x := ⟨_, rfl⟩
 have kc2 : Kp Xc WR := by rw [← hWR]; exact dQ (Kp.refl Xc)
 have kR : Kp w WR := kT kc kc2; have HWR := hD hWR; clear hWR; refine rgW (fun w' => w'.heap[bf]? = some (.cells #[fk, fn, fs, fr, fe, fp, fq, fo, fd, fa, ft, fh, fc, fx] 87) ∧ w'.heap[bs]? = some (.cells #[.pointer (some ⟨q, 0, none⟩)] 31) ∧ w'.heap[w.heap.size]? = some (.cells #[fn, fs, fo, fd, fx] 27)) ?_ fun hH => ?_
 ·exact by rw [HWR.out]; exact ⟨rZ kR RFF.out, rZ kR RSS.out, rZ kc2 RC.out⟩
 rw [HWR.out] at hH ⊢; refine tkP 0 ?_ (y := by intro w hZ; have c : w.cell? ⟨bs, 0, none⟩ = some (.pointer (some ⟨q, 0, none⟩)) := cU (i := 0) hZ.2.1 rfl; go_simp; try rfl)
 go_simp; refine tkP 1 ?_ (y := by intro w hZ; have c : w.cell? ⟨bs, 0, none⟩ = some (.pointer (some ⟨q, 0, none⟩)) := cU (i := 0) hZ.2.1 rfl; go_simp; try rfl)
 go_simp; refine tkP 2 ?_
 go_simp; refine tkP 3 ?_
 go_simp; refine tkP 5 ?_ (y := by intro w hZ; obtain ⟨x0, x1, x2, x3, x4⟩ := cells_5 hZ.2.2; go_simp; try rfl)
 go_simp; refine tkP 6 ?_
 go_simp; refine tkP 7 ?_ (y := by intro w hZ; obtain ⟨z0, z1, z2, z3, z4, z5, z6, z7, z8, z9, z10, z11, z12, z13⟩ := cZ hZ.1; go_simp; try rfl)
 go_simp; refine tkP 8 ?_
 go_simp; refine wpAnyH_ready (rs := [4, 9]) (by kernel_rfl) (by simp) ?_
 refine aC (fun K hK => ?_) (aC (fun K hK => ?_) aN0)
 ·have gl := kZ kR e2; go_simp; refine hK.out _ _ (hH) fun hH => ?_
  clear hK K; refine rdW 9 fun K hK => ?_
  go_simp; refine hK.out _ _ (⟨rZ (kA _ _) hH.1, rZ (kA _ _) hH.2.1, rZ (kA _ _) hH.2.2⟩) fun hH => ?_
  clear hK K; obtain ⟨Y9, hY9⟩ : ∃ x, WR.alloc (.cells #[fn, fs, fo, fd, fx, fa, (0:Int), .slice none 0 0] 92) = x := ⟨_, rfl⟩
  have c9 : Kp WR Y9 := by rw [← hY9]; exact kA _ _
  have r9 : Y9.heap[WR.heap.size]? = some (.cells #[fn, fs, fo, fd, fx, fa, (0:Int), .slice none 0 0] 92) := by rw [← hY9]; exact (mH WR _)
  obtain ⟨p9, hp9⟩ : ∃ x, WR.heap.size = x := ⟨_, rfl⟩
  have k9 := kT kR c9; rw [hp9] at r9; rw [hY9] at hH ⊢
  try rw [hp9]
  clear hY9 hp9 c9; refine wpAnyH_ready (rs := [10]) (by kernel_rfl) (by simp) ?_
  refine AllReadyH.consLG rfl (fun K hK => ?_) aN0
  have P2 : PartG acE (.slice (some ⟨p9, 0, none⟩) 1 1) [(⟨⟨⟨fn, fs, fo, fd, fx⟩, fa, 0, []⟩, none, 0⟩ : AcG)] Y9 := pG r9 rfl; have OX := oK OA.out k9; go_simp; refine aG (E := acE) ty_acL (by decide) _ rfl _ _ rfl B _ _ gs rfl OX _ _ rfl P2 ?f3 ?f4 ?_
  case f3 => have := L8.out; simp; omega
  case f4 => have := HS.out.bq; have := oZ HS.out.row; have := kS k9; omega
  rintro v10 Y10 o10 hg hb; obtain ⟨a10', c10', rfl⟩ := fG o10; have o10 : Y10.ownsRow B 92 8 (.slice a10' (len + 1) c10') (len + 1) (acE.row (gs ++ [(⟨⟨⟨fn, fs, fo, fd, fx⟩, fa, 0, []⟩, none, 0⟩ : AcG)])) := o10; refine hK.out _ _ (⟨(hg.block _ (oZ hH.1) (nQ OX hH.1 (by decide))).trans hH.1, (hg.block _ (oZ hH.2.1) (nQ OX hH.2.1 (by decide))).trans hH.2.1, (hg.block _ (oZ hH.2.2) (nQ OX hH.2.2 (by decide))).trans hH.2.2⟩) fun hH => ?_
  clear hK K; have RF := HS.out.repA tyL_ok k9 (w3 := Y10) (by rw [EVA.out, HL.out]; exact hg) (L := len + 1) (gs' := gs ++ [(⟨⟨⟨fn, fs, fo, fd, fx⟩, fa, 0, []⟩, none, 0⟩ : AcG)]) (by rw [List.length_append, HL.out]; rfl) o10 (fun b e => by rw [EVA.out, HL.out]; exact (hb b e).imp id (fun e => by have := kS k9; omega)) (mem_app ⟨rfl, rfl, rfl⟩) (dis_app HS.out.dis rfl); have rq : Y10.heap[q]? = _ := (hg.block q (oZ (rZ k9 HS.out.row)) (fun e => HS.out.qa tyL_ok (by rw [EVA.out, HL.out]; exact e.symm))).trans (rZ k9 HS.out.row); have RFH := hD RF; clear RF hg hb P2 OX; refine tkP 11 ?_
  go_simp; refine tkP 12 ?_
  go_simp; refine rdW 13 fun K hK => ?_
  have q10 : Y10.cell? ⟨q, 2, none⟩ = some va := cU (i := 2) rq rfl; have z10 := fQ rq 2; go_simp; refine hK.out _ _ (⟨(bS _ _ _ _ (row_neQ hH.1 rq (by decide))).trans hH.1, (bS _ _ _ _ (row_neQ hH.2.1 rq (by decide))).trans hH.2.1, (bS _ _ _ _ (row_neQ hH.2.2 rq (by decide))).trans hH.2.2⟩) fun hH => ?_
  clear hK K; obtain ⟨Z, hZ⟩ : ∃ x, Y10.setCell ⟨q, 2, none⟩ (.slice a10' (len + 1) c10') = x := ⟨_, rfl⟩
  have RZ := RFH.out; rw [hZ] at RZ hH ⊢; refine dnW ?_ _
  obtain ⟨u0, u1, u2, u3, u4, u5, u6, u7, u8, u9, u10, u11, u12, u13⟩ := cZ hH.1; have qs : Z.cell? ⟨bs, 0, none⟩ = some (.pointer (some ⟨q, 0, none⟩)) := cU (i := 0) hH.2.1 rfl; have qz : Z.cell? ⟨q, 1, none⟩ = some (.int .i64 m.next) := cU (i := 1) RZ.1.row rfl; obtain ⟨nx, hnx⟩ : ∃ x, m.next = x := ⟨_, rfl⟩
  rw [hnx] at qz; have zz := fQ RZ.1.row 1; have R2 := hD (RZ.1.setNext tyL_ok (fs + 1)); have RZH := hD RZ; clear RZ hH hnx; go_wp2; go_end0
  refine ⟨rfl, _, _, vp, ?_, RZH.out.2.trans R2.out.2⟩
  have := R2.out.1; rw [HMA.out]; exact this
 ·go_simp; refine hK.out _ _ (⟨rZ (kA _ _) hH.1, rZ (kA _ _) hH.2.1, rZ (kA _ _) hH.2.2⟩) fun hH => ?_
  clear hK K; obtain ⟨Y9, hY9⟩ : ∃ x, WR.alloc (.cells #[fn, fs, fo, fd, fx, fa, (0:Int), .slice none 0 0] 92) = x := ⟨_, rfl⟩
  have c9 : Kp WR Y9 := by rw [← hY9]; exact kA _ _
  have r9 : Y9.heap[WR.heap.size]? = some (.cells #[fn, fs, fo, fd, fx, fa, (0:Int), .slice none 0 0] 92) := by rw [← hY9]; exact (mH WR _)
  obtain ⟨p9, hp9⟩ : ∃ x, WR.heap.size = x := ⟨_, rfl⟩
  have k9 := kT kR c9; rw [hp9] at r9; rw [hY9] at hH ⊢
  try rw [hp9]
  clear hY9 hp9 c9; refine rdW 4 fun K hK => ?_
  have gl := kZ k9 e2; go_simp; refine hK.out _ _ (hH) fun hH => ?_
  clear hK K; refine wpAnyH_ready (rs := [10]) (by kernel_rfl) (by simp) ?_
  refine AllReadyH.consLG rfl (fun K hK => ?_) aN0
  have P2 : PartG acE (.slice (some ⟨p9, 0, none⟩) 1 1) [(⟨⟨⟨fn, fs, fo, fd, fx⟩, fa, 0, []⟩, none, 0⟩ : AcG)] Y9 := pG r9 rfl; have OX := oK OA.out k9; go_simp; refine aG (E := acE) ty_acL (by decide) _ rfl _ _ rfl B _ _ gs rfl OX _ _ rfl P2 ?f3 ?f4 ?_
  case f3 => have := L8.out; simp; omega
  case f4 => have := HS.out.bq; have := oZ HS.out.row; have := kS k9; omega
  rintro v10 Y10 o10 hg hb; obtain ⟨a10', c10', rfl⟩ := fG o10; have o10 : Y10.ownsRow B 92 8 (.slice a10' (len + 1) c10') (len + 1) (acE.row (gs ++ [(⟨⟨⟨fn, fs, fo, fd, fx⟩, fa, 0, []⟩, none, 0⟩ : AcG)])) := o10; refine hK.out _ _ (⟨(hg.block _ (oZ hH.1) (nQ OX hH.1 (by decide))).trans hH.1, (hg.block _ (oZ hH.2.1) (nQ OX hH.2.1 (by decide))).trans hH.2.1, (hg.block _ (oZ hH.2.2) (nQ OX hH.2.2 (by decide))).trans hH.2.2⟩) fun hH => ?_
  clear hK K; have RF := HS.out.repA tyL_ok k9 (w3 := Y10) (by rw [EVA.out, HL.out]; exact hg) (L := len + 1) (gs' := gs ++ [(⟨⟨⟨fn, fs, fo, fd, fx⟩, fa, 0, []⟩, none, 0⟩ : AcG)]) (by rw [List.length_append, HL.out]; rfl) o10 (fun b e => by rw [EVA.out, HL.out]; exact (hb b e).imp id (fun e => by have := kS k9; omega)) (mem_app ⟨rfl, rfl, rfl⟩) (dis_app HS.out.dis rfl); have rq : Y10.heap[q]? = _ := (hg.block q (oZ (rZ k9 HS.out.row)) (fun e => HS.out.qa tyL_ok (by rw [EVA.out, HL.out]; exact e.symm))).trans (rZ k9 HS.out.row); have RFH := hD RF; clear RF hg hb P2 OX; refine tkP 11 ?_
  go_simp; refine tkP 12 ?_
  go_simp; refine rdW 13 fun K hK => ?_
  have q10 : Y10.cell? ⟨q, 2, none⟩ = some va := cU (i := 2) rq rfl; have z10 := fQ rq 2; go_simp; refine hK.out _ _ (⟨(bS _ _ _ _ (row_neQ hH.1 rq (by decide))).trans hH.1, (bS _ _ _ _ (row_neQ hH.2.1 rq (by decide))).trans hH.2.1, (bS _ _ _ _ (row_neQ hH.2.2 rq (by decide))).trans hH.2.2⟩) fun hH => ?_
  clear hK K; obtain ⟨Z, hZ⟩ : ∃ x, Y10.setCell ⟨q, 2, none⟩ (.slice a10' (len + 1) c10') = x := ⟨_, rfl⟩
  have RZ := RFH.out; rw [hZ] at RZ hH ⊢; refine dnW ?_ _
  obtain ⟨u0, u1, u2, u3, u4, u5, u6, u7, u8, u9, u10, u11, u12, u13⟩ := cZ hH.1; have qs : Z.cell? ⟨bs, 0, none⟩ = some (.pointer (some ⟨q, 0, none⟩)) := cU (i := 0) hH.2.1 rfl; have qz : Z.cell? ⟨q, 1, none⟩ = some (.int .i64 m.next) := cU (i := 1) RZ.1.row rfl; obtain ⟨nx, hnx⟩ : ∃ x, m.next = x := ⟨_, rfl⟩
  rw [hnx] at qz; have zz := fQ RZ.1.row 1; have R2 := hD (RZ.1.setNext tyL_ok (fs + 1)); have RZH := hD RZ; clear RZ hH hnx; go_wp2; go_end0
  refine ⟨rfl, _, _, vp, ?_, RZH.out.2.trans R2.out.2⟩
  have := R2.out.1; rw [HMA.out]; exact this
theorem lsJoin1 (E : EP [0, 3, 4, 8, 13] ads w) (Hs : GS tyL B q m gs va vp w) (p8 : m.parts.length ≤ 8) (fk : Int) (fn fs fr fe fp fq fo fd fa ft fh fc : Int) (fx : Nat) (hq : fq = 1 ∨ fq = 2) {bf bs : Nat} (rf : w.heap[bf]? = some (.cells #[fk, fn, fs, fr, fe, fp, fq, fo, fd, fa, ft, fh, fc, fx] 87)) (rs : w.heap[bs]? = some (.cells #[.pointer (some ⟨q, 0, none⟩)] 31)) :
  Calls Tryz.prog 192 #[.pointer (some ⟨bs, 0, none⟩), .pointer (some ⟨bf, 0, none⟩)] w fun r w' => r = .returned (.tuple #[]) ∧ ∃ gs' va' vp', GS tyL B q { m with parts := m.parts ++ [⟨fn, fs, -1, ⟨fq, 2, 1, 0⟩⟩] } gs' va' vp' w' ∧ Asd (Ow q gs va vp) (Ow q gs' va' vp') w w' := by
 obtain ⟨b0, d0, evp⟩ := Hs.pForm; obtain ⟨np, hnp⟩ : ∃ x, m.parts.length = x := ⟨_, rfl⟩
 have hO : w.ownsRow B 119 7 (.slice b0 np d0) np (paE.row m.parts) := by have := Hs.op; rw [evp, hnp] at this; exact this
 have e3 : w.cell? ⟨q, 3, none⟩ = some (.slice b0 np d0) := by rw [← hnp, ← evp]; exact cU (i := 3) Hs.row rfl
 have HBE := hD (fun w1 (hk : Kp w w1) => lsBegun (E.kp hk) fk fn fs fr fe fp fq fo fd fa ft fh fc fx 2 hq (.inr rfl)); obtain ⟨HS, OA, EVP, HNP⟩ := hD4 Hs hO evp hnp; have L8 := hD (show np ≤ 8 by omega); obtain ⟨RFF, RSS⟩ := hD2 rf rs; clear E Hs p8 hO evp hnp rf rs hq; go_enter Tryz.func192, Tryz.ntmps192; obtain ⟨WR, hWR⟩ : ∃ x, w.drew = x := ⟨_, rfl⟩
 have kR : Kp w WR := by rw [← hWR]; exact dQ (Kp.refl w)
 have HWR := hD hWR; clear hWR; refine rgW (fun w' => w'.heap[bf]? = some (.cells #[fk, fn, fs, fr, fe, fp, fq, fo, fd, fa, ft, fh, fc, fx] 87) ∧ w'.heap[bs]? = some (.cells #[.pointer (some ⟨q, 0, none⟩)] 31)) ?_ fun hH => ?_
 ·exact by rw [HWR.out]; exact ⟨rZ kR RFF.out, rZ kR RSS.out⟩
 rw [HWR.out] at hH ⊢; refine tkP 0 ?_ (y := by intro w hZ; have c : w.cell? ⟨bs, 0, none⟩ = some (.pointer (some ⟨q, 0, none⟩)) := cU (i := 0) hZ.2 rfl; go_simp; try rfl)
 go_simp; refine tkP 1 ?_ (y := by intro w hZ; have c : w.cell? ⟨bs, 0, none⟩ = some (.pointer (some ⟨q, 0, none⟩)) := cU (i := 0) hZ.2 rfl; go_simp; try rfl)
 go_simp; refine tkP 2 ?_
 go_simp; refine tkP 3 ?_
 go_simp; refine tkP 5 ?_
 go_simp; refine tkP 6 ?_ (y := by intro w hZ; obtain ⟨z0, z1, z2, z3, z4, z5, z6, z7, z8, z9, z10, z11, z12, z13⟩ := cZ hZ.1; go_simp; try rfl)
 go_simp; refine tkP 7 ?_ (y := by intro w hZ; obtain ⟨z0, z1, z2, z3, z4, z5, z6, z7, z8, z9, z10, z11, z12, z13⟩ := cZ hZ.1; go_simp; try rfl)
 go_simp; refine wpAnyH_ready (rs := [4, 8]) (by kernel_rfl) (by simp) ?_
 refine aC (fun K hK => ?_) (aC (fun K hK => ?_) aN0)
 ·have gl := kZ kR e3; go_simp; refine hK.out _ _ (hH) fun hH => ?_
  clear hK K; refine rdW 8 fun K hK => ?_
  go_simp; go_wp2_with (go_at_call 185; (with_reducible refine (HBE.out _ kR).mono ?_); rintro e' w3 ⟨rfl, hk3⟩)
  refine hK.out _ _ (⟨rZ hk3 hH.1, rZ hk3 hH.2⟩) fun hH => ?_
  clear hK K; have k3 := kT kR hk3; refine tkP 9 ?_
  go_simp; refine rdW 10 fun K hK => ?_
  go_simp; refine hK.out _ _ (⟨rZ (kA _ _) hH.1, rZ (kA _ _) hH.2⟩) fun hH => ?_
  clear hK K; obtain ⟨Y9, hY9⟩ : ∃ x, w3.alloc (.cells #[fn, fs, .int .i64 (-1), fq, (2:Int), (1:Int), (0:Int)] 119) = x := ⟨_, rfl⟩
  have c9 : Kp w3 Y9 := by rw [← hY9]; exact kA _ _
  have r9 : Y9.heap[w3.heap.size]? = some (.cells #[fn, fs, .int .i64 (-1), fq, (2:Int), (1:Int), (0:Int)] 119) := by rw [← hY9]; exact (mH w3 _)
  obtain ⟨p9, hp9⟩ : ∃ x, w3.heap.size = x := ⟨_, rfl⟩
  have k9 := kT k3 c9; rw [hp9] at r9; rw [hY9] at hH ⊢
  try rw [hp9]
  clear hY9 hp9 c9; refine wpAnyH_ready (rs := [11]) (by kernel_rfl) (by simp) ?_
  refine AllReadyH.consLG rfl (fun K hK => ?_) aN0
  have P2 : PartG paE (.slice (some ⟨p9, 0, none⟩) 1 1) [(⟨fn, fs, -1, ⟨fq, 2, 1, 0⟩⟩ : PaM)] Y9 := pG r9 rfl; have OX := oK OA.out k9; go_simp; refine aG (E := paE) ty_ptL (by decide) _ rfl _ _ rfl B _ _ m.parts rfl OX _ _ rfl P2 ?f3 ?f4 ?_
  case f3 => have := L8.out; simp; omega
  case f4 => have := HS.out.bq; have := oZ HS.out.row; have := kS k9; omega
  rintro v10 Y10 o10 hg hb; obtain ⟨a10', c10', rfl⟩ := fG o10; have o10 : Y10.ownsRow B 119 7 (.slice a10' (np + 1) c10') (np + 1) (paE.row (m.parts ++ [(⟨fn, fs, -1, ⟨fq, 2, 1, 0⟩⟩ : PaM)])) := o10; refine hK.out _ _ (⟨(hg.block _ (oZ hH.1) (nQ OX hH.1 (by decide))).trans hH.1, (hg.block _ (oZ hH.2) (nQ OX hH.2 (by decide))).trans hH.2⟩) fun hH => ?_
  clear hK K; have RF := HS.out.repP tyL_ok k9 (w3 := Y10) (by rw [EVP.out, HNP.out]; exact hg) (L := np + 1) (ps := m.parts ++ [(⟨fn, fs, -1, ⟨fq, 2, 1, 0⟩⟩ : PaM)]) (by rw [List.length_append, HNP.out]; rfl) o10 (fun b e => by rw [EVP.out, HNP.out]; exact (hb b e).imp id (fun e => by have := kS k9; omega)); have rq : Y10.heap[q]? = _ := (hg.block q (oZ (rZ k9 HS.out.row)) (fun e => HS.out.qp tyL_ok (by rw [EVP.out, HNP.out]; exact e.symm))).trans (rZ k9 HS.out.row); have RFH := hD RF; clear RF hg hb P2 OX; refine tkP 12 ?_
  go_simp; refine tkP 13 ?_
  go_simp; refine rdW 14 fun K hK => ?_
  have q10 : Y10.cell? ⟨q, 3, none⟩ = some vp := cU (i := 3) rq rfl; have z10 := fQ rq 3; go_simp; refine hK.out _ _ (⟨(bS _ _ _ _ (row_neQ hH.1 rq (by decide))).trans hH.1, (bS _ _ _ _ (row_neQ hH.2 rq (by decide))).trans hH.2⟩) fun hH => ?_
  clear hK K; refine dnW ?_ _
  go_wp2; go_end0
  exact ⟨rfl, gs, va, _, RFH.out.1, RFH.out.2⟩
 ·go_simp; go_wp2_with (go_at_call 185; (with_reducible refine (HBE.out _ kR).mono ?_); rintro e' w3 ⟨rfl, hk3⟩)
  refine hK.out _ _ (⟨rZ hk3 hH.1, rZ hk3 hH.2⟩) fun hH => ?_
  clear hK K; have k3 := kT kR hk3; refine tkP 9 ?_
  go_simp; refine wpAnyH_ready (rs := [4, 10]) (by kernel_rfl) (by simp) ?_
  refine aC (fun K hK => ?_) (aC (fun K hK => ?_) aN0)
  ·have gl := kZ k3 e3; go_simp; refine hK.out _ _ (hH) fun hH => ?_
   clear hK K; refine rdW 10 fun K hK => ?_
   go_simp; refine hK.out _ _ (⟨rZ (kA _ _) hH.1, rZ (kA _ _) hH.2⟩) fun hH => ?_
   clear hK K; obtain ⟨Y9, hY9⟩ : ∃ x, w3.alloc (.cells #[fn, fs, .int .i64 (-1), fq, (2:Int), (1:Int), (0:Int)] 119) = x := ⟨_, rfl⟩
   have c9 : Kp w3 Y9 := by rw [← hY9]; exact kA _ _
   have r9 : Y9.heap[w3.heap.size]? = some (.cells #[fn, fs, .int .i64 (-1), fq, (2:Int), (1:Int), (0:Int)] 119) := by rw [← hY9]; exact (mH w3 _)
   obtain ⟨p9, hp9⟩ : ∃ x, w3.heap.size = x := ⟨_, rfl⟩
   have k9 := kT k3 c9; rw [hp9] at r9; rw [hY9] at hH ⊢
   try rw [hp9]
   clear hY9 hp9 c9; refine wpAnyH_ready (rs := [11]) (by kernel_rfl) (by simp) ?_
   refine AllReadyH.consLG rfl (fun K hK => ?_) aN0
   have P2 : PartG paE (.slice (some ⟨p9, 0, none⟩) 1 1) [(⟨fn, fs, -1, ⟨fq, 2, 1, 0⟩⟩ : PaM)] Y9 := pG r9 rfl; have OX := oK OA.out k9; go_simp; refine aG (E := paE) ty_ptL (by decide) _ rfl _ _ rfl B _ _ m.parts rfl OX _ _ rfl P2 ?f3 ?f4 ?_
   case f3 => have := L8.out; simp; omega
   case f4 => have := HS.out.bq; have := oZ HS.out.row; have := kS k9; omega
   rintro v10 Y10 o10 hg hb; obtain ⟨a10', c10', rfl⟩ := fG o10; have o10 : Y10.ownsRow B 119 7 (.slice a10' (np + 1) c10') (np + 1) (paE.row (m.parts ++ [(⟨fn, fs, -1, ⟨fq, 2, 1, 0⟩⟩ : PaM)])) := o10; refine hK.out _ _ (⟨(hg.block _ (oZ hH.1) (nQ OX hH.1 (by decide))).trans hH.1, (hg.block _ (oZ hH.2) (nQ OX hH.2 (by decide))).trans hH.2⟩) fun hH => ?_
   clear hK K; have RF := HS.out.repP tyL_ok k9 (w3 := Y10) (by rw [EVP.out, HNP.out]; exact hg) (L := np + 1) (ps := m.parts ++ [(⟨fn, fs, -1, ⟨fq, 2, 1, 0⟩⟩ : PaM)]) (by rw [List.length_append, HNP.out]; rfl) o10 (fun b e => by rw [EVP.out, HNP.out]; exact (hb b e).imp id (fun e => by have := kS k9; omega)); have rq : Y10.heap[q]? = _ := (hg.block q (oZ (rZ k9 HS.out.row)) (fun e => HS.out.qp tyL_ok (by rw [EVP.out, HNP.out]; exact e.symm))).trans (rZ k9 HS.out.row); have RFH := hD RF; clear RF hg hb P2 OX; refine tkP 12 ?_
   go_simp; refine tkP 13 ?_
   go_simp; refine rdW 14 fun K hK => ?_
   have q10 : Y10.cell? ⟨q, 3, none⟩ = some vp := cU (i := 3) rq rfl; have z10 := fQ rq 3; go_simp; refine hK.out _ _ (⟨(bS _ _ _ _ (row_neQ hH.1 rq (by decide))).trans hH.1, (bS _ _ _ _ (row_neQ hH.2 rq (by decide))).trans hH.2⟩) fun hH => ?_
   clear hK K; refine dnW ?_ _
   go_wp2; go_end0
   exact ⟨rfl, gs, va, _, RFH.out.1, RFH.out.2⟩
  ·go_simp; refine hK.out _ _ (⟨rZ (kA _ _) hH.1, rZ (kA _ _) hH.2⟩) fun hH => ?_
   clear hK K; obtain ⟨Y9, hY9⟩ : ∃ x, w3.alloc (.cells #[fn, fs, .int .i64 (-1), fq, (2:Int), (1:Int), (0:Int)] 119) = x := ⟨_, rfl⟩
   have c9 : Kp w3 Y9 := by rw [← hY9]; exact kA _ _
   have r9 : Y9.heap[w3.heap.size]? = some (.cells #[fn, fs, .int .i64 (-1), fq, (2:Int), (1:Int), (0:Int)] 119) := by rw [← hY9]; exact (mH w3 _)
   obtain ⟨p9, hp9⟩ : ∃ x, w3.heap.size = x := ⟨_, rfl⟩
   have k9 := kT k3 c9; rw [hp9] at r9; rw [hY9] at hH ⊢
   try rw [hp9]
   clear hY9 hp9 c9; refine rdW 4 fun K hK => ?_
   have gl := kZ k9 e3; go_simp; refine hK.out _ _ (hH) fun hH => ?_
   clear hK K; refine wpAnyH_ready (rs := [11]) (by kernel_rfl) (by simp) ?_
   refine AllReadyH.consLG rfl (fun K hK => ?_) aN0
   have P2 : PartG paE (.slice (some ⟨p9, 0, none⟩) 1 1) [(⟨fn, fs, -1, ⟨fq, 2, 1, 0⟩⟩ : PaM)] Y9 := pG r9 rfl; have OX := oK OA.out k9; go_simp; refine aG (E := paE) ty_ptL (by decide) _ rfl _ _ rfl B _ _ m.parts rfl OX _ _ rfl P2 ?f3 ?f4 ?_
   case f3 => have := L8.out; simp; omega
   case f4 => have := HS.out.bq; have := oZ HS.out.row; have := kS k9; omega
   rintro v10 Y10 o10 hg hb; obtain ⟨a10', c10', rfl⟩ := fG o10; have o10 : Y10.ownsRow B 119 7 (.slice a10' (np + 1) c10') (np + 1) (paE.row (m.parts ++ [(⟨fn, fs, -1, ⟨fq, 2, 1, 0⟩⟩ : PaM)])) := o10; refine hK.out _ _ (⟨(hg.block _ (oZ hH.1) (nQ OX hH.1 (by decide))).trans hH.1, (hg.block _ (oZ hH.2) (nQ OX hH.2 (by decide))).trans hH.2⟩) fun hH => ?_
   clear hK K; have RF := HS.out.repP tyL_ok k9 (w3 := Y10) (by rw [EVP.out, HNP.out]; exact hg) (L := np + 1) (ps := m.parts ++ [(⟨fn, fs, -1, ⟨fq, 2, 1, 0⟩⟩ : PaM)]) (by rw [List.length_append, HNP.out]; rfl) o10 (fun b e => by rw [EVP.out, HNP.out]; exact (hb b e).imp id (fun e => by have := kS k9; omega)); have rq : Y10.heap[q]? = _ := (hg.block q (oZ (rZ k9 HS.out.row)) (fun e => HS.out.qp tyL_ok (by rw [EVP.out, HNP.out]; exact e.symm))).trans (rZ k9 HS.out.row); have RFH := hD RF; clear RF hg hb P2 OX; refine tkP 12 ?_
   go_simp; refine tkP 13 ?_
   go_simp; refine rdW 14 fun K hK => ?_
   have q10 : Y10.cell? ⟨q, 3, none⟩ = some vp := cU (i := 3) rq rfl; have z10 := fQ rq 3; go_simp; refine hK.out _ _ (⟨(bS _ _ _ _ (row_neQ hH.1 rq (by decide))).trans hH.1, (bS _ _ _ _ (row_neQ hH.2 rq (by decide))).trans hH.2⟩) fun hH => ?_
   clear hK K; refine dnW ?_ _
   go_wp2; go_end0
   exact ⟨rfl, gs, va, _, RFH.out.1, RFH.out.2⟩
theorem lsPlace1 (Hs : GS tyL B q m gs va vp w) (fk : Int) (fn fs fr fe fp fq fo fd fa ft fh fc : Int) (fx : Nat) {x : PaM} (hp0 : 0 ≤ fp) (hx : m.parts[fp.toNat]? = some x) {bf bs : Nat} (rf : w.heap[bf]? = some (.cells #[fk, fn, fs, fr, fe, fp, fq, fo, fd, fa, ft, fh, fc, fx] 87)) (rs : w.heap[bs]? = some (.cells #[.pointer (some ⟨q, 0, none⟩)] 31)) :
  Calls Tryz.prog 193 #[.pointer (some ⟨bf, 0, none⟩), .pointer (some ⟨bs, 0, none⟩)] w fun r w' => r = .returned (.tuple #[]) ∧ ∃ gs' va' vp', GS tyL B q { m with parts := m.parts.set fp.toNat { x with reg := fr } } gs' va' vp' w' ∧ Asd (Ow q gs va vp) (Ow q gs' va' vp') w w' := by
 have hpn := (List.getElem?_eq_some_iff.1 hx).1; obtain ⟨gp, ck, evp, hck, hgpB, hgpl, hfzp, hcp⟩ := cQ (E := paE) Hs.op rfl hpn; subst evp; obtain ⟨yn, ys, yr, ⟨zp, ze, zt, zh⟩⟩ := x; have hcp2 : ∀ (i : Nat) (u : Value), i < paE.k → (paE.enc (m.parts[fp.toNat]'hpn))[i]? = some u → w.cell? ⟨gp, fp.toNat * paE.k + i, none⟩ = some u := hcp; rw [(List.getElem?_eq_some_iff.1 hx).2, show paE.k = 7 from rfl] at hcp2; have y2 : w.cell? ⟨gp, fp.toNat * 7 + 2, none⟩ = some (.int .i64 yr) := hcp2 2 _ (by decide) rfl; have z2 := hfzp (fp.toNat * 7 + 2); obtain ⟨np, hnp⟩ : ∃ x, m.parts.length = x := ⟨_, rfl⟩
 have e3 : w.cell? ⟨q, 3, none⟩ = some (.slice (some ⟨gp, 0, none⟩) np ck) := by rw [← hnp]; exact cU (i := 3) Hs.row rfl
 obtain ⟨f0, f1, f2, f3, f4, f5, f6, f7, f8, f9, f10, f11, f12, f13⟩ := cZ rf; have s0 : w.cell? ⟨bs, 0, none⟩ = some (.pointer (some ⟨q, 0, none⟩)) := cU (i := 0) rs rfl; obtain ⟨NP, hNP⟩ : ∃ N : Int, (np : Int) = N := ⟨_, rfl⟩
 have hpN : fp < NP := by omega
 have FIN := hD ((Hs.kp (dQ (Kp.refl w))).setP tyL_ok hx (i := 2) (x' := ⟨yn, ys, fr, ⟨zp, ze, zt, zh⟩⟩) (y := .int .i64 fr) (by decide) rfl); clear Hs hx hpn hck hgpB hgpl hfzp hcp hcp2 hnp rf rs; go_enter Tryz.func193, Tryz.ntmps193; go_still_tail 8, (by kernel_rfl)
 change wpList _ _ _ _ _ w.drew
 go_wp2; go_end0
 exact ⟨rfl, gs, va, _, FIN.out.1, (Asd.of_kp _ (dQ (Kp.refl w))).trans FIN.out.2⟩
theorem lsDecide1 {ga n cp : Nat} (Hs : GS tyL B q m gs (.slice (some ⟨ga, 0, none⟩) n cp) vp w) (fk : Int) (fn fs fr fe fp fq fo fd fa ft fh fc : Int) (fx : Nat) {x : AcG} {i : Nat} (hx : gs[i]? = some x) {bf bp : Nat} (rf : w.heap[bf]? = some (.cells #[fk, fn, fs, fr, fe, fp, fq, fo, fd, fa, ft, fh, fc, fx] 87)) (rp : w.heap[bp]? = some (.cells #[.pointer (some ⟨ga, i * 8, none⟩)] 247)) :
  Calls Tryz.prog 187 #[.pointer (some ⟨bf, 0, none⟩), .pointer (some ⟨bp, 0, none⟩)] w fun r w' => r = .returned (.tuple #[]) ∧ ∃ gs' va' vp', GS tyL B q { m with acts := m.acts.set i { x.a with dec := fc } } gs' va' vp' w' ∧ Asd (Ow q gs (.slice (some ⟨ga, 0, none⟩) n cp) vp) (Ow q gs' va' vp') w w' := by
 obtain ⟨hi, hxi⟩ := List.getElem?_eq_some_iff.1 hx; have hn : gs.length = n := own_lenG (E := acE) (by decide) (by
  obtain ⟨a, c, e⟩ := fG Hs.oa; injection e with _ e _
  rw [e]; exact Hs.oa)
 obtain ⟨ga2, cp2, eva, hcpa, hgB, hgl, hfz, hcell⟩ := cQ (E := acE) Hs.oa rfl hi; injection eva with eva _ _
 injection eva with eva
 injection eva with eva _ _
 subst eva; have hcell2 : ∀ (j : Nat) (u : Value), j < acE.k → (acE.enc (gs[i]'hi))[j]? = some u → w.cell? ⟨ga, i * acE.k + j, none⟩ = some u := hcell; rw [hxi, show acE.k = 8 from rfl] at hcell2; obtain ⟨⟨c, xp, xc, xr⟩, xb, xk⟩ := x; have y6 : w.cell? ⟨ga, i * 8 + 6, none⟩ = some (.int .i64 xc) := hcell2 6 _ (by decide) rfl; have z6 := hfz (i * 8 + 6); obtain ⟨f0, f1, f2, f3, f4, f5, f6, f7, f8, f9, f10, f11, f12, f13⟩ := cZ rf; have s0 : w.cell? ⟨bp, 0, none⟩ = some (.pointer (some ⟨ga, i * 8, none⟩)) := cU (i := 0) rp rfl; have FIN := hD (Hs.setA tyL_ok hx (i := 6) (y := .int .i64 fc) (x' := ⟨⟨c, xp, fc, xr⟩, xb, xk⟩) (by decide) rfl rfl rfl); clear Hs hx hi hxi hn hcpa hgB hgl hfz hcell hcell2 rf rp; go_enter Tryz.func187, Tryz.ntmps187; go_wp2; go_end0
 exact ⟨rfl, _, _, vp, FIN.out.1, FIN.out.2⟩
theorem lsEnrol1 (E : EP [0, 3, 4, 8, 13] ads w) {ga ln cp : Nat} (Hs : GS tyL B q m gs (.slice (some ⟨ga, 0, none⟩) ln cp) vp w) (fk : Int) (fn fs fr fe fp fq fo fd fa ft fh fc : Int) (fx : Nat) (hq : fq = 1 ∨ fq = 2) {c : CX} {xp xc : Int} {xr : List RgM} {xb : Option Addr} {xk i : Nat} (hx : gs[i]? = some ⟨⟨c, xp, xc, xr⟩, xb, xk⟩) (h6 : xr.length ≤ 6) {bf bp : Nat} (rf : w.heap[bf]? = some (.cells #[fk, fn, fs, fr, fe, fp, fq, fo, fd, fa, ft, fh, fc, fx] 87)) (rp : w.heap[bp]? = some (.cells #[.pointer (some ⟨ga, i * 8, none⟩)] 247)) :
  Calls Tryz.prog 184 #[.pointer (some ⟨bp, 0, none⟩), .pointer (some ⟨bf, 0, none⟩)] w fun r w' => r = .returned (.tuple #[]) ∧ ∃ gs' va' vp', GS tyL B q { m with acts := m.acts.set i ⟨c, xp, xc, xr ++ [⟨fe, fp, ⟨fq, 1, 1, 0⟩⟩]⟩ } gs' va' vp' w' ∧ Asd (Ow q gs (.slice (some ⟨ga, 0, none⟩) ln cp) vp) (Ow q gs' va' vp') w w' := by
 obtain ⟨hi, hxi⟩ := List.getElem?_eq_some_iff.1 hx; obtain ⟨ga2, cp2, eva, hcpa, hgB, hgl, hfz, hcell⟩ := cQ (E := acE) Hs.oa rfl hi; injection eva with eva _ _
 injection eva with eva
 injection eva with eva _ _
 subst eva; have hcell2 : ∀ (j : Nat) (u : Value), j < acE.k → (acE.enc (gs[i]'hi))[j]? = some u → w.cell? ⟨ga, i * acE.k + j, none⟩ = some u := hcell; rw [hxi, show acE.k = 8 from rfl] at hcell2; obtain ⟨n, hn⟩ : ∃ x, xr.length = x := ⟨_, rfl⟩
 have e7 : w.cell? ⟨ga, i * 8 + 7, none⟩ = some (.slice xb n xk) := by rw [← hn]; exact hcell2 7 _ (by decide) rfl
 have hv : (⟨⟨c, xp, xc, xr⟩, xb, xk⟩ : AcG).v = .slice xb n xk := by unfold AcG.v; dsimp only; rw [hn]
 have hO : w.ownsRow B 96 6 (.slice xb n xk) n (rgE.row xr) := by have := Hs.og _ (List.mem_of_getElem? hx); rw [hv] at this; dsimp only at this; rw [hn] at this; exact this
 have HBE := hD (fun w1 (hk : Kp w w1) => lsBegun (E.kp hk) fk fn fs fr fe fp fq fo fd fa ft fh fc fx 1 hq (.inl rfl)); have ROW := hD (own_kindQ Hs.oa ga rfl); obtain ⟨HS, HG⟩ := hD2 Hs hx; have HV := hD (congrArg Value.ownBlock hv); obtain ⟨OA, HN⟩ := hD2 hO hn; have L8 := hD (show n ≤ 6 by omega); obtain ⟨RFF, RSS⟩ := hD2 rf rp; clear E Hs hx hi hxi hcpa hgB hgl hfz hcell hcell2 hn hv hO rf rp hq h6; go_enter Tryz.func184, Tryz.ntmps184; obtain ⟨WR, hWR⟩ : ∃ x, w.drew = x := ⟨_, rfl⟩
 have kR : Kp w WR := by rw [← hWR]; exact dQ (Kp.refl w)
 have HWR := hD hWR; clear hWR; refine rgW (fun w' => w'.heap[bf]? = some (.cells #[fk, fn, fs, fr, fe, fp, fq, fo, fd, fa, ft, fh, fc, fx] 87) ∧ w'.heap[bp]? = some (.cells #[.pointer (some ⟨ga, i * 8, none⟩)] 247)) ?_ fun hH => ?_
 ·exact by rw [HWR.out]; exact ⟨rZ kR RFF.out, rZ kR RSS.out⟩
 rw [HWR.out] at hH ⊢; refine tkP 0 ?_ (y := by intro w hZ; have c : w.cell? ⟨bp, 0, none⟩ = some (.pointer (some ⟨ga, i * 8, none⟩)) := cU (i := 0) hZ.2 rfl; go_simp; try rfl)
 go_simp; refine tkP 1 ?_ (y := by intro w hZ; have c : w.cell? ⟨bp, 0, none⟩ = some (.pointer (some ⟨ga, i * 8, none⟩)) := cU (i := 0) hZ.2 rfl; go_simp; try rfl)
 go_simp; refine tkP 2 ?_
 go_simp; refine tkP 3 ?_
 go_simp; refine tkP 5 ?_
 go_simp; refine tkP 6 ?_ (y := by intro w hZ; obtain ⟨z0, z1, z2, z3, z4, z5, z6, z7, z8, z9, z10, z11, z12, z13⟩ := cZ hZ.1; go_simp; try rfl)
 go_simp; refine tkP 7 ?_
 go_simp; refine tkP 8 ?_ (y := by intro w hZ; obtain ⟨z0, z1, z2, z3, z4, z5, z6, z7, z8, z9, z10, z11, z12, z13⟩ := cZ hZ.1; go_simp; try rfl)
 go_simp; refine tkP 9 ?_ (y := by intro w hZ; obtain ⟨z0, z1, z2, z3, z4, z5, z6, z7, z8, z9, z10, z11, z12, z13⟩ := cZ hZ.1; go_simp; try rfl)
 go_simp; refine wpAnyH_ready (rs := [4, 10]) (by kernel_rfl) (by simp) ?_
 refine aC (fun K hK => ?_) (aC (fun K hK => ?_) aN0)
 ·have gl := kZ kR e7; go_simp; refine hK.out _ _ (hH) fun hH => ?_
  clear hK K; refine rdW 10 fun K hK => ?_
  go_simp; go_wp2_with (go_at_call 185; (with_reducible refine (HBE.out _ kR).mono ?_); rintro e' w3 ⟨rfl, hk3⟩)
  refine hK.out _ _ (⟨rZ hk3 hH.1, rZ hk3 hH.2⟩) fun hH => ?_
  clear hK K; have k3 := kT kR hk3; refine tkP 11 ?_
  go_simp; refine rdW 12 fun K hK => ?_
  go_simp; refine hK.out _ _ (⟨rZ (kA _ _) hH.1, rZ (kA _ _) hH.2⟩) fun hH => ?_
  clear hK K; obtain ⟨Y9, hY9⟩ : ∃ x, w3.alloc (.cells #[fe, fp, fq, (1:Int), (1:Int), (0:Int)] 96) = x := ⟨_, rfl⟩
  have c9 : Kp w3 Y9 := by rw [← hY9]; exact kA _ _
  have r9 : Y9.heap[w3.heap.size]? = some (.cells #[fe, fp, fq, (1:Int), (1:Int), (0:Int)] 96) := by rw [← hY9]; exact (mH w3 _)
  obtain ⟨p9, hp9⟩ : ∃ x, w3.heap.size = x := ⟨_, rfl⟩
  have k9 := kT k3 c9; rw [hp9] at r9; rw [hY9] at hH ⊢
  try rw [hp9]
  clear hY9 hp9 c9; refine wpAnyH_ready (rs := [13]) (by kernel_rfl) (by simp) ?_
  refine AllReadyH.consLG rfl (fun K hK => ?_) aN0
  have P2 : PartG rgE (.slice (some ⟨p9, 0, none⟩) 1 1) [(⟨fe, fp, ⟨fq, 1, 1, 0⟩⟩ : RgM)] Y9 := pG r9 rfl; have OX := oK OA.out k9; go_simp; refine aG (E := rgE) ty_rgL (by decide) _ rfl _ _ rfl B _ _ xr rfl OX _ _ rfl P2 ?f3 ?f4 ?_
  case f3 => have := L8.out; simp; omega
  case f4 => have := HS.out.bq; have := oZ HS.out.row; have := kS k9; omega
  rintro v10 Y10 o10 hg hb; obtain ⟨a10', c10', rfl⟩ := fG o10; have o10 : Y10.ownsRow B 96 6 (.slice a10' (n + 1) c10') (n + 1) (rgE.row (xr ++ [(⟨fe, fp, ⟨fq, 1, 1, 0⟩⟩ : RgM)])) := o10; refine hK.out _ _ (⟨(hg.block _ (oZ hH.1) (nQ OX hH.1 (by decide))).trans hH.1, (hg.block _ (oZ hH.2) (nQ OX hH.2 (by decide))).trans hH.2⟩) fun hH => ?_
  clear hK K; have RF := HS.out.repR tyL_ok HG.out k9 (w3 := Y10) (by rw [HV.out]; exact hg) (L := n + 1) (c' := c10') (o' := a10') (rs := xr ++ [(⟨fe, fp, ⟨fq, 1, 1, 0⟩⟩ : RgM)]) (by rw [List.length_append, HN.out]; rfl) o10 (fun b e => by rw [HV.out]; exact (hb b e).imp id (fun e => by have := kS k9; omega)); have rq : ∃ cs, Y10.heap[ga]? = some (.cells cs 92 (0, 0)) := by obtain ⟨cs, h⟩ := own_kindQ HS.out.oa ga rfl; exact ⟨cs, (hg.block ga (oZ (rZ k9 h)) (nQ OX (rZ k9 h) (by decide))).trans (rZ k9 h)⟩
  obtain ⟨csq, rq⟩ := rq; have q10 : Y10.cell? ⟨ga, i * 8 + 7, none⟩ = some (.slice xb n xk) := by rw [World.cell?_of_block (hg.block ga (oZ (rZ k9 ROW.out.choose_spec)) (nQ OX (rZ k9 ROW.out.choose_spec) (by decide)))]; exact kZ k9 e7
  have RFH := hD RF; clear RF hg hb P2 OX; refine tkP 14 ?_
  go_simp; refine tkP 15 ?_
  go_simp; refine rdW 16 fun K hK => ?_
  have z10 := fQ rq (i * 8 + 7); go_simp; refine hK.out _ _ (⟨(bS _ _ _ _ (row_neQ hH.1 rq (by decide))).trans hH.1, (bS _ _ _ _ (row_neQ hH.2 rq (by decide))).trans hH.2⟩) fun hH => ?_
  clear hK K; refine dnW ?_ _
  go_wp2; go_end0
  exact ⟨rfl, _, _, vp, RFH.out.1, RFH.out.2⟩
 ·go_simp; go_wp2_with (go_at_call 185; (with_reducible refine (HBE.out _ kR).mono ?_); rintro e' w3 ⟨rfl, hk3⟩)
  refine hK.out _ _ (⟨rZ hk3 hH.1, rZ hk3 hH.2⟩) fun hH => ?_
  clear hK K; have k3 := kT kR hk3; refine tkP 11 ?_
  go_simp; refine wpAnyH_ready (rs := [4, 12]) (by kernel_rfl) (by simp) ?_
  refine aC (fun K hK => ?_) (aC (fun K hK => ?_) aN0)
  ·have gl := kZ k3 e7; go_simp; refine hK.out _ _ (hH) fun hH => ?_
   clear hK K; refine rdW 12 fun K hK => ?_
   go_simp; refine hK.out _ _ (⟨rZ (kA _ _) hH.1, rZ (kA _ _) hH.2⟩) fun hH => ?_
   clear hK K; obtain ⟨Y9, hY9⟩ : ∃ x, w3.alloc (.cells #[fe, fp, fq, (1:Int), (1:Int), (0:Int)] 96) = x := ⟨_, rfl⟩
   have c9 : Kp w3 Y9 := by rw [← hY9]; exact kA _ _
   have r9 : Y9.heap[w3.heap.size]? = some (.cells #[fe, fp, fq, (1:Int), (1:Int), (0:Int)] 96) := by rw [← hY9]; exact (mH w3 _)
   obtain ⟨p9, hp9⟩ : ∃ x, w3.heap.size = x := ⟨_, rfl⟩
   have k9 := kT k3 c9; rw [hp9] at r9; rw [hY9] at hH ⊢
   try rw [hp9]
   clear hY9 hp9 c9; refine wpAnyH_ready (rs := [13]) (by kernel_rfl) (by simp) ?_
   refine AllReadyH.consLG rfl (fun K hK => ?_) aN0
   have P2 : PartG rgE (.slice (some ⟨p9, 0, none⟩) 1 1) [(⟨fe, fp, ⟨fq, 1, 1, 0⟩⟩ : RgM)] Y9 := pG r9 rfl; have OX := oK OA.out k9; go_simp; refine aG (E := rgE) ty_rgL (by decide) _ rfl _ _ rfl B _ _ xr rfl OX _ _ rfl P2 ?f3 ?f4 ?_
   case f3 => have := L8.out; simp; omega
   case f4 => have := HS.out.bq; have := oZ HS.out.row; have := kS k9; omega
   rintro v10 Y10 o10 hg hb; obtain ⟨a10', c10', rfl⟩ := fG o10; have o10 : Y10.ownsRow B 96 6 (.slice a10' (n + 1) c10') (n + 1) (rgE.row (xr ++ [(⟨fe, fp, ⟨fq, 1, 1, 0⟩⟩ : RgM)])) := o10; refine hK.out _ _ (⟨(hg.block _ (oZ hH.1) (nQ OX hH.1 (by decide))).trans hH.1, (hg.block _ (oZ hH.2) (nQ OX hH.2 (by decide))).trans hH.2⟩) fun hH => ?_
   clear hK K; have RF := HS.out.repR tyL_ok HG.out k9 (w3 := Y10) (by rw [HV.out]; exact hg) (L := n + 1) (c' := c10') (o' := a10') (rs := xr ++ [(⟨fe, fp, ⟨fq, 1, 1, 0⟩⟩ : RgM)]) (by rw [List.length_append, HN.out]; rfl) o10 (fun b e => by rw [HV.out]; exact (hb b e).imp id (fun e => by have := kS k9; omega)); have rq : ∃ cs, Y10.heap[ga]? = some (.cells cs 92 (0, 0)) := by obtain ⟨cs, h⟩ := own_kindQ HS.out.oa ga rfl; exact ⟨cs, (hg.block ga (oZ (rZ k9 h)) (nQ OX (rZ k9 h) (by decide))).trans (rZ k9 h)⟩
   obtain ⟨csq, rq⟩ := rq; have q10 : Y10.cell? ⟨ga, i * 8 + 7, none⟩ = some (.slice xb n xk) := by rw [World.cell?_of_block (hg.block ga (oZ (rZ k9 ROW.out.choose_spec)) (nQ OX (rZ k9 ROW.out.choose_spec) (by decide)))]; exact kZ k9 e7
   have RFH := hD RF; clear RF hg hb P2 OX; refine tkP 14 ?_
   go_simp; refine tkP 15 ?_
   go_simp; refine rdW 16 fun K hK => ?_
   have z10 := fQ rq (i * 8 + 7); go_simp; refine hK.out _ _ (⟨(bS _ _ _ _ (row_neQ hH.1 rq (by decide))).trans hH.1, (bS _ _ _ _ (row_neQ hH.2 rq (by decide))).trans hH.2⟩) fun hH => ?_
   clear hK K; refine dnW ?_ _
   go_wp2; go_end0
   exact ⟨rfl, _, _, vp, RFH.out.1, RFH.out.2⟩
  ·go_simp; refine hK.out _ _ (⟨rZ (kA _ _) hH.1, rZ (kA _ _) hH.2⟩) fun hH => ?_
   clear hK K; obtain ⟨Y9, hY9⟩ : ∃ x, w3.alloc (.cells #[fe, fp, fq, (1:Int), (1:Int), (0:Int)] 96) = x := ⟨_, rfl⟩
   have c9 : Kp w3 Y9 := by rw [← hY9]; exact kA _ _
   have r9 : Y9.heap[w3.heap.size]? = some (.cells #[fe, fp, fq, (1:Int), (1:Int), (0:Int)] 96) := by rw [← hY9]; exact (mH w3 _)
   obtain ⟨p9, hp9⟩ : ∃ x, w3.heap.size = x := ⟨_, rfl⟩
   have k9 := kT k3 c9; rw [hp9] at r9; rw [hY9] at hH ⊢
   try rw [hp9]
   clear hY9 hp9 c9; refine rdW 4 fun K hK => ?_
   have gl := kZ k9 e7; go_simp; refine hK.out _ _ (hH) fun hH => ?_
   clear hK K; refine wpAnyH_ready (rs := [13]) (by kernel_rfl) (by simp) ?_
   refine AllReadyH.consLG rfl (fun K hK => ?_) aN0
   have P2 : PartG rgE (.slice (some ⟨p9, 0, none⟩) 1 1) [(⟨fe, fp, ⟨fq, 1, 1, 0⟩⟩ : RgM)] Y9 := pG r9 rfl; have OX := oK OA.out k9; go_simp; refine aG (E := rgE) ty_rgL (by decide) _ rfl _ _ rfl B _ _ xr rfl OX _ _ rfl P2 ?f3 ?f4 ?_
   case f3 => have := L8.out; simp; omega
   case f4 => have := HS.out.bq; have := oZ HS.out.row; have := kS k9; omega
   rintro v10 Y10 o10 hg hb; obtain ⟨a10', c10', rfl⟩ := fG o10; have o10 : Y10.ownsRow B 96 6 (.slice a10' (n + 1) c10') (n + 1) (rgE.row (xr ++ [(⟨fe, fp, ⟨fq, 1, 1, 0⟩⟩ : RgM)])) := o10; refine hK.out _ _ (⟨(hg.block _ (oZ hH.1) (nQ OX hH.1 (by decide))).trans hH.1, (hg.block _ (oZ hH.2) (nQ OX hH.2 (by decide))).trans hH.2⟩) fun hH => ?_
   clear hK K; have RF := HS.out.repR tyL_ok HG.out k9 (w3 := Y10) (by rw [HV.out]; exact hg) (L := n + 1) (c' := c10') (o' := a10') (rs := xr ++ [(⟨fe, fp, ⟨fq, 1, 1, 0⟩⟩ : RgM)]) (by rw [List.length_append, HN.out]; rfl) o10 (fun b e => by rw [HV.out]; exact (hb b e).imp id (fun e => by have := kS k9; omega)); have rq : ∃ cs, Y10.heap[ga]? = some (.cells cs 92 (0, 0)) := by obtain ⟨cs, h⟩ := own_kindQ HS.out.oa ga rfl; exact ⟨cs, (hg.block ga (oZ (rZ k9 h)) (nQ OX (rZ k9 h) (by decide))).trans (rZ k9 h)⟩
   obtain ⟨csq, rq⟩ := rq; have q10 : Y10.cell? ⟨ga, i * 8 + 7, none⟩ = some (.slice xb n xk) := by rw [World.cell?_of_block (hg.block ga (oZ (rZ k9 ROW.out.choose_spec)) (nQ OX (rZ k9 ROW.out.choose_spec) (by decide)))]; exact kZ k9 e7
   have RFH := hD RF; clear RF hg hb P2 OX; refine tkP 14 ?_
   go_simp; refine tkP 15 ?_
   go_simp; refine rdW 16 fun K hK => ?_
   have z10 := fQ rq (i * 8 + 7); go_simp; refine hK.out _ _ (⟨(bS _ _ _ _ (row_neQ hH.1 rq (by decide))).trans hH.1, (bS _ _ _ _ (row_neQ hH.2 rq (by decide))).trans hH.2⟩) fun hH => ?_
   clear hK K; refine dnW ?_ _
   go_wp2; go_end0
   exact ⟨rfl, _, _, vp, RFH.out.1, RFH.out.2⟩
end Go.Proofs.YtlmlmhmhgdjhnaaGreatDoor
