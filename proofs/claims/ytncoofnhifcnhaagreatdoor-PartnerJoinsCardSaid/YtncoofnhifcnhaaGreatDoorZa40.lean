/- Parts of this proof (own work). -/
import Derived.Test.YtncoofnhifcnhaaGreatDoorZa38
import Derived.Test.YtncoofnhifcnhaaGreatDoorZa39
set_option maxRecDepth 100000
set_option maxHeartbeats 40000000
namespace Go.Proofs.YtncoofnhifcnhaaGreatDoor
open Go.RowKit Go.ChangeShapes Go.WideShapes
variable {w0 w w' W w3 : World} {B q : Nat} {m : StM} {ads : List Addr}
theorem RsV.of {t : TypeId} {fs : List FX} {ms : List MM} {wk : Int} {n k : Nat} {vf vs : Value} (hn : fs.length = n) (hk : ms.length = k) (h1 : w.ownsRow B t 14 vf n (fcE.row fs)) (h2 : w.ownsRow B 26 9 vs k (mmE.row ms)) : RsV t B ⟨fs, ms, wk⟩ (.agg #[vf, vs, wk]) w := by
 subst hn hk; exact ⟨vf, vs, rfl, h1, h2⟩
theorem facts_wf16 {m m2 : StM} {l : List FX} (h : runS m l = some m2) : ∀ f ∈ l, f.wf := fun f hf => right_wf (run_right l m m2 h f hf)
theorem again_ex (m : StM) (i : Int) : ∃ g b, (againP m i = some g ∧ b = true) ∨ (againP m i = none ∧ b = false ∧ g = (⟨0, 0, 0, 0, 0, 0, 0, 0, 0⟩ : MM)) := by
 cases h : againP m i with
 | none => exact ⟨_, _, .inr ⟨rfl, rfl, rfl⟩⟩
 | some g => exact ⟨g, true, .inl ⟨rfl, rfl⟩⟩
theorem do_two (m : StM) (i k : Int) : (doP m i k).2.facts.length ≤ 1 ∧ (doP m i k).2.send.length ≤ 1 ∧ 0 ≤ (doP m i k).1 ∧ (doP m i k).1 ≤ 14 := by
 unfold doP
 split
 ·exact ⟨by simp [rs0], by simp [rs0], by decide, by decide⟩
 ·rename_i x _
  split
  ·exact ⟨by simp [rs0], by simp [rs0], by decide, by decide⟩
  ·split
   ·have h : 0 ≤ (x.z.act k).1 ∧ (x.z.act k).1 ≤ 14 := by
     unfold SeatM.act stepT
     repeat' split
     all_goals first | decide | (dsimp only; omega) | (simp; done)
    exact ⟨by simp [rs0], by simp [rs0], h.1, h.2⟩
   ·exact ⟨by simp, by simp, Int.le_refl _, (show (0 : Int) ≤ 14 by decide)⟩
theorem does16_any (V : St ads w) (C : FacC ads w) (E : EP [0, 3, 4, 8, 13] ads w) (P : ParC ads w) (nd : Int) (v : Value) (lst : List FX) (hs : SlFc v lst w) (i k : Int) (ik : i64M k) : Calls Tryz.prog 4 #[.int .i64 nd, v, .agg #[i, k]] w fun r w' => r = .returned (.bool true) ∧ Kp w w' := by
 obtain ⟨a, cap, rfl, _⟩ := id hs; obtain ⟨n, hn⟩ : ∃ n, lst.length = n := ⟨_, rfl⟩
 rw [hn] at hs ⊢; have kb := kA w (.cells #[i, k] 46); have HAL := hD (alive16_any (C.kp kb) (E.kp kb) (P.kp kb)); have KB := hD kb
 by_cases hin : inN nd ∧ n ≤ 60
 rotate_left
 ·have HBN := hD (fun w1 (hk : Kp w w1) => built_no (E.kp hk) nd a n cap (by by_cases h : inN nd; exact .inr (Nat.lt_of_not_le (fun e => hin ⟨h, e⟩)); exact .inl h)); have hsf := sF; clear V C E P hs hn hin kb ik; go_enter Tryz.func4, Tryz.ntmps4; go_wp2_with (first | (go_at_call 8; (with_reducible refine HAL.out.mono ?_); rintro e' w1 ⟨rfl, hk1⟩; have K1 := hD (kT KB.out hk1); clear hk1) | (go_at_call 9; (with_reducible refine (HBN.out _ K1.out).mono ?_); rintro e' w2 ⟨rfl, hk2⟩; have K2 := hD (kT K1.out hk2); clear hk2))
  go_ret; exact ⟨rfl, K2.out⟩
 obtain ⟨hin, h60⟩ := hin; have HBU := hD (fun w1 (hk : Kp w w1) => by have := built_any (C.kp hk) (E.kp hk) nd _ lst hin (by omega) (by rw [← hn] at hs; exact hs.kp hk); rw [hn] at this; exact this); have HOK := hD (bld_ok lst (newSt_ok hin)); obtain ⟨m, hm⟩ : ∃ m, bldM (newSt nd) lst = m := ⟨_, rfl⟩
 have hnd : m.node = nd := by rw [← hm]; exact bld_node lst (newSt nd)
 rw [hm] at HBU HOK; obtain ⟨HV, HC, HE, HP⟩ := hD4 V C E P; have hsf := sF; have RBX0 := hD (mH w (.cells #[i, k] 46)); obtain ⟨m2, hrun⟩ := do_fit HOK.out i k; obtain ⟨hl1, hl2, he1, he2⟩ := do_two m i k; have hdo := fun w1 (hk : Kp w w1) B q (h : SL B q m w1) => P.does w1 hk B q m h HOK.out i k ik
 have hrd := fun w1 B q (h : SD B q m w1) => rDo h i k
 obtain ⟨g, b, hg⟩ := again_ex m i; have hag := fun w1 (hk : Kp w w1) B q (h : SL B q m w1) => P.again w1 hk B q m h HOK.out i g b hg
 have hnum := fun w1 (hk : Kp w w1) => num_errN ads w1 (V.below hk) (doP m i k).1 he1 he2
 obtain ⟨⟨er, ⟨FS, MS, wk⟩⟩, hY⟩ : ∃ y, doP m i k = y := ⟨_, rfl⟩
 rw [hY] at hdo hrd hrun hl1 hl2 hnum; dsimp only at hdo hrd hrun hl1 hl2 hnum; obtain ⟨lf, hlf⟩ : ∃ n, FS.length = n := ⟨_, rfl⟩
 obtain ⟨lm, hlm⟩ : ∃ n, MS.length = n := ⟨_, rfl⟩
 obtain ⟨ev, hev⟩ : ∃ x, errI ads er = x := ⟨_, rfl⟩
 rw [hev] at hdo hnum; obtain ⟨gk, gf, gt, gn, gs, gr, gp, go, gc⟩ := g; dsimp only [MM.cells] at hag; obtain ⟨HLF, HLM, HL1, HL2⟩ := hD4 hlf hlm hl1 hl2; have HWF := hD (facts_wf16 hrun); obtain ⟨HNUM, HAG⟩ := hD2 hnum hag; have HRA := hD (fun w1 B q (h : SD B q m w1) => rAgain h HOK.out i (⟨gk, gf, gt, gn, gs, gr, gp, go, gc⟩ : MM) b hg); have HDO := hD (fun w1 (hk : Kp w w1) B q (h : SL B q m w1) => (hdo w1 hk B q h).mono (R' := fun r w' => ∃ fa fc ma mc, r = .returned (.tuple #[.agg #[.slice fa lf fc, .slice ma lm mc, wk], ev]) ∧ w'.ownsRow w1.heap.size 73 14 (.slice fa lf fc) lf (fcE.row FS) ∧ w'.ownsRow w1.heap.size 26 9 (.slice ma lm mc) lm (mmE.row MS) ∧ Kp w1 w') (by
  rintro e w2 ⟨v, rfl, h, hk⟩; obtain ⟨fa, fc, ma, mc, rfl, h1, h2⟩ := RsV.form (r := ⟨FS, MS, wk⟩) h hlf hlm; exact ⟨fa, fc, ma, mc, rfl, h1, h2, hk⟩))
 have HRD := hD (fun w1 B q (h : SD B q m w1) => (hrd w1 B q h).mono (R' := fun r w' => ∃ fa fc ma mc, r = .returned (.tuple #[.agg #[.slice fa lf fc, .slice ma lm mc, wk], .int .i64 er]) ∧ w'.ownsRow w1.heap.size 82 14 (.slice fa lf fc) lf (fcE.row FS) ∧ w'.ownsRow w1.heap.size 26 9 (.slice ma lm mc) lm (mmE.row MS) ∧ Kp w1 w') (by
  rintro e w2 ⟨v, rfl, h, hk⟩; obtain ⟨fa, fc, ma, mc, rfl, h1, h2⟩ := RsV.form (r := ⟨FS, MS, wk⟩) h hlf hlm; exact ⟨fa, fc, ma, mc, rfl, h1, h2, hk⟩))
 have HFI := hD (fun w1 w2 wf (h1 : Kp w w1) (h2 : Kp w2 wf) (h12 : Kp w1 w2) {q : Nat} (h : SL w1.heap.size q m w2) a c (B1 : Nat) (ho : wf.ownsRow B1 73 14 (.slice a lf c) lf (fcE.row FS)) => fit_any (w := wf) (B := w1.heap.size) ⟨w1, kT h12 h2, Nat.le_refl _, HC.out.kp h1, HE.out.kp h1⟩ (h.kp h2) HOK.out FS a lf c hlf (by omega) ho HWF.out m2 hrun); have heq : ∀ w, (binOp .eql 26 (.agg #[gk, gf, gt, gn, gs, gr, gp, go, gc]) (.agg #[gk, gf, gt, gn, gs, gr, gp, go, gc])).run Tryz.prog w = .ok (.bool true) w := fun w => by
  have := msg_eql (⟨gk, gf, gt, gn, gs, gr, gp, go, gc⟩ : MM) (⟨gk, gf, gt, gn, gs, gr, gp, go, gc⟩ : MM) w; rw [dT rfl] at this; exact this
 have heg := fun op x y (w : World) => msg_guard op x y (⟨gk, gf, gt, gn, gs, gr, gp, go, gc⟩ : MM) (⟨gk, gf, gt, gn, gs, gr, gp, go, gc⟩ : MM) w
 dsimp only [MM.cells] at heg HRA; clear V C E P hs hn hin h60 kb hm hnd ik hrun hl1 hl2 he1 he2 hdo hrd hag hnum hY hlf hlm hev hg; go_enter Tryz.func4, Tryz.ntmps4; go_wp2_with (first | (go_at_call 8; (with_reducible refine HAL.out.mono ?_); rintro e' w1 ⟨rfl, hk1⟩; have HK0 := hD hk1; have K1 := hD (kT KB.out hk1); clear hk1) | (go_at_call 9; (with_reducible refine (HBU.out _ K1.out).mono ?_); rintro e' w2 ⟨q, q', rfl, hsl, hsd, hk2⟩; obtain ⟨S2, D2, K12⟩ := hD3 hsl hsd hk2; have K2 := hD (kT K1.out hk2); have RBX := hD (rZ (kT (show Kp (w.alloc (.cells #[i, k] 46)) w1 from HK0.out) hk2) RBX0.out); clear hsl hsd hk2))
 obtain ⟨WD, hWD⟩ : ∃ x, w2.drew = x := ⟨_, rfl⟩
 have kD : Kp w2 WD := by rw [← hWD]; exact dQ (Kp.refl _)
 obtain ⟨HWD, KD⟩ := hD2 hWD kD; clear hWD; refine rgW (fun w' => Kp w2 w') ?_ fun hH => ?_
 ·exact by rw [HWD.out]; exact kD
 rw [HWD.out] at hH ⊢; refine tkP 0 ?_
 go_simp; refine tkP 1 ?_ (y := by intro w hZ; obtain ⟨y0, y1⟩ := cells_2S (rZ hZ RBX.out); go_simp; try rfl)
 go_simp; refine tkP 2 ?_
 go_simp; refine tkP 3 ?_ (y := by intro w hZ; obtain ⟨y0, y1⟩ := cells_2S (rZ hZ RBX.out); go_simp; try rfl)
 go_simp; refine tkP 4 ?_
 go_simp; refine tkP 5 ?_
 go_simp; refine dnW ?_ _
 clear hH kD; go_wp2_with (first | (go_at_call 17; (with_reducible refine (HDO.out _ (kT K2.out KD.out) _ _ (S2.out.kp KD.out)).mono ?_); rintro e' w3 ⟨fa, fc, ma, mc, rfl, hof, hom, hk3⟩; have kz := kT KD.out (kT hk3 (kA w3 (.cells #[.slice fa lf fc, .slice ma lm mc, wk] 34))); have K23 := hD kz; have OF := hD (oK hof (kA w3 (.cells #[.slice fa lf fc, .slice ma lm mc, wk] 34))); have OM := hD (oK hom (kA w3 (.cells #[.slice fa lf fc, .slice ma lm mc, wk] 34))); have R12 := hD (mH w3 (.cells #[.slice fa lf fc, .slice ma lm mc, wk] 34)); clear hof hom hk3 kz) | (go_at_call 18; (with_reducible refine (HRD.out _ _ _ (D2.out.kp K23.out)).mono ?_); rintro e' w4 ⟨fb, fd, mb, md, rfl, hof, hom, hk4⟩; have kz := kT hk4 (kA w4 (.cells #[.slice fb lf fd, .slice mb lm md, wk] 39)); have K24 := hD (kT K23.out kz); have OF4 := hD (oK OF.out kz); have OM4 := hD (oK OM.out kz); have OFD := hD (oK hof (kA w4 (.cells #[.slice fb lf fd, .slice mb lm md, wk] 39))); have OMD := hD (oK hom (kA w4 (.cells #[.slice fb lf fd, .slice mb lm md, wk] 39))); have R412 := hD (rZ kz R12.out); have R414 := hD (mH w4 (.cells #[.slice fb lf fd, .slice mb lm md, wk] 39)); clear hof hom hk4 kz))
 obtain ⟨WE, hWE⟩ : ∃ x, (w4.alloc (.cells #[.slice fb lf fd, .slice mb lm md, wk] 39)).drew = x := ⟨_, rfl⟩
 have kE : Kp (w4.alloc (.cells #[.slice fb lf fd, .slice mb lm md, wk] 39)) WE := by rw [← hWE]; exact dQ (Kp.refl _)
 obtain ⟨HWE, KE⟩ := hD2 hWE kE; have K2E := hD (kT K24.out kE); have R4D12 := hD (rZ kE R412.out); have R4D14 := hD (rZ kE R414.out); have HTO := hD (fun W (hk : Kp WE W) => told_any (B1 := 0) FS MS wk (.agg #[.slice fa lf fc, .slice ma lm mc, wk]) (w := W) (RsV.of HLF.out HLM.out (bG (oK OF4.out (kT KE.out hk)) (Nat.zero_le _)) (bG (oK OM4.out (kT KE.out hk)) (Nat.zero_le _))) (by have := HLF.out; have := HL1.out; omega)); have HSA := hD (fun W v5 (hk : Kp WE W) (hv : RsV 82 0 ⟨FS, MS, wk⟩ v5 W) => rSame_any FS MS wk v5 (.agg #[.slice fb lf fd, .slice mb lm md, wk]) hv (RsV.of HLF.out HLM.out (bG (oK OFD.out (kT KE.out hk)) (Nat.zero_le _)) (bG (oK OMD.out (kT KE.out hk)) (Nat.zero_le _))) HWF.out (by have := HLF.out; have := HL1.out; omega) (by have := HLM.out; have := HL2.out; omega)); have HNU := hD (fun W (hk : Kp WE W) => HNUM.out W (kT K2.out (kT K2E.out hk))); clear hWE kE
 refine rgW (fun w' => Kp WE w') ?_ fun hH => ?_
 ·exact by rw [HWE.out]; exact Kp.refl _
 rw [HWE.out] at hH ⊢; refine tkP 0 ?_ (y := by intro w hZ; obtain ⟨y0, y1, y2⟩ := cellsR3 (rZ hZ R4D12.out); go_simp; try rfl)
 go_simp; refine tkP 2 ?_ (y := by intro w hZ; obtain ⟨y0, y1, y2⟩ := cellsR3 (rZ hZ R4D14.out); go_simp; try rfl)
 go_simp; refine rdW 1 fun K hK => ?_
 go_simp; go_wp2_with (go_at_call 12; (with_reducible refine (HTO.out _ hH).mono ?_); rintro e' W5 ⟨v5, rfl, hv5, hk5⟩)
 refine hK.out _ _ (kT hH hk5) fun hH => ?_
 clear hK K; refine rdW 3 fun K hK => ?_
 go_simp; go_wp2_with (go_at_call 11; (with_reducible refine (HSA.out _ v5 hH hv5).mono ?_); rintro e' W6 ⟨rfl, hk6⟩)
 refine hK.out _ _ (kT hH hk6) fun hH => ?_
 clear hK K; refine tkP 4 ?_
 go_simp; refine tkP 5 ?_
 go_simp; refine tkP 6 ?_
 go_simp; refine tkP 8 ?_
 go_simp; refine rdW 7 fun K hK => ?_
 go_simp; go_wp2_with (go_at_call 19; (with_reducible refine (HNU.out _ hH).mono ?_); rintro e' W7 ⟨rfl, hk7⟩)
 refine hK.out _ _ (kT hH hk7) fun hH => ?_
 clear hK K; refine tkP 9 ?_
 go_simp; refine tkP 10 ?_
 go_simp; refine dnW ?_ _
 have KF := hD (show Kp WE _ from hH); clear hH; go_wp2_with (first | (go_at_call 20; (with_reducible refine (HAG.out _ (kT K2.out (kT K2E.out KF.out)) _ _ (S2.out.kp (kT K2E.out KF.out))).mono ?_); rintro e' w8 ⟨rfl, hk8⟩; have kz := kT hk8 (kA w8 (.cells #[gk, gf, gt, gn, gs, gr, gp, go, gc] 26)); have K28 := hD (kT (kT K2E.out KF.out) kz); have KE8 := hD (kT KF.out kz); have R816 := hD (mH w8 (.cells #[gk, gf, gt, gn, gs, gr, gp, go, gc] 26)); clear hk8 kz) | (go_at_call 21; (with_reducible refine (HRA.out _ _ _ (D2.out.kp K28.out)).mono ?_); rintro e' w9 ⟨rfl, hk9⟩; have kz := kT hk9 (kA w9 (.cells #[gk, gf, gt, gn, gs, gr, gp, go, gc] 26)); have K29 := hD (kT K28.out kz); have KE9 := hD (kT KE8.out kz); obtain ⟨p0, p1, p2, p3, p4, p5, p6, p7, p8⟩ := cells9 (rZ kz R816.out); obtain ⟨z0, z1, z2, z3, z4, z5, z6, z7, z8⟩ := cells9 (mH w9 (.cells #[gk, gf, gt, gn, gs, gr, gp, go, gc] 26)); obtain ⟨x0, x1, x2⟩ := cellsR3 (rZ KE9.out R4D12.out); have OFF := hD (oK OF4.out (kT KE.out KE9.out)); clear hk9 kz) | (go_at_call 16; (with_reducible refine (HFI.out _ _ _ K1.out K29.out K12.out S2.out _ _ _ OFF.out).mono ?_); rintro e' w10 ⟨rfl, _, _, hfr⟩; have K10 := hD (hfr.2.2 w (kT K2.out K29.out) (kS K1.out)); clear hfr))
 go_ret; exact ⟨rfl, K10.out⟩
end Go.Proofs.YtncoofnhifcnhaaGreatDoor
