/-
 PartnerTells: for every node, every list of facts and every message, a participant that is told it answers as the document says; and where the message's number is a registration's, the facts of it fit. Condition: package api's errors and strconv's table of powers hold what their declarations lay.
-/
import Derived.Test.YtncoofnhifcnhaaGreatDoorZt38
import Derived.Test.YtncoofnhifcnhaaGreatDoorCards
import Derived.Test.YtncoofnhifcnhaaGreatDoorTie
import Derived.Lay
set_option maxRecDepth 100000
set_option maxHeartbeats 40000000
namespace Go.Proofs.YtncoofnhifcnhaaGreatDoor
open Go.RowKit Go.ChangeShapes Go.WideShapes
variable {w0 w w' W w3 : World} {B q : Nat} {m : StM} {ads : List Addr}
theorem tell_wf (m : StM) (g : MM) : ∀ f ∈ (tellP m g).facts, f.wf := by
 have hp : ∀ x, ∀ f ∈ placeP x g, f.wf := by
  intro x f hf; unfold placeP at hf
  split at hf
  ·simp only [List.mem_singleton] at hf
   subst hf; exact (show (0 : Nat) < 18446744073709551616 by decide)
  ·cases hf
 have ht : ∀ a b c, (fxTurned a b c).wf := fun a b c => (show (0 : Nat) < 18446744073709551616 by decide)
 unfold tellP seatP
 repeat' split
 all_goals (intro f hf; first | exact hp _ f hf | (simp only [rs0, List.not_mem_nil] at hf; done) | (simp only [List.mem_singleton] at hf; subst hf; exact ht _ _ _) | (simp only [List.mem_append, List.mem_singleton, List.append_nil] at hf; first | exact hp _ f hf | (rcases hf with hf | rfl; exact hp _ f hf; exact ht _ _ _)))
theorem tells16_any (V : St ads w) (C : FacC ads w) (E : EP [0, 3, 4, 8, 13] ads w) (P : ParC ads w) (nd : Int) (v : Value) (lst : List FX) (hs : SlFc v lst w) (gk gf gt gn gs gr gp go gc : Int) : Calls Tryz.prog 3 #[.int .i64 nd, v, .agg #[gk, gf, gt, gn, gs, gr, gp, go, gc]] w fun r w' => r = .returned (.bool true) ∧ Kp w w' := by
 obtain ⟨a, cap, rfl, _⟩ := id hs; obtain ⟨n, hn⟩ : ∃ n, lst.length = n := ⟨_, rfl⟩
 rw [hn] at hs ⊢; have kb := kA w (.cells #[gk, gf, gt, gn, gs, gr, gp, go, gc] 26); have HAL := hD (alive16_any (C.kp kb) (E.kp kb) (P.kp kb)); have KB := hD kb
 by_cases hin : inN nd ∧ n ≤ 60
 rotate_left
 ·have HBN := hD (fun w1 (hk : Kp w w1) => built_no (E.kp hk) nd a n cap (by by_cases h : inN nd; exact .inr (Nat.lt_of_not_le (fun e => hin ⟨h, e⟩)); exact .inl h)); have hsf := sF; clear V C E P hs hn hin kb; go_enter Tryz.func3, Tryz.ntmps3; go_wp2_with (first | (go_at_call 8; (with_reducible refine HAL.out.mono ?_); rintro e' w1 ⟨rfl, hk1⟩; have K1 := hD (kT KB.out hk1); clear hk1) | (go_at_call 9; (with_reducible refine (HBN.out _ K1.out).mono ?_); rintro e' w2 ⟨rfl, hk2⟩; have K2 := hD (kT K1.out hk2); clear hk2))
  go_ret; exact ⟨rfl, K2.out⟩
 obtain ⟨hin, h60⟩ := hin; have HBU := hD (fun w1 (hk : Kp w w1) => by have := built_any (C.kp hk) (E.kp hk) nd _ lst hin (by omega) (by rw [← hn] at hs; exact hs.kp hk); rw [hn] at this; exact this); have HOK := hD (bld_ok lst (newSt_ok hin)); obtain ⟨m, hm⟩ : ∃ m, bldM (newSt nd) lst = m := ⟨_, rfl⟩
 have hnd : m.node = nd := by rw [← hm]; exact bld_node lst (newSt nd)
 rw [hm] at HBU HOK; obtain ⟨HV, HC, HE, HP⟩ := hD4 V C E P; have hsf := sF; have RBX0 := hD (mH w (.cells #[gk, gf, gt, gn, gs, gr, gp, go, gc] 26)); obtain ⟨hl1, hl2⟩ := tell_two m (⟨gk, gf, gt, gn, gs, gr, gp, go, gc⟩ : MM); have hwf := tell_wf m (⟨gk, gf, gt, gn, gs, gr, gp, go, gc⟩ : MM); have htf := fun hr => tell_fit HOK.out (⟨gk, gf, gt, gn, gs, gr, gp, go, gc⟩ : MM) hr
 have ht1 := fun w1 (hk : Kp w w1) B q (h : SL B q m w1) => P.tell w1 hk B q m h HOK.out (⟨gk, gf, gt, gn, gs, gr, gp, go, gc⟩ : MM)
 have hrd := fun w1 B q (h : SD B q m w1) => rTell h HOK.out gk gf gt gn gs gr gp go gc
 have hak := fun w1 (hk : Kp w w1) q => P.asked w1 hk q (⟨gk, gf, gt, gn, gs, gr, gp, go, gc⟩ : MM)
 obtain ⟨⟨FS, MS, wk⟩, hY⟩ : ∃ y, tellP m (⟨gk, gf, gt, gn, gs, gr, gp, go, gc⟩ : MM) = y := ⟨_, rfl⟩
 obtain ⟨ak, hka⟩ : ∃ y, askedP (⟨gk, gf, gt, gn, gs, gr, gp, go, gc⟩ : MM) = y := ⟨_, rfl⟩
 rw [hY] at ht1 hrd hl1 hl2 hwf htf; rw [hka] at hak; dsimp only [MM.cells] at ht1 hl1 hl2 hwf htf hak; obtain ⟨lf, hlf⟩ : ∃ n, FS.length = n := ⟨_, rfl⟩
 obtain ⟨lm, hlm⟩ : ∃ n, MS.length = n := ⟨_, rfl⟩
 have HT1 := hD (fun w1 (hk : Kp w w1) B q (h : SL B q m w1) => (ht1 w1 hk B q h).mono (R' := fun r w' => ∃ fa fc ma mc, r = .returned (.agg #[.slice fa lf fc, .slice ma lm mc, wk]) ∧ w'.ownsRow w1.heap.size 73 14 (.slice fa lf fc) lf (fcE.row FS) ∧ w'.ownsRow w1.heap.size 26 9 (.slice ma lm mc) lm (mmE.row MS) ∧ Kp w1 w') (by
  rintro e w2 ⟨v, rfl, h, hk⟩; obtain ⟨fa, fc, ma, mc, rfl, h1, h2⟩ := RsV.form (r := ⟨FS, MS, wk⟩) h hlf hlm; exact ⟨fa, fc, ma, mc, rfl, h1, h2, hk⟩))
 have HRD := hD (fun w1 B q (h : SD B q m w1) => (hrd w1 B q h).mono (R' := fun r w' => ∃ v, r = .returned v ∧ RsV 82 0 ⟨FS, MS, wk⟩ v w' ∧ Kp w1 w') (by
  rintro e w2 ⟨v, rfl, h, hk⟩; exact ⟨v, rfl, RsV.base h (Nat.zero_le _), hk⟩))
 have HAK0 := hD (fun w1 (hk : Kp w w1) => hak w1 hk); have har := fun w1 => rAsked (w := w1) gk gf gt gn gs gr gp go gc
 rw [hka] at har; obtain ⟨HAR, HLF, HLM, HL1, HL2, HWF⟩ := hD6 har hlf hlm hl1 hl2 hwf
 by_cases hr : 0 ≤ gr ∧ gr ≤ 5
 ·obtain ⟨m2, hrun⟩ := htf hr; have d1 := dF (show ¬ gr < 0 by omega); have d2 := dF (show ¬ gr ≥ 6 by omega); have HFI := hD (fun w1 w2 wf (h1 : Kp w w1) (h2 : Kp w2 wf) (h12 : Kp w1 w2) {q : Nat} (h : SL w1.heap.size q m w2) a c (B1 : Nat) (ho : wf.ownsRow B1 73 14 (.slice a lf c) lf (fcE.row FS)) => fit_any (w := wf) (B := w1.heap.size) ⟨w1, kT h12 h2, Nat.le_refl _, HC.out.kp h1, HE.out.kp h1⟩ (h.kp h2) HOK.out FS a lf c hlf (by omega) ho HWF.out m2 hrun); clear V C E P hs hn hin h60 kb hm hnd hr hrun hl1 hl2 hwf htf ht1 hrd hak har hY hka hlf hlm; go_enter Tryz.func3, Tryz.ntmps3; go_wp2_with (first | (go_at_call 8; (with_reducible refine HAL.out.mono ?_); rintro e' w1 ⟨rfl, hk1⟩; have HK0 := hD hk1; have K1 := hD (kT KB.out hk1); clear hk1) | (go_at_call 9; (with_reducible refine (HBU.out _ K1.out).mono ?_); rintro e' w2 ⟨q, q', rfl, hsl, hsd, hk2⟩; obtain ⟨S2, D2, K12⟩ := hD3 hsl hsd hk2; have K2 := hD (kT K1.out hk2); have RBX := hD (rZ (kT HK0.out hk2) RBX0.out); obtain ⟨b20, b21, b22, b23, b24, b25, b26, b27, b28⟩ := cells9 RBX.out; clear hsl hsd hk2) | (go_at_call 10; (with_reducible refine (HT1.out _ K2.out _ _ S2.out).mono ?_); rintro e' w3 ⟨fa, fc, ma, mc, rfl, hof, hom, hk3⟩; have kz := kT hk3 (kA w3 (.cells #[.slice fa lf fc, .slice ma lm mc, wk] 34)); have K3 := hD (kT K2.out kz); have K23 := hD kz; have OF := hD (oK hof (kA w3 (.cells #[.slice fa lf fc, .slice ma lm mc, wk] 34))); have OM := hD (oK hom (kA w3 (.cells #[.slice fa lf fc, .slice ma lm mc, wk] 34))); have RR := hD (mH w3 (.cells #[.slice fa lf fc, .slice ma lm mc, wk] 34)); have RM := hD (rZ kz RBX.out); clear hof hom hk3 kz))
  obtain ⟨WE, hWE⟩ : ∃ x, (w3.alloc (.cells #[.slice fa lf fc, .slice ma lm mc, wk] 34)).drew = x := ⟨_, rfl⟩
  have kE : Kp (w3.alloc (.cells #[.slice fa lf fc, .slice ma lm mc, wk] 34)) WE := by rw [← hWE]; exact dQ (Kp.refl _)
  obtain ⟨HWE, KE⟩ := hD2 hWE kE; have K2E := hD (kT K23.out kE); have RRD := hD (rZ kE RR.out); have RMD := hD (rZ kE RM.out); have HTO := hD (fun W (hk : Kp WE W) => told_any (B1 := 0) FS MS wk (.agg #[.slice fa lf fc, .slice ma lm mc, wk]) (w := W) (RsV.of HLF.out HLM.out (bG (oK OF.out (kT KE.out hk)) (Nat.zero_le _)) (bG (oK OM.out (kT KE.out hk)) (Nat.zero_le _))) (by have := HL1.out; omega)); have HRT := hD (fun W (hk : Kp WE W) => HRD.out W _ _ (D2.out.kp (kT K2E.out hk))); have HSA := hD (fun W v5 v6 (hk : Kp WE W) (hv : RsV 82 0 ⟨FS, MS, wk⟩ v5 W) (hv6 : RsV 82 0 ⟨FS, MS, wk⟩ v6 W) => rSame_any FS MS wk v5 v6 hv hv6 HWF.out (by have := HL1.out; omega) (by have := HL2.out; omega)); have HAK := hD (fun W (hk : Kp WE W) => HAK0.out W (kT K2.out (kT K2E.out hk))); clear hWE kE; refine rgW (fun w' => Kp WE w') ?_ fun hH => ?_
  ·exact by rw [HWE.out]; exact Kp.refl _
  rw [HWE.out] at hH ⊢; refine tkP 0 ?_ (y := by intro w hZ; obtain ⟨y0, y1, y2⟩ := cellsR3 (rZ hZ RRD.out); go_simp; try rfl)
  go_simp; refine tkP 2 ?_
  go_simp; refine tkP 3 ?_ (y := by intro w hZ; obtain ⟨y0, y1, y2, y3, y4, y5, y6, y7, y8⟩ := cells9 (rZ hZ RMD.out); go_simp; try rfl)
  go_simp; refine rdW 1 fun K hK => ?_
  go_simp; go_wp2_with (go_at_call 12; (with_reducible refine (HTO.out _ hH).mono ?_); rintro e' W5 ⟨v5, rfl, hv5, hk5⟩)
  refine hK.out _ _ (kT hH hk5) fun hH => ?_
  clear hK K; refine rdW 4 fun K hK => ?_
  go_simp; go_wp2_with (go_at_call 13; (with_reducible refine (HRT.out _ hH).mono ?_); rintro e' W6 ⟨v6, rfl, hv6, hk6⟩)
  refine hK.out _ _ (kT hH hk6) fun hH => ?_
  clear hK K; have hv5 := RsV.kp hv5 hk6; refine rdW 5 fun K hK => ?_
  go_simp; go_wp2_with (go_at_call 11; (with_reducible refine (HSA.out _ v5 v6 hH hv5 hv6).mono ?_); rintro e' W7 ⟨rfl, hk7⟩)
  refine hK.out _ _ (kT hH hk7) fun hH => ?_
  clear hK K; refine tkP 6 ?_
  go_simp; refine tkP 7 ?_
  go_simp; refine tkP 8 ?_
  go_simp; refine tkP 9 ?_ (y := by intro w hZ; obtain ⟨y0, y1, y2, y3, y4, y5, y6, y7, y8⟩ := cells9 (rZ hZ RMD.out); go_simp; try rfl)
  go_simp; refine tkP 11 ?_ (y := by intro w hZ; obtain ⟨y0, y1, y2, y3, y4, y5, y6, y7, y8⟩ := cells9 (rZ hZ RMD.out); go_simp; try rfl)
  go_simp; refine rdW 10 fun K hK => ?_
  go_simp; go_wp2_with (go_at_call 14; (with_reducible refine (HAK.out _ hH _).mono ?_); rintro e' W8 ⟨rfl, hk8⟩)
  refine hK.out _ _ (kT hH hk8) fun hH => ?_
  clear hK K; refine rdW 12 fun K hK => ?_
  go_simp; go_wp2_with (go_at_call 15; (with_reducible refine (HAR.out _).mono ?_); rintro e' W9 ⟨rfl, hk9⟩)
  refine hK.out _ _ (kT hH hk9) fun hH => ?_
  clear hK K; refine tkP 13 ?_
  go_simp; refine tkP 14 ?_
  go_simp; refine dnW ?_ _
  obtain ⟨wr, hwr⟩ : ∃ x, W9 = x := ⟨_, rfl⟩
  rw [hwr] at hH ⊢; have KF := hD hH; clear hH hwr hv5 hv6; have KWR := hD (kT K2.out (kT K2E.out KF.out)); have K2F := hD (kT K2E.out KF.out); have KEF := hD (kT KE.out KF.out); obtain ⟨b30, b31, b32, b33, b34, b35, b36, b37, b38⟩ := cells9 (rZ KF.out RMD.out); obtain ⟨b40, b41, b42⟩ := cellsR3 (rZ KF.out RRD.out); go_wp2_with (go_at_call 16; (with_reducible refine (HFI.out _ _ _ K1.out K2F.out K12.out S2.out _ _ _ (oK OF.out KEF.out)).mono ?_); rintro e' w10 ⟨rfl, _, _, hfr⟩; have K10 := hD (hfr.2.2 w KWR.out (kS K1.out)); clear hfr)
  go_ret; exact ⟨rfl, K10.out⟩
 ·clear V C E P hs hn hin h60 kb hm hnd hl1 hl2 hwf htf ht1 hrd hak har hY hka hlf hlm
  by_cases h1 : gr < 0
  ·have d1 := dT h1; clear hr h1; go_enter Tryz.func3, Tryz.ntmps3; go_wp2_with (first | (go_at_call 8; (with_reducible refine HAL.out.mono ?_); rintro e' w1 ⟨rfl, hk1⟩; have HK0 := hD hk1; have K1 := hD (kT KB.out hk1); clear hk1) | (go_at_call 9; (with_reducible refine (HBU.out _ K1.out).mono ?_); rintro e' w2 ⟨q, q', rfl, hsl, hsd, hk2⟩; obtain ⟨S2, D2, K12⟩ := hD3 hsl hsd hk2; have K2 := hD (kT K1.out hk2); have RBX := hD (rZ (kT HK0.out hk2) RBX0.out); obtain ⟨b20, b21, b22, b23, b24, b25, b26, b27, b28⟩ := cells9 RBX.out; clear hsl hsd hk2) | (go_at_call 10; (with_reducible refine (HT1.out _ K2.out _ _ S2.out).mono ?_); rintro e' w3 ⟨fa, fc, ma, mc, rfl, hof, hom, hk3⟩; have kz := kT hk3 (kA w3 (.cells #[.slice fa lf fc, .slice ma lm mc, wk] 34)); have K3 := hD (kT K2.out kz); have K23 := hD kz; have OF := hD (oK hof (kA w3 (.cells #[.slice fa lf fc, .slice ma lm mc, wk] 34))); have OM := hD (oK hom (kA w3 (.cells #[.slice fa lf fc, .slice ma lm mc, wk] 34))); have RR := hD (mH w3 (.cells #[.slice fa lf fc, .slice ma lm mc, wk] 34)); have RM := hD (rZ kz RBX.out); clear hof hom hk3 kz))
   obtain ⟨WE, hWE⟩ : ∃ x, (w3.alloc (.cells #[.slice fa lf fc, .slice ma lm mc, wk] 34)).drew = x := ⟨_, rfl⟩
   have kE : Kp (w3.alloc (.cells #[.slice fa lf fc, .slice ma lm mc, wk] 34)) WE := by rw [← hWE]; exact dQ (Kp.refl _)
   obtain ⟨HWE, KE⟩ := hD2 hWE kE; have K2E := hD (kT K23.out kE); have RRD := hD (rZ kE RR.out); have RMD := hD (rZ kE RM.out); have HTO := hD (fun W (hk : Kp WE W) => told_any (B1 := 0) FS MS wk (.agg #[.slice fa lf fc, .slice ma lm mc, wk]) (w := W) (RsV.of HLF.out HLM.out (bG (oK OF.out (kT KE.out hk)) (Nat.zero_le _)) (bG (oK OM.out (kT KE.out hk)) (Nat.zero_le _))) (by have := HL1.out; omega)); have HRT := hD (fun W (hk : Kp WE W) => HRD.out W _ _ (D2.out.kp (kT K2E.out hk))); have HSA := hD (fun W v5 v6 (hk : Kp WE W) (hv : RsV 82 0 ⟨FS, MS, wk⟩ v5 W) (hv6 : RsV 82 0 ⟨FS, MS, wk⟩ v6 W) => rSame_any FS MS wk v5 v6 hv hv6 HWF.out (by have := HL1.out; omega) (by have := HL2.out; omega)); have HAK := hD (fun W (hk : Kp WE W) => HAK0.out W (kT K2.out (kT K2E.out hk))); clear hWE kE; refine rgW (fun w' => Kp WE w') ?_ fun hH => ?_
   ·exact by rw [HWE.out]; exact Kp.refl _
   rw [HWE.out] at hH ⊢; refine tkP 0 ?_ (y := by intro w hZ; obtain ⟨y0, y1, y2⟩ := cellsR3 (rZ hZ RRD.out); go_simp; try rfl)
   go_simp; refine tkP 2 ?_
   go_simp; refine tkP 3 ?_ (y := by intro w hZ; obtain ⟨y0, y1, y2, y3, y4, y5, y6, y7, y8⟩ := cells9 (rZ hZ RMD.out); go_simp; try rfl)
   go_simp; refine rdW 1 fun K hK => ?_
   go_simp; go_wp2_with (go_at_call 12; (with_reducible refine (HTO.out _ hH).mono ?_); rintro e' W5 ⟨v5, rfl, hv5, hk5⟩)
   refine hK.out _ _ (kT hH hk5) fun hH => ?_
   clear hK K; refine rdW 4 fun K hK => ?_
   go_simp; go_wp2_with (go_at_call 13; (with_reducible refine (HRT.out _ hH).mono ?_); rintro e' W6 ⟨v6, rfl, hv6, hk6⟩)
   refine hK.out _ _ (kT hH hk6) fun hH => ?_
   clear hK K; have hv5 := RsV.kp hv5 hk6; refine rdW 5 fun K hK => ?_
   go_simp; go_wp2_with (go_at_call 11; (with_reducible refine (HSA.out _ v5 v6 hH hv5 hv6).mono ?_); rintro e' W7 ⟨rfl, hk7⟩)
   refine hK.out _ _ (kT hH hk7) fun hH => ?_
   clear hK K; refine tkP 6 ?_
   go_simp; refine tkP 7 ?_
   go_simp; refine tkP 8 ?_
   go_simp; refine tkP 9 ?_ (y := by intro w hZ; obtain ⟨y0, y1, y2, y3, y4, y5, y6, y7, y8⟩ := cells9 (rZ hZ RMD.out); go_simp; try rfl)
   go_simp; refine tkP 11 ?_ (y := by intro w hZ; obtain ⟨y0, y1, y2, y3, y4, y5, y6, y7, y8⟩ := cells9 (rZ hZ RMD.out); go_simp; try rfl)
   go_simp; refine rdW 10 fun K hK => ?_
   go_simp; go_wp2_with (go_at_call 14; (with_reducible refine (HAK.out _ hH _).mono ?_); rintro e' W8 ⟨rfl, hk8⟩)
   refine hK.out _ _ (kT hH hk8) fun hH => ?_
   clear hK K; refine rdW 12 fun K hK => ?_
   go_simp; go_wp2_with (go_at_call 15; (with_reducible refine (HAR.out _).mono ?_); rintro e' W9 ⟨rfl, hk9⟩)
   refine hK.out _ _ (kT hH hk9) fun hH => ?_
   clear hK K; refine tkP 13 ?_
   go_simp; refine tkP 14 ?_
   go_simp; refine dnW ?_ _
   obtain ⟨wr, hwr⟩ : ∃ x, W9 = x := ⟨_, rfl⟩
   rw [hwr] at hH ⊢; have KF := hD hH; clear hH hwr hv5 hv6; have KWR := hD (kT K2.out (kT K2E.out KF.out)); have K2F := hD (kT K2E.out KF.out); have KEF := hD (kT KE.out KF.out); obtain ⟨b30, b31, b32, b33, b34, b35, b36, b37, b38⟩ := cells9 (rZ KF.out RMD.out); obtain ⟨b40, b41, b42⟩ := cellsR3 (rZ KF.out RRD.out); go_wp2; go_ret; exact ⟨rfl, KWR.out⟩
  ·have d1 := dF h1; have d2 := dT (show gr ≥ 6 by omega); clear hr h1; go_enter Tryz.func3, Tryz.ntmps3; go_wp2_with (first | (go_at_call 8; (with_reducible refine HAL.out.mono ?_); rintro e' w1 ⟨rfl, hk1⟩; have HK0 := hD hk1; have K1 := hD (kT KB.out hk1); clear hk1) | (go_at_call 9; (with_reducible refine (HBU.out _ K1.out).mono ?_); rintro e' w2 ⟨q, q', rfl, hsl, hsd, hk2⟩; obtain ⟨S2, D2, K12⟩ := hD3 hsl hsd hk2; have K2 := hD (kT K1.out hk2); have RBX := hD (rZ (kT HK0.out hk2) RBX0.out); obtain ⟨b20, b21, b22, b23, b24, b25, b26, b27, b28⟩ := cells9 RBX.out; clear hsl hsd hk2) | (go_at_call 10; (with_reducible refine (HT1.out _ K2.out _ _ S2.out).mono ?_); rintro e' w3 ⟨fa, fc, ma, mc, rfl, hof, hom, hk3⟩; have kz := kT hk3 (kA w3 (.cells #[.slice fa lf fc, .slice ma lm mc, wk] 34)); have K3 := hD (kT K2.out kz); have K23 := hD kz; have OF := hD (oK hof (kA w3 (.cells #[.slice fa lf fc, .slice ma lm mc, wk] 34))); have OM := hD (oK hom (kA w3 (.cells #[.slice fa lf fc, .slice ma lm mc, wk] 34))); have RR := hD (mH w3 (.cells #[.slice fa lf fc, .slice ma lm mc, wk] 34)); have RM := hD (rZ kz RBX.out); clear hof hom hk3 kz))
   obtain ⟨WE, hWE⟩ : ∃ x, (w3.alloc (.cells #[.slice fa lf fc, .slice ma lm mc, wk] 34)).drew = x := ⟨_, rfl⟩
   have kE : Kp (w3.alloc (.cells #[.slice fa lf fc, .slice ma lm mc, wk] 34)) WE := by rw [← hWE]; exact dQ (Kp.refl _)
   obtain ⟨HWE, KE⟩ := hD2 hWE kE; have K2E := hD (kT K23.out kE); have RRD := hD (rZ kE RR.out); have RMD := hD (rZ kE RM.out); have HTO := hD (fun W (hk : Kp WE W) => told_any (B1 := 0) FS MS wk (.agg #[.slice fa lf fc, .slice ma lm mc, wk]) (w := W) (RsV.of HLF.out HLM.out (bG (oK OF.out (kT KE.out hk)) (Nat.zero_le _)) (bG (oK OM.out (kT KE.out hk)) (Nat.zero_le _))) (by have := HL1.out; omega)); have HRT := hD (fun W (hk : Kp WE W) => HRD.out W _ _ (D2.out.kp (kT K2E.out hk))); have HSA := hD (fun W v5 v6 (hk : Kp WE W) (hv : RsV 82 0 ⟨FS, MS, wk⟩ v5 W) (hv6 : RsV 82 0 ⟨FS, MS, wk⟩ v6 W) => rSame_any FS MS wk v5 v6 hv hv6 HWF.out (by have := HL1.out; omega) (by have := HL2.out; omega)); have HAK := hD (fun W (hk : Kp WE W) => HAK0.out W (kT K2.out (kT K2E.out hk))); clear hWE kE; refine rgW (fun w' => Kp WE w') ?_ fun hH => ?_
   ·exact by rw [HWE.out]; exact Kp.refl _
   rw [HWE.out] at hH ⊢; refine tkP 0 ?_ (y := by intro w hZ; obtain ⟨y0, y1, y2⟩ := cellsR3 (rZ hZ RRD.out); go_simp; try rfl)
   go_simp; refine tkP 2 ?_
   go_simp; refine tkP 3 ?_ (y := by intro w hZ; obtain ⟨y0, y1, y2, y3, y4, y5, y6, y7, y8⟩ := cells9 (rZ hZ RMD.out); go_simp; try rfl)
   go_simp; refine rdW 1 fun K hK => ?_
   go_simp; go_wp2_with (go_at_call 12; (with_reducible refine (HTO.out _ hH).mono ?_); rintro e' W5 ⟨v5, rfl, hv5, hk5⟩)
   refine hK.out _ _ (kT hH hk5) fun hH => ?_
   clear hK K; refine rdW 4 fun K hK => ?_
   go_simp; go_wp2_with (go_at_call 13; (with_reducible refine (HRT.out _ hH).mono ?_); rintro e' W6 ⟨v6, rfl, hv6, hk6⟩)
   refine hK.out _ _ (kT hH hk6) fun hH => ?_
   clear hK K; have hv5 := RsV.kp hv5 hk6; refine rdW 5 fun K hK => ?_
   go_simp; go_wp2_with (go_at_call 11; (with_reducible refine (HSA.out _ v5 v6 hH hv5 hv6).mono ?_); rintro e' W7 ⟨rfl, hk7⟩)
   refine hK.out _ _ (kT hH hk7) fun hH => ?_
   clear hK K; refine tkP 6 ?_
   go_simp; refine tkP 7 ?_
   go_simp; refine tkP 8 ?_
   go_simp; refine tkP 9 ?_ (y := by intro w hZ; obtain ⟨y0, y1, y2, y3, y4, y5, y6, y7, y8⟩ := cells9 (rZ hZ RMD.out); go_simp; try rfl)
   go_simp; refine tkP 11 ?_ (y := by intro w hZ; obtain ⟨y0, y1, y2, y3, y4, y5, y6, y7, y8⟩ := cells9 (rZ hZ RMD.out); go_simp; try rfl)
   go_simp; refine rdW 10 fun K hK => ?_
   go_simp; go_wp2_with (go_at_call 14; (with_reducible refine (HAK.out _ hH _).mono ?_); rintro e' W8 ⟨rfl, hk8⟩)
   refine hK.out _ _ (kT hH hk8) fun hH => ?_
   clear hK K; refine rdW 12 fun K hK => ?_
   go_simp; go_wp2_with (go_at_call 15; (with_reducible refine (HAR.out _).mono ?_); rintro e' W9 ⟨rfl, hk9⟩)
   refine hK.out _ _ (kT hH hk9) fun hH => ?_
   clear hK K; refine tkP 13 ?_
   go_simp; refine tkP 14 ?_
   go_simp; refine dnW ?_ _
   obtain ⟨wr, hwr⟩ : ∃ x, W9 = x := ⟨_, rfl⟩
   rw [hwr] at hH ⊢; have KF := hD hH; clear hH hwr hv5 hv6; have KWR := hD (kT K2.out (kT K2E.out KF.out)); have K2F := hD (kT K2E.out KF.out); have KEF := hD (kT KE.out KF.out); obtain ⟨b30, b31, b32, b33, b34, b35, b36, b37, b38⟩ := cells9 (rZ KF.out RMD.out); obtain ⟨b40, b41, b42⟩ := cellsR3 (rZ KF.out RRD.out); go_wp2; go_ret; exact ⟨rfl, KWR.out⟩
theorem one_int {H : Type} {enc : TypeId × Value → H} {W : World} {n : Nat} {cs : List Value} {y : DataW H × List MemPlace} {v : Value} (h : DataW.trod enc Tryz.prog W 0 (fun _ => true) true n 3 cs = some y) (hc : cs = [v]) : ∃ x : Int, v = .int .i64 x := by
 obtain ⟨x, e, _, _⟩ := DataW.trod_int Tryz.underlying3 h; rw [hc] at e; exact ⟨x, by simpa using e⟩
theorem open_msg {H : Type} {enc : TypeId × Value → H} {W : World} {r : Reach} {b0 : Nat} {v : Value} {d : DataW H} {ps : List MemPlace}
  (hval : Value.okWide Tryz.prog W r b0 26 v) (h : DataW.Trod enc Tryz.prog W 0 (fun _ => true) true 26 v d ps) : ∃ m : MM, v = .agg m.cells := by
 obtain ⟨⟨cs⟩, rfl, hsz⟩ := okWide_struct Tryz.underlying26 hval; have h9 : Tryz.prog.cellsOf 26 = 9 := by kernel_rfl
 have h1 : Tryz.prog.cellsOf 3 = 1 := by kernel_rfl
 have h2 : Tryz.prog.cellsOf 24 = 2 := by kernel_rfl
 rw [h9] at hsz; obtain ⟨fuel, hf⟩ := h
 match cs, hsz with
 | [c0, c1, c2, c3, c4, c5, c6, c7, c8], _ =>
  obtain ⟨xs, n, _, _, _, hlen, hfs⟩ := DataW.trod_struct Tryz.underlying26 hf; have g0 := hfs 0 _ rfl; have g1 := hfs 1 _ rfl; have g2 := hfs 2 _ rfl; have g3 := hfs 3 _ rfl; have g4 := hfs 4 _ rfl; have g5 := hfs 5 _ rfl; have g6 := hfs 6 _ rfl; have g7 := hfs 7 _ rfl; have e8 : xs.length = 8 := hlen
  match xs, e8 with
  | [x0, x1, x2, x3, x4, x5, x6, x7], _ =>
   obtain ⟨y0, rfl⟩ := one_int (v := c0) g0 (by simp [Value.cells, h1]); obtain ⟨y1, rfl⟩ := one_int (v := c1) g1 (by simp [Value.cells, h1]); obtain ⟨y2, rfl⟩ := one_int (v := c2) g2 (by simp [Value.cells, h1]); obtain ⟨y5, rfl⟩ := one_int (v := c5) g4 (by simp [Value.cells, h1]); obtain ⟨y6, rfl⟩ := one_int (v := c6) g5 (by simp [Value.cells, h1]); obtain ⟨y7, rfl⟩ := one_int (v := c7) g6 (by simp [Value.cells, h1]); obtain ⟨y8, rfl⟩ := one_int (v := c8) g7 (by simp [Value.cells, h1]); obtain ⟨z3, z4, k, _, _, a0, a1⟩ := trod_struct2 Tryz.underlying24 g3; obtain ⟨y3, rfl⟩ := one_int (v := c3) a0 (by simp [Value.cells, h1, h2]); obtain ⟨y4, rfl⟩ := one_int (v := c4) a1 (by simp [Value.cells, h1, h2]); exact ⟨⟨y0, y1, y2, y3, y4, y5, y6, y7, y8⟩, rfl⟩
open Go.RowKit
theorem partnerTells_walk (node : Int) (v : Value) (list : List FX) (m : MM) (W : World) (_kn : -9223372036854775808 ≤ node ∧ node ≤ 9223372036854775807) (k1 : SlFc v list W) (_k2 : list.length ≤ maxLen)  (hL : laidMetH Tryz.prog Rows.partnerTellsRow.laid W) :
  Calls Tryz.prog 3 #[.int .i64 node, v, .agg m.cells] W fun e w' => e = .returned (.bool true) ∧ Below W.heap.size W w' := by
 obtain ⟨⟨ads, V⟩, T⟩ := st_tab_of (l := Rows.partnerTellsRow.laid) (by kernel_rfl) (by kernel_rfl) (by kernel_rfl) hL; have C := facC_of ads W V T; have E : EP [0, 3, 4, 8, 13] ads W := ep_of_st V (by decide); have Q := parC_of ads W V T; exact tells16_any V C E Q node v list k1 m.k m.f m.t m.n m.s m.r m.p m.o m.c
open Go.ChangeShapes Go.WideShapes Go.ChangeAt Go.WideMaps Go.WideElems Go.RowKit
theorem partnerTells_lifted (os : Os) (started : os.Started) (H : Type) (enc : TypeId × Value → H) :
  ReturnsInHanded {} Tryz.checked os 3 .any (fun w args => (Rows.partnerTellsSpec.pre enc Tryz.prog Tryz.f3 [] false w args ∧ laidMetH Tryz.prog Rows.partnerTellsRow.laid w) ∧ sizedMet enc Tryz.prog Tryz.f3 (OpenSpec.ofChange Rows.partnerTellsSpec) false w args)
   (Rows.partnerTellsSpec.post enc Tryz.prog Tryz.f3 false true false false) := by
 refine returnsInHanded_of_change_and (C := Tryz.checked) (X := fun w _ => laidMetH Tryz.prog Rows.partnerTellsRow.laid w) (fun _ _ _ hh h => h.of_heap hh) own started (by kernel_rfl) Tryz.func3
  (ChangeSpec.witness_shaped (enc := enc) (C := Tryz.checked) (os := os) (X := fun w _ => laidMetH Tryz.prog Rows.partnerTellsRow.laid w) false (World.laidAll Tryz.prog os Rows.partnerTellsRow.laid) #[.int .i64 0, .slice none 0 0, .agg #[(0:Int), (0:Int), (0:Int), (0:Int), (0:Int), (0:Int), (0:Int), (0:Int), (0:Int)]] 8 (World.laidAll_os _ _ _) (World.shaped_of_ZipB (by kernel_rfl) (by kernel_rfl)) (by kernel_rfl) (by kernel_rfl) (by kernel_rfl) (by rw [MakeChecks.laidMetH_plain _ _ _ (by kernel_rfl)]; exact laidMet_laidAll _ (by kernel_rfl) (by kernel_rfl))) ?_
 intro W base args ds gs before hval0 hW _ hsz hL _; have hval : ∀ (j : Nat) t v, Tryz.f3.params[j]? = some t → args[j]? = some v → Value.okWide Tryz.prog W .any base t v := hval0; have hW' := hW; obtain ⟨p, q, hA0, hV, rfl, hfz, hnd⟩ := hW; have hA : DataW.TrodAll enc Tryz.prog W 0 (fun _ => true) true Tryz.f3.params.toList args.toList ds p := hA0; rw [Tryz.params3] at hA hval; obtain ⟨v0, vs0, d0, ds0, p0, q0, e0, rfl, rfl, h0, r0⟩ := trodAll_cons hA; obtain ⟨v1, vs1, d1, ds1, p1, q1, e1, rfl, rfl, h1, r1⟩ := trodAll_cons r0; obtain ⟨v2, vs2, d2, ds2, p2, q2, e2, rfl, rfl, h2, r2⟩ := trodAll_cons r1; obtain ⟨rfl, rfl, rfl⟩ := trodAll_nil r2; obtain rfl : args = #[v0, v1, v2] := by cases args; simp_all
 obtain ⟨rfl, rfl⟩ := trodVars_none hV; obtain ⟨node, rfl, rfl, rfl, hnode⟩ := open_int Tryz.underlying3 (hval 0 3 v0 rfl rfl) h0; obtain ⟨list, klista, klistb⟩ := open_fcts (hval 1 22 v1 rfl rfl) h1; obtain ⟨m, rfl⟩ := open_msg (hval 2 26 v2 rfl rfl) h2; clear hA0 hval0; have knode : -9223372036854775808 ≤ node ∧ node ≤ 9223372036854775807 := by simpa [Lit.wf, IntKind.min, IntKind.max, IntKind.bits, IntKind.signed] using hnode
 refine (partnerTells_walk node v1 list m W knode klista klistb  hL).mono fun e W' ⟨he, hw⟩ => ?_
 subst he; exact ⟨_, rfl, law_post laidOut hW' rfl rfl rfl Tryz.underlying4 (par_ok (by kernel_rfl)) hw⟩
theorem partnerTells_said : Rows.PartnerTellsSaid :=
 OpenClaim.holds_of_wide 3 Tryz.f3 rfl rfl rfl rfl rfl rfl rfl ⟨rfl, rfl, rfl, rfl, rfl⟩ rfl rfl rfl rfl rfl (by kernel_rfl) Tryz.func3 (by kernel_rfl)
  (of_decide_eq_true (by kernel_rfl)) (by unfold Func.isWrapper; first | (rw [if_pos (by decide +kernel)]; kernel_rfl) | (rw [if_neg (by decide +kernel)]; exact ⟨rfl, rfl⟩))
  (fun os started H enc _ => partnerTells_lifted os started H enc)
theorem partnerTells_holds : Rows.PartnerTellsCardSaid :=
 Claim7.holds_tied_plain_at .later [] _ _ _ _ partnerTells_said (fun _ h => by cases h) (by kernel_rfl) (fun _ h => by cases h) partnerTells_row_tie rfl ⟨rfl, rfl⟩ (by kernel_rfl) rfl
  (fun f fn hf hfn => by
   obtain rfl : f = 3 := Option.some.inj ((show Tryz.prog.funcNamed "liaison/liaisonlaw16.PartnerTells" = some 3 by kernel_rfl).symm.trans hf) |>.symm
   obtain rfl : fn = Tryz.f3 := (Option.some.inj (Tryz.func3.symm.trans hfn)).symm; exact ⟨by kernel_rfl, stand_ok (P := Tryz.prog) (by kernel_rfl)⟩)
  (by kernel_rfl)
end Go.Proofs.YtncoofnhifcnhaaGreatDoor
