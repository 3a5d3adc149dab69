/-
 PartnerJoins: for every node, every list of facts, every context, protocol and time, a participant joins as the document says, and the facts of it fit. Condition: package api's errors and strconv's table of powers hold what their declarations lay.
-/
import Derived.Test.YtncoofnhifcnhaaGreatDoorZa40
import Derived.Test.YtncoofnhifcnhaaGreatDoorCards
import Derived.Test.YtncoofnhifcnhaaGreatDoorTie
import Derived.Lay
set_option maxRecDepth 100000
set_option maxHeartbeats 40000000
namespace Go.Proofs.YtncoofnhifcnhaaGreatDoor
open Go.RowKit Go.ChangeShapes Go.WideShapes
variable {w0 w w' W w3 : World} {B q : Nat} {m : StM} {ads : List Addr}
theorem join_two (m : StM) (c : CX) (p : Int) (now : Nat) : (joinP m c p now).2.facts.length ≤ 1 ∧ (joinP m c p now).2.send.length ≤ 1 ∧ 0 ≤ (joinP m c p now).1 ∧ (joinP m c p now).1 ≤ 14 := by
 unfold joinP
 repeat' split
 all_goals exact ⟨by simp [rs0], by simp [rs0], by dsimp only; omega, by dsimp only; omega⟩
theorem joins16_any (V : St ads w) (C : FacC ads w) (E : EP [0, 3, 4, 8, 13] ads w) (P : ParC ads w) (nd : Int) (v : Value) (lst : List FX) (hs : SlFc v lst w) (cn cs co cd p : Int) (cx now : Nat) (hcx : cx < 18446744073709551616) (hnow : now < 18446744073709551616) (ip : i64M p) : Calls Tryz.prog 5 #[.int .i64 nd, v, .agg #[cn, cs, co, cd, cx, p, now]] w fun r w' => r = .returned (.bool true) ∧ Kp w w' := by
 obtain ⟨a, cap, rfl, _⟩ := id hs; obtain ⟨n, hn⟩ : ∃ n, lst.length = n := ⟨_, rfl⟩
 rw [hn] at hs ⊢; have kb := kA w (.cells #[cn, cs, co, cd, cx, p, now] 62); have HAL := hD (alive16_any (C.kp kb) (E.kp kb) (P.kp kb)); have KB := hD kb
 by_cases hin : inN nd ∧ n ≤ 60
 rotate_left
 ·have HBN := hD (fun w1 (hk : Kp w w1) => built_no (E.kp hk) nd a n cap (by by_cases h : inN nd; exact .inr (Nat.lt_of_not_le (fun e => hin ⟨h, e⟩)); exact .inl h)); have hsf := sF; clear V C E P hs hn hin kb ip hcx hnow; go_enter Tryz.func5, Tryz.ntmps5; go_wp2_with (first | (go_at_call 8; (with_reducible refine HAL.out.mono ?_); rintro e' w1 ⟨rfl, hk1⟩; have K1 := hD (kT KB.out hk1); clear hk1) | (go_at_call 9; (with_reducible refine (HBN.out _ K1.out).mono ?_); rintro e' w2 ⟨rfl, hk2⟩; have K2 := hD (kT K1.out hk2); clear hk2))
  go_ret; exact ⟨rfl, K2.out⟩
 obtain ⟨hin, h60⟩ := hin; have HBU := hD (fun w1 (hk : Kp w w1) => by have := built_any (C.kp hk) (E.kp hk) nd _ lst hin (by omega) (by rw [← hn] at hs; exact hs.kp hk); rw [hn] at this; exact this); have HOK := hD (bld_ok lst (newSt_ok hin)); obtain ⟨m, hm⟩ : ∃ m, bldM (newSt nd) lst = m := ⟨_, rfl⟩
 have hnd : m.node = nd := by rw [← hm]; exact bld_node lst (newSt nd)
 rw [hm] at HBU HOK; obtain ⟨HV, HC, HE, HP⟩ := hD4 V C E P; have hsf := sF; have RBX0 := hD (mH w (.cells #[cn, cs, co, cd, cx, p, now] 62)); obtain ⟨m2, hrun⟩ := join_fit (m := m) ⟨cn, cs, co, cd, cx⟩ p now; obtain ⟨hl1, hl2, he1, he2⟩ := join_two m ⟨cn, cs, co, cd, cx⟩ p now; have hdo := fun w1 (hk : Kp w w1) B q (h : SL B q m w1) => P.join w1 hk B q m h HOK.out ⟨cn, cs, co, cd, cx⟩ p now hcx hnow ip
 have hrd := fun w1 B q (h : SD B q m w1) => rJoin h cn cs co cd cx hcx p now hnow
 have hnum := fun w1 (hk : Kp w w1) => num_errN ads w1 (V.below hk) (joinP m ⟨cn, cs, co, cd, cx⟩ p now).1 he1 he2
 obtain ⟨⟨er, ⟨FS, MS, wk⟩⟩, hY⟩ : ∃ y, joinP m ⟨cn, cs, co, cd, cx⟩ p now = y := ⟨_, rfl⟩
 rw [hY] at hdo hrd hrun hl1 hl2 hnum; dsimp only [CX.cells] at hdo hrd hrun hl1 hl2 hnum; obtain ⟨lf, hlf⟩ : ∃ n, FS.length = n := ⟨_, rfl⟩
 obtain ⟨lm, hlm⟩ : ∃ n, MS.length = n := ⟨_, rfl⟩
 obtain ⟨ev, hev⟩ : ∃ x, errI ads er = x := ⟨_, rfl⟩
 rw [hev] at hdo hnum; obtain ⟨HLF, HLM, HL1, HL2⟩ := hD4 hlf hlm hl1 hl2; have HWF := hD (facts_wf16 hrun); have HNUM := hD hnum; have HDO := hD (fun w1 (hk : Kp w w1) B q (h : SL B q m w1) => (hdo w1 hk B q h).mono (R' := fun r w' => ∃ fa fc ma mc, r = .returned (.tuple #[.agg #[.slice fa lf fc, .slice ma lm mc, wk], ev]) ∧ w'.ownsRow w1.heap.size 73 14 (.slice fa lf fc) lf (fcE.row FS) ∧ w'.ownsRow w1.heap.size 26 9 (.slice ma lm mc) lm (mmE.row MS) ∧ Kp w1 w') (by
  rintro e w2 ⟨v, rfl, h, hk⟩; obtain ⟨fa, fc, ma, mc, rfl, h1, h2⟩ := RsV.form (r := ⟨FS, MS, wk⟩) h hlf hlm; exact ⟨fa, fc, ma, mc, rfl, h1, h2, hk⟩))
 have HRD := hD (fun w1 B q (h : SD B q m w1) => (hrd w1 B q h).mono (R' := fun r w' => ∃ fa fc ma mc, r = .returned (.tuple #[.agg #[.slice fa lf fc, .slice ma lm mc, wk], .int .i64 er]) ∧ w'.ownsRow w1.heap.size 82 14 (.slice fa lf fc) lf (fcE.row FS) ∧ w'.ownsRow w1.heap.size 26 9 (.slice ma lm mc) lm (mmE.row MS) ∧ Kp w1 w') (by
  rintro e w2 ⟨v, rfl, h, hk⟩; obtain ⟨fa, fc, ma, mc, rfl, h1, h2⟩ := RsV.form (r := ⟨FS, MS, wk⟩) h hlf hlm; exact ⟨fa, fc, ma, mc, rfl, h1, h2, hk⟩))
 have HFI := hD (fun w1 w2 wf (h1 : Kp w w1) (h2 : Kp w2 wf) (h12 : Kp w1 w2) {q : Nat} (h : SL w1.heap.size q m w2) a c (B1 : Nat) (ho : wf.ownsRow B1 73 14 (.slice a lf c) lf (fcE.row FS)) => fit_any (w := wf) (B := w1.heap.size) ⟨w1, kT h12 h2, Nat.le_refl _, HC.out.kp h1, HE.out.kp h1⟩ (h.kp h2) HOK.out FS a lf c hlf (by omega) ho HWF.out m2 hrun); clear V C E P hs hn hin h60 kb hm hnd ip hcx hnow hrun hl1 hl2 he1 he2 hdo hrd hnum hY hlf hlm hev; go_enter Tryz.func5, Tryz.ntmps5; go_wp2_with (first | (go_at_call 8; (with_reducible refine HAL.out.mono ?_); rintro e' w1 ⟨rfl, hk1⟩; have HK0 := hD hk1; have K1 := hD (kT KB.out hk1); clear hk1) | (go_at_call 9; (with_reducible refine (HBU.out _ K1.out).mono ?_); rintro e' w2 ⟨q, q', rfl, hsl, hsd, hk2⟩; obtain ⟨S2, D2, K12⟩ := hD3 hsl hsd hk2; have K2 := hD (kT K1.out hk2); have RBX := hD (rZ (kT HK0.out hk2) RBX0.out); obtain ⟨j20, j21, j22, j23, j24, j25, j26⟩ := c7X RBX.out; clear hsl hsd hk2) | (go_at_call 22; (with_reducible refine (HDO.out _ K2.out _ _ S2.out).mono ?_); rintro e' w3 ⟨fa, fc, ma, mc, rfl, hof, hom, hk3⟩; have kz := kT hk3 (kA w3 (.cells #[.slice fa lf fc, .slice ma lm mc, wk] 34)); have K23 := hD kz; have OF := hD (oK hof (kA w3 (.cells #[.slice fa lf fc, .slice ma lm mc, wk] 34))); have OM := hD (oK hom (kA w3 (.cells #[.slice fa lf fc, .slice ma lm mc, wk] 34))); have R12 := hD (mH w3 (.cells #[.slice fa lf fc, .slice ma lm mc, wk] 34)); obtain ⟨j30, j31, j32, j33, j34, j35, j36⟩ := c7X (rZ kz RBX.out); clear hof hom hk3 kz) | (go_at_call 23; (with_reducible refine (HRD.out _ _ _ (D2.out.kp K23.out)).mono ?_); rintro e' w4 ⟨fb, fd, mb, md, rfl, hof, hom, hk4⟩; have kz := kT hk4 (kA w4 (.cells #[.slice fb lf fd, .slice mb lm md, wk] 39)); have K24 := hD (kT K23.out kz); have OF4 := hD (oK OF.out kz); have OM4 := hD (oK OM.out kz); have OFD := hD (oK hof (kA w4 (.cells #[.slice fb lf fd, .slice mb lm md, wk] 39))); have OMD := hD (oK hom (kA w4 (.cells #[.slice fb lf fd, .slice mb lm md, wk] 39))); have R412 := hD (rZ kz R12.out); have R414 := hD (mH w4 (.cells #[.slice fb lf fd, .slice mb lm md, wk] 39)); clear hof hom hk4 kz))
 obtain ⟨WE, hWE⟩ : ∃ x, (w4.alloc (.cells #[.slice fb lf fd, .slice mb lm md, wk] 39)).drew = x := ⟨_, rfl⟩
 have kE : Kp (w4.alloc (.cells #[.slice fb lf fd, .slice mb lm md, wk] 39)) WE := by rw [← hWE]; exact dQ (Kp.refl _)
 obtain ⟨HWE, KE⟩ := hD2 hWE kE; have K2E := hD (kT K24.out kE); have kDD := Kp.refl WE; have R4D12 := hD (rZ kE R412.out); have R4D14 := hD (rZ kE R414.out); have HTO := hD (fun W (hk : Kp WE W) => told_any (B1 := 0) FS MS wk (.agg #[.slice fa lf fc, .slice ma lm mc, wk]) (w := W) (RsV.of HLF.out HLM.out (bG (oK OF4.out (kT KE.out hk)) (Nat.zero_le _)) (bG (oK OM4.out (kT KE.out hk)) (Nat.zero_le _))) (by have := HLF.out; have := HL1.out; omega)); have HSA := hD (fun W v5 (hk : Kp WE W) (hv : RsV 82 0 ⟨FS, MS, wk⟩ v5 W) => rSame_any FS MS wk v5 (.agg #[.slice fb lf fd, .slice mb lm md, wk]) hv (RsV.of HLF.out HLM.out (bG (oK OFD.out (kT KE.out hk)) (Nat.zero_le _)) (bG (oK OMD.out (kT KE.out hk)) (Nat.zero_le _))) HWF.out (by have := HLF.out; have := HL1.out; omega) (by have := HLM.out; have := HL2.out; omega)); have HNU := hD (fun W (hk : Kp WE W) => HNUM.out W (kT K2.out (kT K2E.out hk)))
 clear hWE kE; refine rgW (fun w' => w'.heap[w3.heap.size]? = some (.cells #[.slice fa lf fc, .slice ma lm mc, wk] 34) ∧ w'.heap[w4.heap.size]? = some (.cells #[.slice fb lf fd, .slice mb lm md, wk] 39) ∧ Kp w w') ?_ fun hH => ?_
 ·exact by rw [HWE.out]; exact ⟨R4D12.out, R4D14.out, kT K2.out K2E.out⟩
 rw [HWE.out] at hH ⊢; refine tkP 0 ?_ (y := by intro w hZ; obtain ⟨y0, y1, y2⟩ := cellsR3 hZ.1; go_simp; try rfl)
 go_simp; refine tkP 2 ?_ (y := by intro w hZ; obtain ⟨y0, y1, y2⟩ := cellsR3 hZ.2.1; go_simp; try rfl)
 go_simp; refine rdW 1 fun K hK => ?_
 go_simp; go_wp2_with (go_at_call 12; (with_reducible refine (HTO.out _ kDD).mono ?_); rintro e' W5 ⟨v5, rfl, hv5, hk5⟩)
 refine hK.out _ _ (⟨rZ hk5 hH.1, rZ hk5 hH.2.1, kT hH.2.2 hk5⟩) fun hH => ?_
 clear hK K; have kc1 := kT kDD hk5; refine rdW 3 fun K hK => ?_
 go_simp; go_wp2_with (go_at_call 11; (with_reducible refine (HSA.out _ v5 kc1 hv5).mono ?_); rintro e' W6 ⟨rfl, hk6⟩)
 refine hK.out _ _ (⟨rZ hk6 hH.1, rZ hk6 hH.2.1, kT hH.2.2 hk6⟩) fun hH => ?_
 clear hK K; have kc3 := kT kc1 hk6; refine tkP 4 ?_
 go_simp; refine tkP 5 ?_
 go_simp; refine tkP 7 ?_
 go_simp; refine rdW 6 fun K hK => ?_
 go_simp; go_wp2_with (go_at_call 19; (with_reducible refine (HNU.out _ kc3).mono ?_); rintro e' W7 ⟨rfl, hk7⟩)
 refine hK.out _ _ (⟨rZ hk7 hH.1, rZ hk7 hH.2.1, kT hH.2.2 hk7⟩) fun hH => ?_
 clear hK K; have kc6 := kT kc3 hk7; refine tkP 8 ?_
 go_simp; refine tkP 9 ?_
 go_simp; refine tkP 10 ?_
 go_simp; refine tkP 11 ?_
 go_simp; refine tkP 12 ?_
 go_simp; refine tkP 13 ?_ (y := by intro w hZ; obtain ⟨y0, y1, y2⟩ := cellsR3 hZ.1; go_simp; try rfl)
 go_simp; refine rdW 14 fun K hK => ?_
 go_simp; go_wp2_with (go_at_call 16; (with_reducible refine (HFI.out _ _ _ K1.out (kT K2E.out kc6) K12.out S2.out _ _ _ (oK OF4.out (kT KE.out kc6))).mono ?_); rintro e' W8 ⟨rfl, _, _, hfr⟩)
 refine hK.out _ _ (⟨hfr.2.1 _ _ _ ⟨by decide, by decide, by decide, by decide⟩ hH.1, hfr.2.1 _ _ _ ⟨by decide, by decide, by decide, by decide⟩ hH.2.1, hfr.2.2 w hH.2.2 (kS K1.out)⟩) fun hH => ?_
 clear hK K; refine tkP 15 ?_
 go_simp; refine tkP 16 ?_
 go_simp; refine dnW ?_ _
 have KF := hD hH.2.2; clear hH
 try go_wp2
 go_ret; exact ⟨rfl, KF.out⟩
theorem open_joins {H : Type} {enc : TypeId × Value → H} {W : World} {r : Reach} {b0 : Nat} {v : Value} {d : DataW H} {ps : List MemPlace}
  (hval : Value.okWide Tryz.prog W r b0 62 v) (h : DataW.Trod enc Tryz.prog W 0 (fun _ => true) true 62 v d ps) : ∃ (n s o d p : Int) (x t : Nat), v = .agg #[n, s, o, d, x, p, t] ∧ x < 18446744073709551616 ∧ t < 18446744073709551616 ∧ -9223372036854775808 ≤ p ∧ p ≤ 9223372036854775807 := by
 obtain ⟨⟨cs⟩, rfl, hsz⟩ := okWide_struct Tryz.underlying62 hval; have h7 : Tryz.prog.cellsOf 62 = 7 := by kernel_rfl
 have h5 : Tryz.prog.cellsOf 60 = 5 := by kernel_rfl
 have h1 : Tryz.prog.cellsOf 3 = 1 := by kernel_rfl
 have hf1 : Tryz.prog.cellsOf 58 = 1 := by kernel_rfl
 have h2 : Tryz.prog.cellsOf 24 = 2 := by kernel_rfl
 rw [h7] at hsz; obtain ⟨fuel, hf⟩ := h
 match cs, hsz with
 | [c0, c1, c2, c3, c4, c5, c6], _ =>
  obtain ⟨xs, n, _, _, _, hlen, hfs⟩ := DataW.trod_struct Tryz.underlying62 hf; have g0 := hfs 0 _ rfl; have g1 := hfs 1 _ rfl; have g2 := hfs 2 _ rfl; have e3 : xs.length = 3 := hlen
  match xs, e3 with
  | [x0, x1, x2], _ =>
   obtain ⟨y5, e5, _, w5⟩ := DataW.trod_int Tryz.underlying3 g1; have e5 : [c5] = [.int .i64 y5] := by simpa [Value.cells, h1, h5] using e5
   obtain rfl : c5 = .int .i64 y5 := by simpa using e5
   obtain ⟨y6, rfl, w6⟩ := one_float9 (v := c6) g2 (by simp [Value.cells, hf1]); obtain ⟨xs', n', _, _, _, hlen', hfs'⟩ := DataW.trod_struct Tryz.underlying60 g0; have g0' := hfs' 0 _ rfl; have g1' := hfs' 1 _ rfl; have g2' := hfs' 2 _ rfl; have g3' := hfs' 3 _ rfl; have e4 : xs'.length = 4 := hlen'
   match xs', e4 with
   | [z0, z1, z2, z3], _ =>
    obtain ⟨y2, rfl⟩ := one_int9 (v := c2) g1' (by simp [Value.cells, h1, h5]); obtain ⟨y3, rfl⟩ := one_int9 (v := c3) g2' (by simp [Value.cells, h1, h5]); obtain ⟨y4, rfl, w4⟩ := one_float9 (v := c4) g3' (by simp [Value.cells, hf1, h5]); obtain ⟨u3, u4, k, _, _, a0, a1⟩ := trod_struct2 Tryz.underlying24 g0'; obtain ⟨y0, rfl⟩ := one_int9 (v := c0) a0 (by simp [Value.cells, h1, h2, h5]); obtain ⟨y1, rfl⟩ := one_int9 (v := c1) a1 (by simp [Value.cells, h1, h2, h5]); have kp : -9223372036854775808 ≤ y5 ∧ y5 ≤ 9223372036854775807 := by simpa [Lit.wf, IntKind.min, IntKind.max, IntKind.bits, IntKind.signed] using w5
    exact ⟨y0, y1, y2, y3, y5, y4, y6, rfl, w4, w6, kp.1, kp.2⟩
open Go.RowKit
theorem partnerJoins_walk (node : Int) (v : Value) (list : List FX) (n s o d p : Int) (x t : Nat) (W : World) (_kn : -9223372036854775808 ≤ node ∧ node ≤ 9223372036854775807) (k1 : SlFc v list W) (_k2 : list.length ≤ maxLen) (kx : x < 18446744073709551616) (kt : t < 18446744073709551616) (kp : -9223372036854775808 ≤ p ∧ p ≤ 9223372036854775807) (hL : laidMetH Tryz.prog Rows.partnerJoinsRow.laid W) :
  Calls Tryz.prog 5 #[.int .i64 node, v, .agg #[n, s, o, d, x, p, t]] W fun e w' => e = .returned (.bool true) ∧ Below W.heap.size W w' := by
 obtain ⟨⟨ads, V⟩, T⟩ := st_tab_of (l := Rows.partnerJoinsRow.laid) (by kernel_rfl) (by kernel_rfl) (by kernel_rfl) hL; have C := facC_of ads W V T; have E : EP [0, 3, 4, 8, 13] ads W := ep_of_st V (by decide); have Q := parC_of ads W V T; exact joins16_any V C E Q node v list k1 n s o d p x t kx kt kp
open Go.ChangeShapes Go.WideShapes Go.ChangeAt Go.WideMaps Go.WideElems Go.RowKit
theorem partnerJoins_lifted (os : Os) (started : os.Started) (H : Type) (enc : TypeId × Value → H) :
  ReturnsInHanded {} Tryz.checked os 5 .any (fun w args => (Rows.partnerJoinsSpec.pre enc Tryz.prog Tryz.f5 [] false w args ∧ laidMetH Tryz.prog Rows.partnerJoinsRow.laid w) ∧ sizedMet enc Tryz.prog Tryz.f5 (OpenSpec.ofChange Rows.partnerJoinsSpec) false w args)
   (Rows.partnerJoinsSpec.post enc Tryz.prog Tryz.f5 false true false false) := by
 refine returnsInHanded_of_change_and (C := Tryz.checked) (X := fun w _ => laidMetH Tryz.prog Rows.partnerJoinsRow.laid w) (fun _ _ _ hh h => h.of_heap hh) own started (by kernel_rfl) Tryz.func5
  (ChangeSpec.witness_shaped (enc := enc) (C := Tryz.checked) (os := os) (X := fun w _ => laidMetH Tryz.prog Rows.partnerJoinsRow.laid w) false (World.laidAll Tryz.prog os Rows.partnerJoinsRow.laid) #[.int .i64 0, .slice none 0 0, .agg #[(0:Int), (0:Int), (0:Int), (0:Int), .float .f64 0, (0:Int), .float .f64 0]] 8 (World.laidAll_os _ _ _) (World.shaped_of_ZipB (by kernel_rfl) (by kernel_rfl)) (by kernel_rfl) (by kernel_rfl) (by kernel_rfl) (by rw [MakeChecks.laidMetH_plain _ _ _ (by kernel_rfl)]; exact laidMet_laidAll _ (by kernel_rfl) (by kernel_rfl))) ?_
 intro W base args ds gs before hval0 hW _ hsz hL _; have hval : ∀ (j : Nat) t v, Tryz.f5.params[j]? = some t → args[j]? = some v → Value.okWide Tryz.prog W .any base t v := hval0; have hW' := hW; obtain ⟨p, q, hA0, hV, rfl, hfz, hnd⟩ := hW; have hA : DataW.TrodAll enc Tryz.prog W 0 (fun _ => true) true Tryz.f5.params.toList args.toList ds p := hA0; rw [Tryz.params5] at hA hval; obtain ⟨v0, vs0, d0, ds0, p0, q0, e0, rfl, rfl, h0, r0⟩ := trodAll_cons hA; obtain ⟨v1, vs1, d1, ds1, p1, q1, e1, rfl, rfl, h1, r1⟩ := trodAll_cons r0; obtain ⟨v2, vs2, d2, ds2, p2, q2, e2, rfl, rfl, h2, r2⟩ := trodAll_cons r1; obtain ⟨rfl, rfl, rfl⟩ := trodAll_nil r2; obtain rfl : args = #[v0, v1, v2] := by cases args; simp_all
 obtain ⟨rfl, rfl⟩ := trodVars_none hV; obtain ⟨node, rfl, rfl, rfl, hnode⟩ := open_int Tryz.underlying3 (hval 0 3 v0 rfl rfl) h0; obtain ⟨list, klista, klistb⟩ := open_fcts (hval 1 22 v1 rfl rfl) h1; obtain ⟨j0, j1, j2, j3, j4, j5, j6, rfl, kj0, kj1, kj2⟩ := open_joins (hval 2 62 v2 rfl rfl) h2; clear hA0 hval0; have knode : -9223372036854775808 ≤ node ∧ node ≤ 9223372036854775807 := by simpa [Lit.wf, IntKind.min, IntKind.max, IntKind.bits, IntKind.signed] using hnode
 refine (partnerJoins_walk node v1 list j0 j1 j2 j3 j4 j5 j6 W knode klista klistb kj0 kj1 kj2 hL).mono fun e W' ⟨he, hw⟩ => ?_
 subst he; exact ⟨_, rfl, law_post laidOut hW' rfl rfl rfl Tryz.underlying4 (par_ok (by kernel_rfl)) hw⟩
theorem partnerJoins_said : Rows.PartnerJoinsSaid :=
 OpenClaim.holds_of_wide 5 Tryz.f5 rfl rfl rfl rfl rfl rfl rfl ⟨rfl, rfl, rfl, rfl, rfl⟩ rfl rfl rfl rfl rfl (by kernel_rfl) Tryz.func5 (by kernel_rfl)
  (of_decide_eq_true (by kernel_rfl)) (by unfold Func.isWrapper; first | (rw [if_pos (by decide +kernel)]; kernel_rfl) | (rw [if_neg (by decide +kernel)]; exact ⟨rfl, rfl⟩))
  (fun os started H enc _ => partnerJoins_lifted os started H enc)
theorem partnerJoins_holds : Rows.PartnerJoinsCardSaid :=
 Claim7.holds_tied_plain_at .later [] _ _ _ _ partnerJoins_said (fun _ h => by cases h) (by kernel_rfl) (fun _ h => by cases h) partnerJoins_row_tie rfl ⟨rfl, rfl⟩ (by kernel_rfl) rfl
  (fun f fn hf hfn => by
   obtain rfl : f = 5 := Option.some.inj ((show Tryz.prog.funcNamed "liaison/liaisonlaw16.PartnerJoins" = some 5 by kernel_rfl).symm.trans hf) |>.symm
   obtain rfl : fn = Tryz.f5 := (Option.some.inj (Tryz.func5.symm.trans hfn)).symm; exact ⟨by kernel_rfl, stand_ok (P := Tryz.prog) (by kernel_rfl)⟩)
  (by kernel_rfl)
end Go.Proofs.YtncoofnhifcnhaaGreatDoor
