/-
 LeadAnswers: for every node, every list of facts, every message and every time, all that a coordinator sends is right, to the registration's participant, or back to who asked; and nobody is registered where registrations aren't taken. Condition: package api's errors and strconv's table of powers hold what their declarations lay.
-/
import Derived.Test.YtlmlmhmhgdjhnaaGreatDoorZa39
import Derived.Test.YtlmlmhmhgdjhnaaGreatDoorZa40
import Derived.Test.YtlmlmhmhgdjhnaaGreatDoorCards
import Derived.Test.YtlmlmhmhgdjhnaaGreatDoorTie
import Derived.Lay
set_option maxRecDepth 100000
set_option maxHeartbeats 40000000
namespace Go.Proofs.YtlmlmhmhgdjhnaaGreatDoor
open Go.RowKit Go.ChangeShapes Go.WideShapes
variable {w0 w w' W w3 : World} {B q : Nat} {m : StM} {ads : List Addr}
theorem act_neq17 (n s : Int) (w : World) : (binOp .neq 25 (.agg #[n, s]) (.agg #[n, s])).run Tryz.prog w = .ok (.bool false) w := by
 have ha : Tryz.prog.stoodInHeld 25 = false := by kernel_rfl
 rw [run_neq_struct, show (10000 : Nat) = 9999 + 1 from rfl, run_equalIn_agg w 9999 25 _ _ act_fields9 ha]
 simp [Program.fieldsOf, Tryz.underlying25, Op.eqFields, part, go_sem]
theorem seqS_pw : ∀ (l : List AcM) (nx : Int), seqS nx l → l.Pairwise (fun x y => x.c.s < y.c.s)
 | [], _, _ => List.Pairwise.nil
 | _ :: l, _, h => List.Pairwise.cons (fun y hy => by have := seqS_ge l _ h.2 y hy; omega) (seqS_pw l _ h.2)
theorem act_self {m : StM} (ok : OkS m) {j : Nat} {a : AcM} (h : m.acts[j]? = some a) : actE m a.c.n a.c.s = some a := by
 obtain ⟨hj, hx⟩ := List.getElem?_eq_some_iff.1 h; have hf : findS m.acts a.c.n a.c.s = some j := by
  unfold findS; rw [List.findIdx?_eq_some_iff_getElem]; refine ⟨hj, by rw [hx]; exact dT ⟨rfl, rfl⟩, fun i hi => ?_⟩
  have := List.pairwise_iff_getElem.1 (seqS_pw _ _ ok.seq) i j (by omega) hj hi; rw [hx] at this; simp only [decide_eq_true_eq]
  omega
 unfold actE; rw [hf]; exact h
theorem SL.actsW (h : SL B q m w) (ok : OkS m) (nA : Nat) (hnA : m.acts.length = nA) : Calls Tryz.prog 31 #[.pointer (some ⟨q, 0, none⟩)] w fun r w' => ∃ (a1 : Option Addr) (c1 : Nat) (ga : List AcG), r = .returned (.slice a1 nA c1) ∧ ga.length = nA ∧ ga.map AcG.a = m.acts ∧ w'.ownsRow w.heap.size 92 8 (.slice a1 nA c1) nA (acE.row ga) ∧ (∀ g ∈ ga, w'.ownsRow w.heap.size 96 6 g.v g.a.regs.length (rgE.row g.a.regs)) ∧ Kp w w' := by
 obtain ⟨gs, va, vp, H⟩ := h; exact same_acts H ok nA hnA
theorem answers17_any (V : St ads w) (TT : Tab w) (C : FacC ads w) (E : EP [0, 3, 4, 8, 13] ads w) (P : LeaC ads w) (nd : Int) (v : Value) (lst : List FX) (hs : SlFc v lst w) (mk mf mt mn ms mr mp mo mc : Int) (now : Nat) (hnow : now < 18446744073709551616) : Calls Tryz.prog 6 #[.int .i64 nd, v, .agg #[mk, mf, mt, mn, ms, mr, mp, mo, mc, now]] w fun r w' => r = .returned (.bool true) ∧ Kp w w' := by
 obtain ⟨a, cap, rfl, _⟩ := id hs; obtain ⟨n, hn⟩ : ∃ n, lst.length = n := ⟨_, rfl⟩
 rw [hn] at hs ⊢; have kb := kA w (.cells #[mk, mf, mt, mn, ms, mr, mp, mo, mc, now] 82); have HAL := hD (alive17_any (C.kp kb) (E.kp kb) (P.kp kb)); have KB := hD kb; have RBX0 := hD (mH w (.cells #[mk, mf, mt, mn, ms, mr, mp, mo, mc, now] 82)); have hsf := sF
 by_cases hin : inN nd ∧ n ≤ 60
 rotate_left
 ·have HBN := hD (fun w1 (hk : Kp w w1) => built_no (E.kp hk) nd a n cap (by by_cases h : inN nd; exact .inr (Nat.lt_of_not_le (fun e => hin ⟨h, e⟩)); exact .inl h)); clear V C E P hs hn hin kb hnow TT; go_enter Tryz.func6, Tryz.ntmps6; go_wp2_with (first | (go_at_call 7; (with_reducible refine HAL.out.mono ?_); rintro e' w1 ⟨rfl, hk1⟩; have HK0 := hD hk1; have K1 := hD (kT KB.out hk1); clear hk1) | (go_at_call 8; (with_reducible refine (HBN.out _ K1.out).mono ?_); rintro e' w2 ⟨rfl, hk2⟩; have K2 := hD (kT K1.out hk2); have RBX := hD (rZ (kT HK0.out hk2) RBX0.out); obtain ⟨b20, b21, b22, b23, b24, b25, b26, b27, b28, b29⟩ := cells10 RBX.out; have RM := hD (mH w2 (.cells #[mk, mf, mt, mn, ms, mr, mp, mo, mc] 63)); obtain ⟨m0, m1, m2, m3, m4, m5, m6, m7, m8⟩ := cells9 RM.out; have KM2 := hD (kA w2 (.cells #[mk, mf, mt, mn, ms, mr, mp, mo, mc] 63)); have KM := hD (kT K2.out (kA w2 (.cells #[mk, mf, mt, mn, ms, mr, mp, mo, mc] 63))); have RBM := hD (rZ (kA w2 (.cells #[mk, mf, mt, mn, ms, mr, mp, mo, mc] 63)) RBX.out); obtain ⟨h0, h1, h2, h3, h4, h5, h6, h7, h8, h9⟩ := cells10 RBM.out;  clear hk2))
  go_ret; exact ⟨rfl, KM.out⟩
 obtain ⟨hin, h60⟩ := hin; have HBU := hD (fun w1 (hk : Kp w w1) => by have := built_any (C.kp hk) (E.kp hk) nd _ lst hin (by omega) (by rw [← hn] at hs; exact hs.kp hk); rw [hn] at this; exact this); have HOK := hD (bld_ok lst (newSt_ok hin)); obtain ⟨m, hm⟩ : ∃ m, bldM (newSt nd) lst = m := ⟨_, rfl⟩
 have hnd : m.node = nd := by rw [← hm]; exact bld_node lst (newSt nd)
 rw [hm] at HBU HOK; obtain ⟨HV, HC, HE, HP⟩ := hD4 V C E P; have hri := fun w1 (hk : Kp w w1) => letRight_any ads (⟨mk, mf, mt, mn, ms, mr, mp, mo, mc⟩ : MM) w1 (V.below hk) (TT.kp hk)
 obtain ⟨rt, hrt⟩ : ∃ x, rightM (⟨mk, mf, mt, mn, ms, mr, mp, mo, mc⟩ : MM) = x := ⟨_, rfl⟩
 rw [hrt] at hri; dsimp only [MM.cells] at hri; have HRI := hD hri
 by_cases hgo : rt = true ∧ mt = nd
 rotate_left
 ·have hrr : rt = false ∨ (rt = true ∧ (mt != nd) = true) := by
   cases rt with
   | false => exact .inl rfl
   | true => exact .inr ⟨rfl, by simpa using fun e => hgo ⟨rfl, e⟩⟩
  clear V TT C E P hs hn hin h60 kb hm hnd hri hrt hgo hnow
  rcases hrr with rfl | ⟨rfl, d1⟩ <;> (
   go_enter Tryz.func6, Tryz.ntmps6; go_wp2_with (first | (go_at_call 7; (with_reducible refine HAL.out.mono ?_); rintro e' w1 ⟨rfl, hk1⟩; have HK0 := hD hk1; have K1 := hD (kT KB.out hk1); clear hk1) | (go_at_call 8; (with_reducible refine (HBU.out _ K1.out).mono ?_); rintro e' w2 ⟨q, q', rfl, hsl, hsd, hk2⟩; obtain ⟨S2, D2, K12⟩ := hD3 hsl hsd hk2; have K2 := hD (kT K1.out hk2); have RBX := hD (rZ (kT HK0.out hk2) RBX0.out); obtain ⟨b20, b21, b22, b23, b24, b25, b26, b27, b28, b29⟩ := cells10 RBX.out; have RM := hD (mH w2 (.cells #[mk, mf, mt, mn, ms, mr, mp, mo, mc] 63)); obtain ⟨m0, m1, m2, m3, m4, m5, m6, m7, m8⟩ := cells9 RM.out; have KM2 := hD (kA w2 (.cells #[mk, mf, mt, mn, ms, mr, mp, mo, mc] 63)); have KM := hD (kT K2.out (kA w2 (.cells #[mk, mf, mt, mn, ms, mr, mp, mo, mc] 63))); have RBM := hD (rZ (kA w2 (.cells #[mk, mf, mt, mn, ms, mr, mp, mo, mc] 63)) RBX.out); obtain ⟨h0, h1, h2, h3, h4, h5, h6, h7, h8, h9⟩ := cells10 RBM.out;  clear hsl hsd hk2) | (go_at_call 30; (with_reducible refine (HRI.out _ KM.out).mono ?_); rintro e' w3 ⟨rfl, hk3⟩; have K3 := hD (kT KM.out hk3); have K23 := hD (kT KM2.out hk3); have RM3 := hD (rZ hk3 RM.out); have RX3 := hD (rZ hk3 RBM.out); obtain ⟨c0, c1, c2, c3, c4, c5, c6, c7, c8⟩ := cells9 RM3.out; obtain ⟨d0, d1, d2, d3, d4, d5, d6, d7, d8, d9⟩ := cells10 RX3.out; clear hk3))
   go_ret; exact ⟨rfl, K3.out⟩)
 obtain ⟨rfl, rfl⟩ := hgo; have hne : ∀ x : Int, (x != x) = false := fun x => by simp
 obtain ⟨hl1, hl2⟩ := lead_len m (⟨mk, mf, mt, mn, ms, mr, mp, mo, mc⟩ : MM) now; have hts := lead_send HOK.out (⟨mk, mf, mt, mn, ms, mr, mp, mo, mc⟩ : MM) now hrt hnd.symm; have htf := lead_takes (m := m) (⟨mk, mf, mt, mn, ms, mr, mp, mo, mc⟩ : MM) now; have ht1 := fun w1 (hk : Kp w w1) B q (h : SL B q m w1) => P.tell w1 hk B q m h HOK.out (⟨mk, mf, mt, mn, ms, mr, mp, mo, mc⟩ : MM) now hnow
 obtain ⟨tk, htk⟩ : ∃ b, (match actE m mn ms with | none => false | some a => takesE m a now) = b := ⟨_, rfl⟩
 have HTK := hD (fun w1 (hk : Kp w w1) B q (h : SL B q m w1) => P.takes w1 hk B q m h HOK.out mn ms now hnow tk htk); have htt : ∀ f ∈ (leadE m (⟨mk, mf, mt, mn, ms, mr, mp, mo, mc⟩ : MM) now).facts, f.k = 2 → tk = true := fun f hf h2 => by
  obtain ⟨a, ha, hb⟩ := htf f hf h2; dsimp only at ha; rw [← htk, ha]; exact hb
 obtain ⟨⟨FS, MS, wk⟩, hY⟩ : ∃ y, leadE m (⟨mk, mf, mt, mn, ms, mr, mp, mo, mc⟩ : MM) now = y := ⟨_, rfl⟩
 rw [hY] at ht1 hl1 hl2 hts htt; dsimp only [MM.cells] at ht1 hl1 hl2 hts htt; obtain ⟨lf, hlf⟩ : ∃ n, FS.length = n := ⟨_, rfl⟩
 obtain ⟨LF, hLF⟩ : ∃ N : Int, (lf : Int) = N := ⟨_, rfl⟩
 obtain ⟨lm, hlm⟩ : ∃ n, MS.length = n := ⟨_, rfl⟩
 obtain ⟨LM, hLM⟩ : ∃ N : Int, (lm : Int) = N := ⟨_, rfl⟩
 obtain ⟨nA, hnA⟩ : ∃ n, m.acts.length = n := ⟨_, rfl⟩
 obtain ⟨NA, hNA⟩ : ∃ N : Int, (nA : Int) = N := ⟨_, rfl⟩
 have HT1 := hD (fun w1 (hk : Kp w w1) B q (h : SL B q m w1) => (ht1 w1 hk B q h).mono (R' := fun r w' => ∃ fa fc ma mb, r = .returned (.agg #[.slice fa lf fc, .slice ma lm mb, wk]) ∧ w'.ownsRow w1.heap.size 87 14 (.slice fa lf fc) lf (fcE.row FS) ∧ w'.ownsRow w1.heap.size 63 9 (.slice ma lm mb) lm (mmE.row MS) ∧ Kp w1 w') (by
  rintro e w2 ⟨v, rfl, h, hk⟩; obtain ⟨fa, fc, ma, mb, rfl, h1, h2⟩ := RsV.form (r := ⟨FS, MS, wk⟩) h hlf hlm; exact ⟨fa, fc, ma, mb, rfl, h1, h2, hk⟩))
 obtain ⟨HTS, HTF, HND, HLM, HLF, HLL, HLFF, HNA⟩ := hD8 hts htt hnd hlm hlf hLM hLF hnA; have HNN := hD hNA; have HM2 := hD (show lm ≤ 2 by omega); have HF1 := hD (show lf ≤ 1 by omega); have HA8 := hD (show nA ≤ 8 by have := HOK.out.l8; omega); have HT := hD TT; clear V TT C E P hs hn hin h60 kb hm hnd hri hrt hl1 hl2 hts ht1 hY hlf hlm hnA hnow htf htt htk; go_enter Tryz.func6, Tryz.ntmps6; go_wp2_with (first | (go_at_call 7; (with_reducible refine HAL.out.mono ?_); rintro e' w1 ⟨rfl, hk1⟩; have HK0 := hD hk1; have K1 := hD (kT KB.out hk1); clear hk1) | (go_at_call 8; (with_reducible refine (HBU.out _ K1.out).mono ?_); rintro e' w2 ⟨q, q', rfl, hsl, hsd, hk2⟩; obtain ⟨S2, D2, K12⟩ := hD3 hsl hsd hk2; have K2 := hD (kT K1.out hk2); have RBX := hD (rZ (kT HK0.out hk2) RBX0.out); obtain ⟨b20, b21, b22, b23, b24, b25, b26, b27, b28, b29⟩ := cells10 RBX.out; have RM := hD (mH w2 (.cells #[mk, mf, mt, mn, ms, mr, mp, mo, mc] 63)); obtain ⟨m0, m1, m2, m3, m4, m5, m6, m7, m8⟩ := cells9 RM.out; have KM2 := hD (kA w2 (.cells #[mk, mf, mt, mn, ms, mr, mp, mo, mc] 63)); have KM := hD (kT K2.out (kA w2 (.cells #[mk, mf, mt, mn, ms, mr, mp, mo, mc] 63))); have RBM := hD (rZ (kA w2 (.cells #[mk, mf, mt, mn, ms, mr, mp, mo, mc] 63)) RBX.out); obtain ⟨h0, h1, h2, h3, h4, h5, h6, h7, h8, h9⟩ := cells10 RBM.out;  clear hsl hsd hk2) | (go_at_call 30; (with_reducible refine (HRI.out _ KM.out).mono ?_); rintro e' w3 ⟨rfl, hk3⟩; have K3 := hD (kT KM.out hk3); have K23 := hD (kT KM2.out hk3); have RM3 := hD (rZ hk3 RM.out); have RX3 := hD (rZ hk3 RBM.out); obtain ⟨c0, c1, c2, c3, c4, c5, c6, c7, c8⟩ := cells9 RM3.out; obtain ⟨d0, d1, d2, d3, d4, d5, d6, d7, d8, d9⟩ := cells10 RX3.out; clear hk3) | (go_at_call 23; (with_reducible refine (HTK.out _ K3.out _ _ (S2.out.kp K23.out)).mono ?_); rintro e' w4 ⟨rfl, hk4⟩; have K4 := hD (kT K3.out hk4); have K24 := hD (kT K23.out hk4); have RM4 := hD (rZ hk4 RM3.out); have RX4 := hD (rZ hk4 RX3.out); obtain ⟨e0, e1, e2, e3, e4, e5, e6, e7, e8⟩ := cells9 RM4.out; obtain ⟨f0, f1, f2, f3, f4, f5, f6, f7, f8, f9⟩ := cells10 RX4.out; clear hk4) | (go_at_call 29; (with_reducible refine (HT1.out _ K4.out _ _ (S2.out.kp K24.out)).mono ?_); rintro e' w5 ⟨fa, fc, ma, mb, rfl, hof, hom, hk5⟩; have kz := kT hk5 (kA w5 (.cells #[.slice fa lf fc, .slice ma lm mb, wk] 37)); have K5 := hD (kT K4.out kz); have K25 := hD (kT K24.out kz); have OM := hD (oK hom (kA w5 (.cells #[.slice fa lf fc, .slice ma lm mb, wk] 37))); have OF := hD (oK hof (kA w5 (.cells #[.slice fa lf fc, .slice ma lm mb, wk] 37))); have RM5 := hD (rZ kz RM4.out); have RB5 := hD (mH w5 (.cells #[.slice fa lf fc, .slice ma lm mb, wk] 37)); obtain ⟨x0, x1, x2⟩ := cellsR3 RB5.out; clear hof hom hk5 kz))
 go_loopw [61] (fun i wr => ∃ (j : Nat), j ≤ lm ∧ i = .int .i64 j ∧ Kp (w5.alloc (.cells #[.slice fa lf fc, .slice ma lm mb, wk] 37)) wr) (fun i _ => lm - (intOf i).toNat)
 case atStart => exact ⟨0, Nat.zero_le _, rfl, Kp.refl _⟩
 case round =>
  obtain ⟨j, hj, rfl, hk⟩ := hrel; obtain ⟨kk, hkk⟩ : ∃ x : Int, (j : Int) = x := ⟨_, rfl⟩
  rw [hkk]; obtain ⟨HKA, KRA⟩ := hD2 hkk hk
  by_cases hlt : j < lm
  ·have hjl : kk < LM := by have := HLL.out; omega
   have hk0 : 0 ≤ kk := by omega
   have htk : kk.toNat = j := by omega
   have hN8 : LM ≤ 60 := by have := HLL.out; have := HM2.out; omega
   have hw1 : wrap64 (kk + 1) = kk + 1 := IntWalk.wrap64_in _ (by omega); have HLTA := hD hlt; obtain ⟨gpm, ck, ev, _, _, _, _, hc0⟩ := cQ (E := mmE) (oK OM.out hk) HLM.out hlt; have hjx : j < MS.length := by have := HLM.out; omega
   have hc : ∀ (i : Nat) (u : Value), i < 9 → (mmE.enc (MS[j]'hjx))[i]? = some u → wr.cell? ⟨gpm, j * 9 + i, none⟩ = some u := hc0; have ea := congrArg (fun v => match v with | Value.slice a _ _ => a | _ => none) ev; dsimp only at ea; have hb := HTS.out _ (List.getElem_mem hjx); obtain ⟨⟨yk, yf, yt, yn, ys, yr, yp, yo, yc⟩, hF⟩ : ∃ y, MS[j]'hjx = y := ⟨_, rfl⟩
   rw [hF] at hc hb; obtain ⟨hy0, hy1, hy2, hy3, hy4, hy5⟩ := hb; dsimp only at hy1 hy2 hy3 hy4 hy5; rw [HND.out] at hy1; have hy1 := hy1.symm; have hy2 := hy2.symm; have hy3 := hy3.symm; have hy4 := hy4.symm; have hy5 := hy5.symm; subst hy1 hy2 hy3 hy4 hy5; subst ea; rw [← htk] at hc; have zm0 : wr.cell? ⟨gpm, kk.toNat * 9, none⟩ = some (.int .i64 yk) := hc 0 _ (by decide) rfl; have zm1 : wr.cell? ⟨gpm, kk.toNat * 9 + 1, none⟩ = some (.int .i64 mt) := hc 1 _ (by decide) rfl; have zm2 : wr.cell? ⟨gpm, kk.toNat * 9 + 2, none⟩ = some (.int .i64 mf) := hc 2 _ (by decide) rfl; have zm3 : wr.cell? ⟨gpm, kk.toNat * 9 + 3, none⟩ = some (.int .i64 mn) := hc 3 _ (by decide) rfl; have zm4 : wr.cell? ⟨gpm, kk.toNat * 9 + 4, none⟩ = some (.int .i64 ms) := hc 4 _ (by decide) rfl; have zm5 : wr.cell? ⟨gpm, kk.toNat * 9 + 5, none⟩ = some (.int .i64 yr) := hc 5 _ (by decide) rfl; have zm6 : wr.cell? ⟨gpm, kk.toNat * 9 + 6, none⟩ = some (.int .i64 mp) := hc 6 _ (by decide) rfl
   have zm7 : wr.cell? ⟨gpm, kk.toNat * 9 + 7, none⟩ = some (.int .i64 yo) := hc 7 _ (by decide) rfl; have zm8 : wr.cell? ⟨gpm, kk.toNat * 9 + 8, none⟩ = some (.int .i64 yc) := hc 8 _ (by decide) rfl; have hry := fun w1 (hk : Kp w w1) => letRight_any ads (⟨yk, mt, mf, mn, ms, yr, mp, yo, yc⟩ : MM) w1 (HV.out.below hk) (HT.out.kp hk)
   rw [hy0] at hry; dsimp only [MM.cells] at hry; have HRY := hD hry; have KRB := hD (kT K5.out (kT hk (kA wr (.cells #[yk, mt, mf, mn, ms, yr, mp, yo, yc] 63)))); have RY := hD (mH wr (.cells #[yk, mt, mf, mn, ms, yr, mp, yo, yc] 63)); have RMR := hD (rZ hk RM5.out); obtain ⟨r0, r1, r2, r3, r4, r5, r6, r7, r8⟩ := cells9 RY.out; obtain ⟨s0, s1, s2, s3, s4, s5, s6, s7, s8⟩ := cells9 (rZ (kA wr (.cells #[yk, mt, mf, mn, ms, yr, mp, yo, yc] 63)) RMR.out); have heq := act_neq17 mn ms; have heg := fun op x y (w : World) => act_guard9 op x y mn ms mn ms w
   clear hkk hj hlt hk htk hjx ev hc hc0 hF hy0 hry; go_wp2_with (go_at_call 30; (with_reducible refine (HRY.out _ KRB.out).mono ?_); rintro e' w6 ⟨rfl, hk6⟩; obtain ⟨p0, p1, p2, p3, p4, p5, p6, p7, p8⟩ := cells9 (rZ hk6 RY.out); obtain ⟨q0, q1, q2, q3, q4, q5, q6, q7, q8⟩ := cells9 (rZ (kT (kA wr (.cells #[yk, mt, mf, mn, ms, yr, mp, yo, yc] 63)) hk6) RMR.out); have KW6 := hD (kT KRA.out (kT (kA wr (.cells #[yk, mt, mf, mn, ms, yr, mp, yo, yc] 63)) hk6)); clear hk6)
   go_roundw
   case rel => exact ⟨j + 1, by have := HLTA.out; omega, by have := HKA.out; first | rw [show ((j + 1 : Nat) : Int) = kk + 1 by omega] | rw [show ((j + 1 : Nat) : Int) = kk + 1 by omega, hw1], KW6.out⟩
   case measure => have := HKA.out; have := HLTA.out; simp [intOf]; omega
  ·have hje : ¬ kk < LM := by have := HLL.out; omega
   have KL1 := hD hk; have RB6 := hD (rZ hk RB5.out); obtain ⟨x60, x61, x62⟩ := cellsR3 RB6.out; obtain ⟨W6, hW6⟩ : ∃ x, x = wr := ⟨_, rfl⟩
   clear hkk hj hlt hk; go_wp2; subst hW6; go_loopw [99] (fun i wr => ∃ (j : Nat), j ≤ lf ∧ i = .int .i64 j ∧ Kp W6 wr) (fun i _ => lf - (intOf i).toNat)
   case atStart => exact ⟨0, Nat.zero_le _, rfl, Kp.refl _⟩
   case round =>
    obtain ⟨j, hj, rfl, hk⟩ := hrel; obtain ⟨kk, hkk⟩ : ∃ x : Int, (j : Int) = x := ⟨_, rfl⟩
    rw [hkk]; obtain ⟨HKB, KRB⟩ := hD2 hkk hk
    by_cases hlt : j < lf
    ·have hjl : kk < LF := by have := HLFF.out; omega
     have hk0 : 0 ≤ kk := by omega
     have htk : kk.toNat = j := by omega
     have hN8 : LF ≤ 60 := by have := HLFF.out; have := HF1.out; omega
     have hw1 : wrap64 (kk + 1) = kk + 1 := IntWalk.wrap64_in _ (by omega); have HLTB := hD hlt; obtain ⟨gpf, ck, ev, _, _, _, _, hc0⟩ := cQ (E := fcE) (oK OF.out (kT KL1.out hk)) HLF.out hlt; have hjx : j < FS.length := by have := HLF.out; omega
     have hc : ∀ (i : Nat) (u : Value), i < 14 → (fcE.enc (FS[j]'hjx))[i]? = some u → wr.cell? ⟨gpf, j * 14 + i, none⟩ = some u := hc0; have ea := congrArg (fun v => match v with | Value.slice a _ _ => a | _ => none) ev; dsimp only at ea; have hb := HTF.out _ (List.getElem_mem hjx); obtain ⟨⟨fk, fn, fs, fr, fe, fp, fq, fo, fd, fj, ft, fh, fi, fx⟩, hF⟩ : ∃ y, FS[j]'hjx = y := ⟨_, rfl⟩
     rw [hF] at hc hb; dsimp only at hb; subst ea; rw [← htk] at hc; obtain ⟨zf0, zf1, zf2, zf3, zf4, zf5, zf6, zf7, zf8, zf9, zf10, zf11, zf12, zf13⟩ := cW14 hc; have KW := hD (kT KRB.out (kA wr (.cells #[fk, fn, fs, fr, fe, fp, fq, fo, fd, fj, ft, fh, fi, fx] 87))); have zz0 : (wr.alloc (.cells #[fk, fn, fs, fr, fe, fp, fq, fo, fd, fj, ft, fh, fi, fx] 87)).cell? ⟨wr.heap.size, 0, none⟩ = some (.int .i64 fk) := (cZ (mH wr (.cells #[fk, fn, fs, fr, fe, fp, fq, fo, fd, fj, ft, fh, fi, fx] 87))).1
     by_cases h2 : fk = 2
     ·have e2 : (fk == 2) = true := beq_iff_eq.2 h2; have htt := hb h2; subst htt; clear hkk hj hlt hk htk hjx ev hc hc0 hF hb h2; go_wp2; go_roundw
      case rel => exact ⟨j + 1, by have := HLTB.out; omega, by have := HKB.out; first | rw [show ((j + 1 : Nat) : Int) = kk + 1 by omega] | rw [show ((j + 1 : Nat) : Int) = kk + 1 by omega, hw1], KW.out⟩
      case measure => have := HKB.out; have := HLTB.out; simp [intOf]; omega
     ·have e2 : (fk == 2) = false := by simpa using h2
      clear hkk hj hlt hk htk hjx ev hc hc0 hF hb h2; go_wp2; go_roundw
      case rel => exact ⟨j + 1, by have := HLTB.out; omega, by have := HKB.out; first | rw [show ((j + 1 : Nat) : Int) = kk + 1 by omega] | rw [show ((j + 1 : Nat) : Int) = kk + 1 by omega, hw1], KW.out⟩
      case measure => have := HKB.out; have := HLTB.out; simp [intOf]; omega
    ·have hje : ¬ kk < LF := by have := HLFF.out; omega
     have HAC := hD (fun w1 (hk : Kp W6 w1) => SL.actsW ((S2.out.kp (kT K25.out KL1.out)).kp hk) HOK.out nA HNA.out); clear hkk hj hlt hk; go_wp2_with (go_at_call 31; (with_reducible refine (HAC.out _ KRB.out).mono ?_); rintro e' w7 ⟨aa, ca, ga, rfl, hgl, hgm, hoa, hog, hk7⟩; obtain ⟨HGL, HGM, OA, HOG⟩ := hD4 hgl hgm hoa hog; have K67 := hD (kT KL1.out (kT KRB.out hk7)); clear hgl hgm hoa hog hk7)
     go_loopw [114] (fun i wr => ∃ (j : Nat), j ≤ nA ∧ i = .int .i64 j ∧ Kp w7 wr) (fun i _ => nA - (intOf i).toNat)
     case atStart => exact ⟨0, Nat.zero_le _, rfl, Kp.refl _⟩
     case round =>
      obtain ⟨j, hj, rfl, hk⟩ := hrel; obtain ⟨kk, hkk⟩ : ∃ x : Int, (j : Int) = x := ⟨_, rfl⟩
      rw [hkk]; obtain ⟨HKC, KRC⟩ := hD2 hkk hk
      by_cases hlt : j < nA
      ·have hjl : kk < NA := by have := HNN.out; omega
       have hk0 : 0 ≤ kk := by omega
       have htk : kk.toNat = j := by omega
       have hN8 : NA ≤ 60 := by have := HNN.out; have := HA8.out; omega
       have hw1 : wrap64 (kk + 1) = kk + 1 := IntWalk.wrap64_in _ (by omega); have HLTC := hD hlt; obtain ⟨wq, rfl⟩ : ∃ wq, wq = wr := ⟨wr, rfl⟩
       have hjx : j < ga.length := by have := HGL.out; omega
       obtain ⟨gpa, ck, ev, _, _, _, _, hc0⟩ := cQ (E := acE) (oK OA.out hk) HGL.out hlt; have hc : ∀ (i : Nat) (u : Value), i < 8 → (acE.enc (ga[j]'hjx))[i]? = some u → wq.cell? ⟨gpa, j * 8 + i, none⟩ = some u := hc0; have ea := congrArg (fun v => match v with | Value.slice a _ _ => a | _ => none) ev; dsimp only at ea; have hog := oK (HOG.out _ (List.getElem_mem hjx)) hk; have hma : m.acts[j]? = some (ga[j]'hjx).a := by rw [← HGM.out, List.getElem?_map, List.getElem?_eq_getElem hjx]; rfl
       obtain ⟨⟨⟨⟨an, aw, ao, ad, ax⟩, ap, ac, regs⟩, ag, ak⟩, hF⟩ : ∃ y, ga[j]'hjx = y := ⟨_, rfl⟩
       rw [hF] at hc hog hma; dsimp only at hma; have hself := act_self HOK.out hma; have hOA := HOK.out.a _ (List.mem_of_getElem? hma); dsimp only at hself; obtain ⟨al, hal⟩ : ∃ n, regs.length = n := ⟨_, rfl⟩
       unfold AcG.v at hog; dsimp only at hog; rw [hal] at hog; have hc7 : wq.cell? ⟨gpa, j * 8 + 7, none⟩ = some (.slice ag al ak) := by have := hc 7 _ (by decide) rfl; unfold AcG.v at this; dsimp only at this; rw [hal] at this; exact this
       subst ea; rw [← htk] at hc hc7; obtain ⟨za0, za1, za2, za3, za4, za5, za6, -⟩ := cW8 hc; have za7 : wq.cell? ⟨gpa, kk.toNat * 8 + 7, none⟩ = some (.slice ag al ak) := hc7; obtain ⟨AL, hAL⟩ : ∃ N : Int, (al : Int) = N := ⟨_, rfl⟩
       have HALL := hD hAL; have HAL6 := hD (show al ≤ 6 by rw [← hal]; exact hOA.l); obtain ⟨HRL, HSF, HOA⟩ := hD3 hal hself hOA; have KA3 := hD (kT hk (kA wq (.cells #[an, aw, ao, ad, ax, ap, ac, .slice ag al ak] 92))); have RAG := hD (mH wq (.cells #[an, aw, ao, ad, ax, ap, ac, .slice ag al ak] 92)); have OR := hD (oK hog (kA wq (.cells #[an, aw, ao, ad, ax, ap, ac, .slice ag al ak] 92))); obtain ⟨k0, k1, k2, k3, k4, k5, k6, k7⟩ := c8X RAG.out; clear hkk hj hlt hk htk hjx ev hc hc0 hc7 hF hog hma hself hOA hal; go_wp2; go_loopw [121] (fun i wr => ∃ (j : Nat), j ≤ al ∧ i = .int .i64 j ∧ Kp (wq.alloc (.cells #[an, aw, ao, ad, ax, ap, ac, .slice ag al ak] 92)) wr) (fun i _ => al - (intOf i).toNat)
       case atStart => exact ⟨0, Nat.zero_le _, rfl, Kp.refl _⟩
       case round =>
        obtain ⟨i, hi, rfl, hk⟩ := hrel; obtain ⟨kj, hkj⟩ : ∃ x : Int, (i : Int) = x := ⟨_, rfl⟩
        rw [hkj]; obtain ⟨HKI, KRJ⟩ := hD2 hkj hk
        by_cases hlt : i < al
        ·have hjl : kj < AL := by have := HALL.out; omega
         have hk0 : 0 ≤ kj := by omega
         have htk : kj.toNat = i := by omega
         have hN8 : AL ≤ 60 := by have := HALL.out; have := HAL6.out; omega
         have hw1 : wrap64 (kj + 1) = kj + 1 := IntWalk.wrap64_in _ (by omega); have HLTI := hD hlt; have hjx : i < regs.length := by have := HRL.out; omega
         obtain ⟨gpr, ck, ev, _, _, _, _, hc0⟩ := cQ (E := rgE) (oK OR.out hk) HRL.out hlt; have hc : ∀ (j : Nat) (u : Value), j < 6 → (rgE.enc (regs[i]'hjx))[j]? = some u → wr.cell? ⟨gpr, i * 6 + j, none⟩ = some u := hc0; have ea := congrArg (fun v => match v with | Value.slice a _ _ => a | _ => none) ev; dsimp only at ea; have hrg : regE ⟨⟨an, aw, ao, ad, ax⟩, ap, ac, regs⟩ kj = some (regs[i]'hjx) := by
          unfold regE; rw [if_pos hk0, htk]; exact List.getElem?_eq_getElem hjx
         obtain ⟨⟨rn, rp, ⟨rq, re, rs, rh⟩⟩, hF⟩ : ∃ y, regs[i]'hjx = y := ⟨_, rfl⟩
         rw [hF] at hc hrg; subst ea; rw [← htk] at hc; obtain ⟨zr0, zr1, zr2, zr3, zr4, zr5⟩ := cW6 hc; have RRG := hD (mH wr (.cells #[rn, rp, rq, re, rs, rh] 96)); have KRI := hD (kA wr (.cells #[rn, rp, rq, re, rs, rh] 96)); have RAI := hD (rZ (kT hk (kA wr (.cells #[rn, rp, rq, re, rs, rh] 96))) RAG.out); obtain ⟨n0, n1, n2, n3, n4, n5, n6, n7⟩ := c8X RAI.out; have KGW := hD (kT K5.out (kT K67.out (kT KA3.out (kT hk (kA wr (.cells #[rn, rp, rq, re, rs, rh] 96)))))); have SGW := hD ((S2.out.kp K25.out).kp (kT K67.out (kT KA3.out (kT hk (kA wr (.cells #[rn, rp, rq, re, rs, rh] 96))))))
         cases hag : againE m an aw kj with
         | none =>
          have HAG := hD (fun w1 (hk : Kp w w1) B q (h : SL B q m w1) => HP.out.again w1 hk B q m h HOK.out an aw kj _ _ (.inr ⟨hag, rfl, rfl⟩)); dsimp only [MM.cells] at HAG; clear hkj hi hlt hk htk hjx ev hc hc0 hF hrg hag; go_wp2_with (go_at_call 21; (with_reducible refine (HAG.out _ KGW.out _ _ SGW.out).mono ?_); rintro e' w8 ⟨rfl, hk8⟩; have kz := kT hk8 (kA w8 (.cells #[(0:Int), (0:Int), (0:Int), (0:Int), (0:Int), (0:Int), (0:Int), (0:Int), (0:Int)] 63)); have K8 := hD (kT KRI.out kz); have KR8 := hD (kT KRJ.out (kT KRI.out kz)); have K8W := hD (kT KGW.out kz); have R8G := hD (mH w8 (.cells #[(0:Int), (0:Int), (0:Int), (0:Int), (0:Int), (0:Int), (0:Int), (0:Int), (0:Int)] 63)); have R8R := hD (rZ kz RRG.out); clear hk8 kz)
          obtain ⟨D8, hDl⟩ : ∃ x, (w8.alloc (.cells #[(0:Int), (0:Int), (0:Int), (0:Int), (0:Int), (0:Int), (0:Int), (0:Int), (0:Int)] 63)).drew = x := ⟨_, rfl⟩
          have kd : Kp (w8.alloc (.cells #[(0:Int), (0:Int), (0:Int), (0:Int), (0:Int), (0:Int), (0:Int), (0:Int), (0:Int)] 63)) D8 := by rw [← hDl]; exact dQ (Kp.refl _)
          have HD8 := hD hDl; have KD8 := hD (kT K8W.out kd); have KRD := hD (kT KR8.out kd); have RGD := hD (rZ kd R8G.out); have RRD := hD (rZ kd R8R.out); clear hDl; refine rgW (fun w' => Kp D8 w') ?_ fun hH => ?_
          ·exact by rw [HD8.out]; exact Kp.refl _
          rw [HD8.out] at hH ⊢; clear kd; refine tkP 0 ?_
          go_simp; refine tkP 1 ?_
          go_simp; refine skW 2 ?_
          go_simp; refine skW 3 ?_
          go_simp; refine skW 4 ?_
          go_simp; refine skW 5 ?_
          go_simp; refine skW 6 ?_
          go_simp; refine skW 7 ?_
          go_simp; refine skW 8 ?_
          go_simp; refine skW 9 ?_
          go_simp; refine skW 10 ?_
          go_simp; refine skW 11 ?_
          go_simp; refine skW 12 ?_
          go_simp; refine skW 13 ?_
          go_simp; refine skW 14 ?_
          go_simp; refine skW 15 ?_
          go_simp; refine skW 16 ?_
          go_simp; refine skW 17 ?_
          go_simp; refine skW 18 ?_
          go_simp; refine skW 19 ?_
          go_simp; refine skW 20 ?_
          go_simp; refine skW 21 ?_
          go_simp; refine skW 22 ?_
          go_simp; refine skW 23 ?_
          go_simp; refine skW 24 ?_
          go_simp; refine skW 25 ?_
          go_simp; refine skW 26 ?_
          go_simp; refine skW 27 ?_
          go_simp; refine skW 28 ?_
          go_simp; refine skW 29 ?_
          go_simp; refine skW 30 ?_
          go_simp; refine skW 31 ?_
          go_simp; refine skW 32 ?_
          go_simp; refine tkP 33 ?_
          go_simp; refine dnW ?_ _
          have KF := hD hH; clear hH; go_wp2; go_roundw
          case rel => exact ⟨i + 1, by have := HLTI.out; omega, by have := HKI.out; first | rw [show ((i + 1 : Nat) : Int) = kj + 1 by omega] | rw [show ((i + 1 : Nat) : Int) = kj + 1 by omega, hw1], kT KRD.out KF.out⟩
          case measure => have := HKI.out; have := HLTI.out; simp [intOf]; omega
         | some y =>
          obtain ⟨a', g', ha', hg', hy0, hy1, hy2, hy3, hy4⟩ := leadAgain_right HOK.out hag; rw [HSF.out] at ha'; obtain rfl := Option.some.inj ha'; rw [hrg] at hg'; obtain rfl := Option.some.inj hg'; obtain ⟨yk, yf, yt, yn, ys, yr, yp, yo, yc⟩ := y; dsimp only at hy1 hy2 hy3 hy4; have hy1 := hy1.symm; have hy2 := hy2.symm; have hy3 := hy3.symm; subst hy1 hy2 hy3; have hzz := okg_z (regE_ok HOA.out hrg).2.2; have hwt := fun w1 (hk : Kp w w1) => msWaits_any (ads := ads) ⟨rq, re, rs, rh⟩ (okz_ok hzz (.inl rfl)) w1 (tabC_of ads w1 (ep_of_st (HV.out.below hk) (by decide)))
          rw [if_pos hzz.1, show (⟨rq, re, rs, rh⟩ : SeatM).waits = yk by unfold SeatM.waits; rw [show re = 1 from hzz.2]; exact hy4.symm] at hwt; dsimp only [seatV] at hwt; have HWT := hD hwt; have hry := fun w1 (hk : Kp w w1) => letRight_any ads (⟨yk, yf, rn, yn, ys, kj, rp, yo, yc⟩ : MM) w1 (HV.out.below hk) (HT.out.kp hk)
          rw [hy0] at hry; dsimp only [MM.cells] at hry; have HRY := hD hry; have HAG := hD (fun w1 (hk : Kp w w1) B q (h : SL B q m w1) => HP.out.again w1 hk B q m h HOK.out an aw kj _ _ (.inl ⟨hag, rfl⟩)); dsimp only [MM.cells] at HAG; clear hkj hi hlt hk htk hjx ev hc hc0 hF hrg hag hy0 hy4 hzz hwt hry; go_wp2_with (go_at_call 21; (with_reducible refine (HAG.out _ KGW.out _ _ SGW.out).mono ?_); rintro e' w8 ⟨rfl, hk8⟩; have kz := kT hk8 (kA w8 (.cells #[yk, yf, rn, yn, ys, kj, rp, yo, yc] 63)); have K8 := hD (kT KRI.out kz); have KR8 := hD (kT KRJ.out (kT KRI.out kz)); have K8W := hD (kT KGW.out kz); have R8G := hD (mH w8 (.cells #[yk, yf, rn, yn, ys, kj, rp, yo, yc] 63)); have R8R := hD (rZ kz RRG.out); clear hk8 kz)
          obtain ⟨D8, hDl⟩ : ∃ x, (w8.alloc (.cells #[yk, yf, rn, yn, ys, kj, rp, yo, yc] 63)).drew = x := ⟨_, rfl⟩
          have kd : Kp (w8.alloc (.cells #[yk, yf, rn, yn, ys, kj, rp, yo, yc] 63)) D8 := by rw [← hDl]; exact dQ (Kp.refl _)
          have HD8 := hD hDl; have KD8 := hD (kT K8W.out kd); have KRD := hD (kT KR8.out kd); have RGD := hD (rZ kd R8G.out); have RRD := hD (rZ kd R8R.out); clear hDl; refine rgW (fun w' => Kp D8 w') ?_ fun hH => ?_
          ·exact by rw [HD8.out]; exact Kp.refl _
          rw [HD8.out] at hH ⊢; clear kd; refine tkP 0 ?_
          go_simp; refine tkP 1 ?_
          go_simp; refine tkP 2 ?_ (y := by intro w hZ; obtain ⟨u0, u1, u2, u3, u4, u5, u6, u7, u8⟩ := cells9 (rZ hZ RGD.out); go_simp; try rfl)
          go_simp; refine rdW 3 fun K hK => ?_
          go_simp; go_wp2_with (go_at_call 30; (with_reducible refine (HRY.out _ (kT KD8.out hH)).mono ?_); rintro e' wA ⟨rfl, hkA⟩)
          refine hK.out _ _ (kT hH hkA) fun hH => ?_
          clear hK K; clear hkA; refine tkP 4 ?_
          go_simp; refine tkP 5 ?_
          go_simp; refine tkP 6 ?_
          go_simp; refine tkP 7 ?_ (y := by intro w hZ; obtain ⟨u0, u1, u2, u3, u4, u5, u6, u7, u8⟩ := cells9 (rZ hZ RGD.out); go_simp; try rfl)
          go_simp; refine tkP 8 ?_
          go_simp; refine tkP 9 ?_ (y := by intro w hZ; obtain ⟨v0, v1, v2, v3, v4, v5⟩ := cells_6Q (rZ hZ RRD.out); go_simp; try rfl)
          go_simp; refine tkP 10 ?_
          go_simp; refine tkP 11 ?_
          go_simp; refine tkP 12 ?_
          go_simp; refine tkP 13 ?_
          go_simp; refine tkP 14 ?_ (y := by intro w hZ; obtain ⟨u0, u1, u2, u3, u4, u5, u6, u7, u8⟩ := cells9 (rZ hZ RGD.out); go_simp; try rfl)
          go_simp; refine tkP 15 ?_
          go_simp; refine tkP 16 ?_ (y := by intro w hZ; obtain ⟨v0, v1, v2, v3, v4, v5⟩ := cells_6Q (rZ hZ RRD.out); go_simp; try rfl)
          go_simp; refine tkP 17 ?_
          go_simp; refine tkP 18 ?_
          go_simp; refine tkP 19 ?_
          go_simp; refine tkP 20 ?_
          go_simp; refine tkP 21 ?_ (y := by intro w hZ; obtain ⟨u0, u1, u2, u3, u4, u5, u6, u7, u8⟩ := cells9 (rZ hZ RGD.out); go_simp; try rfl)
          go_simp; refine tkP 22 ?_
          go_simp; refine tkP 23 ?_
          go_simp; refine tkP 24 ?_
          go_simp; refine tkP 25 ?_
          go_simp; refine tkP 26 ?_
          go_simp; refine tkP 27 ?_ (y := by intro w hZ; obtain ⟨u0, u1, u2, u3, u4, u5, u6, u7, u8⟩ := cells9 (rZ hZ RGD.out); go_simp; try rfl)
          go_simp; refine tkP 28 ?_
          go_simp; refine tkP 29 ?_ (y := by intro w hZ; obtain ⟨v0, v1, v2, v3, v4, v5⟩ := cells_6Q (rZ hZ RRD.out); go_simp; try rfl)
          go_simp; refine rdW 30 fun K hK => ?_
          go_simp; go_wp2_with (go_at_call 32; (with_reducible refine (HWT.out _ (kT KD8.out hH)).mono ?_); rintro e' wB ⟨rfl, hkB⟩)
          refine hK.out _ _ (kT hH hkB) fun hH => ?_
          clear hK K; clear hkB; refine tkP 31 ?_
          go_simp; refine tkP 32 ?_
          go_simp; refine tkP 33 ?_
          go_simp; refine dnW ?_ _
          have KF := hD hH; clear hH; go_wp2; go_roundw
          case rel => exact ⟨i + 1, by have := HLTI.out; omega, by have := HKI.out; first | rw [show ((i + 1 : Nat) : Int) = kj + 1 by omega] | rw [show ((i + 1 : Nat) : Int) = kj + 1 by omega, hw1], kT KRD.out KF.out⟩
          case measure => have := HKI.out; have := HLTI.out; simp [intOf]; omega
        ·have hje : ¬ kj < AL := by have := HALL.out; omega
         have KE4 := hD (kT KRC.out (kT (kA wq (.cells #[an, aw, ao, ad, ax, ap, ac, .slice ag al ak] 92)) hk)); clear hkj hi hlt hk; go_wp2; go_roundw
         case rel => exact ⟨j + 1, by have := HLTC.out; omega, by have := HKC.out; first | rw [show ((j + 1 : Nat) : Int) = kk + 1 by omega] | rw [show ((j + 1 : Nat) : Int) = kk + 1 by omega, hw1], KE4.out⟩
         case measure => have := HKC.out; have := HLTC.out; simp [intOf]; omega
      ·have hje : ¬ kk < NA := by have := HNN.out; omega
       have KE := hD (kT K5.out (kT K67.out hk)); clear hkk hj hlt hk; go_wp2; go_ret; exact ⟨rfl, KE.out⟩
open Go.RowKit
theorem leadAnswers_walk (node : Int) (v : Value) (list : List FX) (mk mf mt mn ms mr mp mo mc : Int) (now : Nat) (W : World) (_kn : -9223372036854775808 ≤ node ∧ node ≤ 9223372036854775807) (k1 : SlFc v list W) (_k2 : list.length ≤ maxLen) (kx : now < 18446744073709551616) (hL : laidMetH Tryz.prog Rows.leadAnswersRow.laid W) :
  Calls Tryz.prog 6 #[.int .i64 node, v, .agg #[mk, mf, mt, mn, ms, mr, mp, mo, mc, now]] W fun e w' => e = .returned (.bool true) ∧ Below W.heap.size W w' := by
 obtain ⟨⟨ads, V⟩, T⟩ := st_tab_of (l := Rows.leadAnswersRow.laid) (by kernel_rfl) (by kernel_rfl) (by kernel_rfl) hL; have C := facC_of ads W V T; have E : EP [0, 3, 4, 8, 13] ads W := ep_of_st V (by decide); have Q := leaC_of ads W V T; exact answers17_any V T C E Q node v list k1 mk mf mt mn ms mr mp mo mc now kx
open Go.ChangeShapes Go.WideShapes Go.ChangeAt Go.WideMaps Go.WideElems Go.RowKit
theorem leadAnswers_lifted (os : Os) (started : os.Started) (H : Type) (enc : TypeId × Value → H) :
  ReturnsInHanded {} Tryz.checked os 6 .any (fun w args => (Rows.leadAnswersSpec.pre enc Tryz.prog Tryz.f6 [] false w args ∧ laidMetH Tryz.prog Rows.leadAnswersRow.laid w) ∧ sizedMet enc Tryz.prog Tryz.f6 (OpenSpec.ofChange Rows.leadAnswersSpec) false w args)
   (Rows.leadAnswersSpec.post enc Tryz.prog Tryz.f6 false true false false) := by
 refine returnsInHanded_of_change_and (C := Tryz.checked) (X := fun w _ => laidMetH Tryz.prog Rows.leadAnswersRow.laid w) (fun _ _ _ hh h => h.of_heap hh) own started (by kernel_rfl) Tryz.func6
  (ChangeSpec.witness_shaped (enc := enc) (C := Tryz.checked) (os := os) (X := fun w _ => laidMetH Tryz.prog Rows.leadAnswersRow.laid w) false (World.laidAll Tryz.prog os Rows.leadAnswersRow.laid) #[.int .i64 0, .slice none 0 0, .agg #[(0:Int), (0:Int), (0:Int), (0:Int), (0:Int), (0:Int), (0:Int), (0:Int), (0:Int), .float .f64 0]] 8 (World.laidAll_os _ _ _) (World.shaped_of_ZipB (by kernel_rfl) (by kernel_rfl)) (by kernel_rfl) (by kernel_rfl) (by kernel_rfl) (by rw [MakeChecks.laidMetH_plain _ _ _ (by kernel_rfl)]; exact laidMet_laidAll _ (by kernel_rfl) (by kernel_rfl))) ?_
 intro W base args ds gs before hval0 hW _ hsz hL _; have hval : ∀ (j : Nat) t v, Tryz.f6.params[j]? = some t → args[j]? = some v → Value.okWide Tryz.prog W .any base t v := hval0; have hW' := hW; obtain ⟨p, q, hA0, hV, rfl, hfz, hnd⟩ := hW; have hA : DataW.TrodAll enc Tryz.prog W 0 (fun _ => true) true Tryz.f6.params.toList args.toList ds p := hA0; rw [Tryz.params6] at hA hval; obtain ⟨v0, vs0, d0, ds0, p0, q0, e0, rfl, rfl, h0, r0⟩ := trodAll_cons hA; obtain ⟨v1, vs1, d1, ds1, p1, q1, e1, rfl, rfl, h1, r1⟩ := trodAll_cons r0; obtain ⟨v2, vs2, d2, ds2, p2, q2, e2, rfl, rfl, h2, r2⟩ := trodAll_cons r1; obtain ⟨rfl, rfl, rfl⟩ := trodAll_nil r2; obtain rfl : args = #[v0, v1, v2] := by cases args; simp_all
 obtain ⟨rfl, rfl⟩ := trodVars_none hV; obtain ⟨node, rfl, rfl, rfl, hnode⟩ := open_int Tryz.underlying3 (hval 0 3 v0 rfl rfl) h0; obtain ⟨list, klista, klistb⟩ := open_fcts (hval 1 22 v1 rfl rfl) h1; obtain ⟨x0, x1, x2, x3, x4, x5, x6, x7, x8, x9, rfl, kx⟩ := open_at17 (hval 2 82 v2 rfl rfl) h2; clear hA0 hval0; have knode : -9223372036854775808 ≤ node ∧ node ≤ 9223372036854775807 := by simpa [Lit.wf, IntKind.min, IntKind.max, IntKind.bits, IntKind.signed] using hnode
 refine (leadAnswers_walk node v1 list x0 x1 x2 x3 x4 x5 x6 x7 x8 x9 W knode klista klistb kx hL).mono fun e W' ⟨he, hw⟩ => ?_
 subst he; exact ⟨_, rfl, law_post laidOut hW' rfl rfl rfl Tryz.underlying4 (par_ok (by kernel_rfl)) hw⟩
theorem leadAnswers_said : Rows.LeadAnswersSaid :=
 OpenClaim.holds_of_wide 6 Tryz.f6 rfl rfl rfl rfl rfl rfl rfl ⟨rfl, rfl, rfl, rfl, rfl⟩ rfl rfl rfl rfl rfl (by kernel_rfl) Tryz.func6 (by kernel_rfl)
  (of_decide_eq_true (by kernel_rfl)) (by unfold Func.isWrapper; first | (rw [if_pos (by decide +kernel)]; kernel_rfl) | (rw [if_neg (by decide +kernel)]; exact ⟨rfl, rfl⟩))
  (fun os started H enc _ => leadAnswers_lifted os started H enc)
theorem leadAnswers_holds : Rows.LeadAnswersCardSaid :=
 Claim7.holds_tied_plain_at .later [] _ _ _ _ leadAnswers_said (fun _ h => by cases h) (by kernel_rfl) (fun _ h => by cases h) leadAnswers_row_tie rfl ⟨rfl, rfl⟩ (by kernel_rfl) rfl
  (fun f fn hf hfn => by
   obtain rfl : f = 6 := Option.some.inj ((show Tryz.prog.funcNamed "liaison/liaisonlaw17.LeadAnswers" = some 6 by kernel_rfl).symm.trans hf) |>.symm
   obtain rfl : fn = Tryz.f6 := (Option.some.inj (Tryz.func6.symm.trans hfn)).symm; exact ⟨by kernel_rfl, stand_ok (P := Tryz.prog) (by kernel_rfl)⟩)
  (by kernel_rfl)
end Go.Proofs.YtlmlmhmhgdjhnaaGreatDoor
