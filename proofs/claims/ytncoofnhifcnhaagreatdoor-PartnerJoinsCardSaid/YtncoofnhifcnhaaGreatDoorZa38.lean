/- Parts of this proof (own work). -/
import Derived.Test.YtncoofnhifcnhaaGreatDoorZa37
set_option maxRecDepth 100000
set_option maxHeartbeats 40000000
namespace Go.Proofs.YtncoofnhifcnhaaGreatDoor
open Go.RowKit Go.ChangeShapes Go.WideShapes
variable {w0 w w' W w3 : World} {B q : Nat} {m : StM} {ads : List Addr}
theorem run_take {m m2 : StM} {fs : List FX} (h : runS m fs = some m2) (j : Nat) : ∃ mj, runS m (fs.take j) = some mj := by
 have e := runS_app (fs.take j) (fs.drop j) m; rw [List.take_append_drop, h] at e
 cases g : runS m (fs.take j) with
 | none => rw [g] at e; cases e
 | some mj => exact ⟨mj, rfl⟩
theorem run_step {m m2 mj : StM} {fs : List FX} (h : runS m fs = some m2) (j : Nat) (hj : j < fs.length) (h1 : runS m (fs.take j) = some mj) : ∃ mk, applyQ mj (fs[j]'hj) = (0, mk) ∧ runS m (fs.take (j + 1)) = some mk := by
 obtain ⟨mk, hk⟩ := run_take h (j + 1); have e := runS_app (fs.take j) [fs[j]'hj] m; rw [← List.take_succ_eq_append_getElem hj, h1, hk] at e; have e : some mk = stepS mj (fs[j]'hj) := by rw [← run_one]; exact e
 refine ⟨mk, ?_, hk⟩
 unfold stepS at e
 split at e
 ·exact aS (by assumption) e.symm
 ·cases e
def FitR (B : Nat) (w wr : World) : Prop := (∀ B' q' m', SD B' q' m' w → SD B' q' m' wr) ∧ (∀ (b : Nat) (cs : Array Value) (t : TypeId), OffL t → w.heap[b]? = some (.cells cs t (0, 0)) → wr.heap[b]? = some (.cells cs t (0, 0))) ∧ (∀ w0, Kp w0 w → w0.heap.size ≤ B → Kp w0 wr)
theorem FitR.refl (B : Nat) (w : World) : FitR B w w := ⟨fun _ _ _ h => h, fun _ _ _ _ h => h, fun _ h _ => h⟩
theorem own_fit {B1 k n : Nat} {t : TypeId} {v : Value} {xs : List Value} (h : w.ownsRow B1 t k v n xs) (ht : OffL t) (hw : ∀ (b : Nat) (cs : Array Value) (t : TypeId), OffL t → w.heap[b]? = some (.cells cs t (0, 0)) → w'.heap[b]? = some (.cells cs t (0, 0))) : w'.ownsRow B1 t k v n xs :=
 sG h fun b e => by
  obtain ⟨c, hc⟩ := own_kindQ h b e; rw [hw b c t ht hc, hc]
theorem fit_any (hB : ∃ w0, Kp w0 w ∧ w0.heap.size ≤ B ∧ FacC ads w0 ∧ EP [0, 3, 4, 8, 13] ads w0) (h : SL B q m w) (ok : OkS m) (lst : List FX) (a : Option Addr) (n c : Nat) {B1 : Nat} (hn : lst.length = n) (h60 : n ≤ 60) (ho : w.ownsRow B1 73 14 (.slice a n c) n (fcE.row lst)) (hwf : ∀ f ∈ lst, f.wf) (m2 : StM) (hrun : runS m lst = some m2) : Calls Tryz.prog 16 #[.pointer (some ⟨q, 0, none⟩), .slice a n c] w fun r w' => r = .returned (.bool true) ∧ SL B q m2 w' ∧ OkS m2 ∧ FitR B w w' := by
 obtain ⟨N, hN⟩ : ∃ N : Int, (n : Int) = N := ⟨_, rfl⟩
 obtain ⟨w0, hk0, hb0, C0, E0⟩ := hB; have HC := hD (fun w1 (hk : FitR B w w1) => C0.kp (hk.2.2 w0 hk0 hb0)); have HE := hD (fun w1 (hk : FitR B w w1) => E0.kp (hk.2.2 w0 hk0 hb0)); obtain ⟨HN, HO, HNN, HW, HL, HRUN, HSL, HOK⟩ := hD8 hn ho hN hwf h60 hrun h ok; have hsf := sF; clear C0 E0 hk0 hb0 h ok hn ho hwf hrun h60; go_enter Tryz.func16, Tryz.ntmps16; go_wp2; go_loopw [9] (fun i wr => ∃ (j : Nat) (mj : StM), j ≤ n ∧ i = .int .i64 j ∧ runS m (lst.take j) = some mj ∧ OkS mj ∧ SL B q mj wr ∧ wr.ownsRow B1 73 14 (.slice a n c) n (fcE.row lst) ∧ FitR B w wr) (fun i _ => n - (intOf i).toNat)
 case atStart => exact ⟨0, m, Nat.zero_le _, rfl, rfl, HOK.out, HSL.out, HO.out, FitR.refl B w⟩
 case round =>
  obtain ⟨j, mj, hj, rfl, hm, hok, hsl, ho, hf⟩ := hrel; obtain ⟨kk, hkk⟩ : ∃ x : Int, (j : Int) = x := ⟨_, rfl⟩
  rw [hkk]; have HKK := hD hkk; have FR' := hD hf
  by_cases hlt : j < n
  ·have hjl : kk < N := by have := HNN.out; omega
   have hk0 : 0 ≤ kk := by omega
   have htk : kk.toNat = j := by omega
   have hN8 : N ≤ 60 := by have := HNN.out; have := HL.out; omega
   have hw1 : wrap64 (kk + 1) = kk + 1 := IntWalk.wrap64_in _ (by omega); have HLT := hD hlt; have hjx : j < lst.length := by have := HN.out; omega
   obtain ⟨mk, hap0, hrk⟩ := run_step HRUN.out j hjx hm; have hwfj := HW.out _ (List.getElem_mem hjx); obtain ⟨gp, ck, ev, hck, _, _, _, hc0⟩ := cQ (E := fcE) ho HN.out hlt; have hc : ∀ (i : Nat) (u : Value), i < 14 → (fcE.enc (lst[j]'hjx))[i]? = some u → wr.cell? ⟨gp, j * 14 + i, none⟩ = some u := hc0; have ea := congrArg (fun v => match v with | Value.slice a _ _ => a | _ => none) ev; dsimp only at ea; subst ea; obtain ⟨⟨fk, fn, fs, fr, fe, fp, fq, fo, fd, fa, ft, fh, fc, fx⟩, hF⟩ : ∃ f, lst[j]'hjx = f := ⟨_, rfl⟩
   rw [hF] at hwfj hap0 hc; rw [← htk] at hc; obtain ⟨zf0, zf1, zf2, zf3, zf4, zf5, zf6, zf7, zf8, zf9, zf10, zf11, zf12, zf13⟩ := cW14 hc; have kb := kA wr (.cells #[fk, fn, fs, fr, fe, fp, fq, fo, fd, fa, ft, fh, fc, fx] 73); obtain ⟨u0, u1, u2, u3, u4, u5, u6, u7, u8, u9, u10, u11, u12, u13⟩ := cZ (mH wr (.cells #[fk, fn, fs, fr, fe, fp, fq, fo, fd, fa, ft, fh, fc, fx] 73)); have hap := SL.apply ((HC.out wr hf).kp kb) ((HE.out wr hf).kp kb) (hsl.kp kb) hok (⟨fk, fn, fs, fr, fe, fp, fq, fo, fd, fa, ft, fh, fc, fx⟩ : FX) hwfj; rw [hap0] at hap; dsimp only [FX.cells] at hap; rw [eN] at hap; have hokk : OkS mk := by have := applyQ_ok (f := (⟨fk, fn, fs, fr, fe, fp, fq, fo, fd, fa, ft, fh, fc, fx⟩ : FX)) hok; rw [hap0] at this; exact this
   obtain ⟨HAP, HRK, HOKK, OR, KB⟩ := hD5 hap hrk hokk ho kb; clear hkk hj hlt hm hok hsl ho hf htk hjx hck ev hc hc0 hF hwfj hap0 hrk hap hokk kb; go_wp2_with (go_at_call 27; (with_reducible refine HAP.out.mono ?_); rintro e' w5 ⟨rfl, s5, d5, x5, k5⟩; have S5 := hD s5; have O5 := hD (own_fit (oK OR.out KB.out) offL_fct x5); have F5 := hD (show FitR B w w5 from ⟨fun B' q' m' h => d5 _ _ _ ((FR'.out.1 B' q' m' h).kp KB.out), fun b cs t ht h => x5 b cs t ht (rZ KB.out (FR'.out.2.1 b cs t ht h)), fun w0 h hb => k5 w0 (kT (FR'.out.2.2 w0 h hb) KB.out) hb⟩); clear s5 d5 x5 k5)
   go_roundw
   case rel => exact ⟨j + 1, mk, by have := HLT.out; omega, by have := HKK.out; first | rw [show ((j + 1 : Nat) : Int) = kk + 1 by omega] | rw [show ((j + 1 : Nat) : Int) = kk + 1 by omega, hw1], HRK.out, HOKK.out, S5.out, O5.out, F5.out⟩
   case measure => have := HKK.out; have := HLT.out; simp [intOf]; omega
  ·have hje : ¬ kk < N := by have := HNN.out; omega
   have hmm : mj = m2 := by rw [List.take_of_length_le (by have := HN.out; omega), HRUN.out] at hm; exact (Option.some.inj hm).symm
   subst hmm; obtain ⟨SF, OKF⟩ := hD2 hsl hok; clear hkk hj hlt hm hok hsl ho hf; go_wp2; go_ret; exact ⟨rfl, SF.out, OKF.out, FR'.out⟩
theorem told_any {B1 : Nat} (lst : List FX) (ms : List MM) (wk : Int) (v : Value) (h : RsV 73 B1 ⟨lst, ms, wk⟩ v w) (h10 : lst.length ≤ 10) : Calls Tryz.prog 12 #[v] w fun r w' => ∃ v', r = .returned v' ∧ RsV 82 0 ⟨lst, ms, wk⟩ v' w' ∧ Kp w w' := by
 obtain ⟨n, hn⟩ : ∃ n, lst.length = n := ⟨_, rfl⟩
 obtain ⟨lm, hlm⟩ : ∃ n, ms.length = n := ⟨_, rfl⟩
 obtain ⟨sa, sc, ma, mc, rfl, hof, hom⟩ := RsV.form (r := ⟨lst, ms, wk⟩) h hn hlm; obtain ⟨N, hN⟩ : ∃ N : Int, (n : Int) = N := ⟨_, rfl⟩
 dsimp only at hof hom ⊢; obtain ⟨HN, HLM, HNN⟩ := hD3 hn hlm hN; have HL := hD (show n ≤ 10 by omega); have K3 := hD (pk3 w (.cells #[.slice sa n sc, .slice ma lm mc, wk] 34) (.cells #[.slice none 0 0, .slice none 0 0, (0:Int)] 39) (.cells #[.slice none 0 0, .slice ma lm mc, wk] 39)); have R0 := hD (p3_0 w (.cells #[.slice sa n sc, .slice ma lm mc, wk] 34) (.cells #[.slice none 0 0, .slice none 0 0, (0:Int)] 39) (.cells #[.slice none 0 0, .slice ma lm mc, wk] 39)); have R1 := hD (p3_1 w (.cells #[.slice sa n sc, .slice ma lm mc, wk] 34) (.cells #[.slice none 0 0, .slice none 0 0, (0:Int)] 39) (.cells #[.slice none 0 0, .slice ma lm mc, wk] 39)); have R2 := hD (p3_2 w (.cells #[.slice sa n sc, .slice ma lm mc, wk] 34) (.cells #[.slice none 0 0, .slice none 0 0, (0:Int)] 39) (.cells #[.slice none 0 0, .slice ma lm mc, wk] 39)); obtain ⟨OF, OM⟩ := hD2 hof hom; have hsf := sF
 obtain ⟨b0, b1, b2⟩ := cellsR3 (nX0 w (.cells #[.slice sa n sc, .slice ma lm mc, wk] 34) (.cells #[.slice none 0 0, .slice none 0 0, (0:Int)] 39)); obtain ⟨b3, b4, b5⟩ := cellsR3 R0.out; clear h h10 hn hlm hof hom; go_enter Tryz.func12, Tryz.ntmps12; go_wp2; go_loopw [14] (fun i wr => ∃ (j : Nat) (a : Option Addr) (c : Nat), j ≤ n ∧ i = .int .i64 j ∧ wr.heap[w.heap.size]? = some (.cells #[.slice sa n sc, .slice ma lm mc, wk] 34) ∧ wr.heap[w.heap.size + 1]? = some (.cells #[.slice none 0 0, .slice none 0 0, (0:Int)] 39) ∧ wr.heap[w.heap.size + 1 + 1]? = some (.cells #[.slice a j c, .slice ma lm mc, wk] 39) ∧ wr.ownsRow w.heap.size 82 14 (.slice a j c) j (fcE.row (lst.take j)) ∧ Kp w wr) (fun i _ => n - (intOf i).toNat)
 case atStart => exact ⟨0, none, 0, Nat.zero_le _, rfl, R0.out, R1.out, R2.out, own_no, K3.out⟩
 case round =>
  obtain ⟨j, a, c, hj, rfl, r0, r1, r2, ho, hk⟩ := hrel; obtain ⟨kk, hkk⟩ : ∃ x : Int, (j : Int) = x := ⟨_, rfl⟩
  rw [hkk]; obtain ⟨HKK, KR, R30, R31, R32, OW⟩ := hD6 hkk hk r0 r1 r2 ho
  by_cases hlt : j < n
  ·have hjl : kk < N := by have := HNN.out; omega
   have hk0 : 0 ≤ kk := by omega
   have htk : kk.toNat = j := by omega
   have hN8 : N ≤ 60 := by have := HNN.out; have := HL.out; omega
   have hw1 : wrap64 (kk + 1) = kk + 1 := IntWalk.wrap64_in _ (by omega); have HLT := hD hlt; have hjx : j < lst.length := by have := HN.out; omega
   obtain ⟨gp, ck, ev, hck, _, _, _, hc0⟩ := cQ (E := fcE) (oK OF.out hk) HN.out hlt; have hc : ∀ (i : Nat) (u : Value), i < 14 → (fcE.enc (lst[j]'hjx))[i]? = some u → wr.cell? ⟨gp, j * 14 + i, none⟩ = some u := hc0; have ea := congrArg (fun v => match v with | Value.slice a _ _ => a | _ => none) ev; dsimp only at ea; have HTK := hD (show lst.take (j + 1) = lst.take j ++ [lst[j]'hjx] from List.take_succ_eq_append_getElem hjx); obtain ⟨⟨fk, fn, fs, fr, fe, fp, fq, fo, fd, fa, ft, fh, fc, fx⟩, hF⟩ : ∃ f, lst[j]'hjx = f := ⟨_, rfl⟩
   rw [hF] at hc HTK; rw [← htk] at hc; subst ea; obtain ⟨zf0, zf1, zf2, zf3, zf4, zf5, zf6, zf7, zf8, zf9, zf10, zf11, zf12, zf13⟩ := cW14 hc; have kb := kA wr (.cells #[fk, fn, fs, fr, fe, fp, fq, fo, fd, fa, ft, fh, fc, fx] 73); have kbb := kT kb (kA (wr.alloc (.cells #[fk, fn, fs, fr, fe, fp, fq, fo, fd, fa, ft, fh, fc, fx] 73)) (.cells #[fk, fn, fs, fr, fe, fp, fq, fo, fd, fa, ft, fh, fc, fx] 82)); obtain ⟨u0, u1, u2, u3, u4, u5, u6, u7, u8, u9, u10, u11, u12, u13⟩ := cZ (mH wr (.cells #[fk, fn, fs, fr, fe, fp, fq, fo, fd, fa, ft, fh, fc, fx] 73)); have oq := own_oneF (w := wr.alloc (.cells #[fk, fn, fs, fr, fe, fp, fq, fo, fd, fa, ft, fh, fc, fx] 73)) (t := 82) (B := w.heap.size) (⟨fk, fn, fs, fr, fe, fp, fq, fo, fd, fa, ft, fh, fc, fx⟩ : FX) (kS (kT hk kb)); rw [show (wr.alloc (.cells #[fk, fn, fs, fr, fe, fp, fq, fo, fd, fa, ft, fh, fc, fx] 73)).heap.size = wr.heap.size + 1 by simp] at oq
   dsimp only [FX.cells] at oq; obtain ⟨OQ, KBB⟩ := hD2 oq kbb; obtain ⟨g0, g1, g2⟩ := cellsR3 (rZ kb r2); obtain ⟨g3, g4, g5⟩ := cellsR3 (rZ kbb r2); clear hkk hj hlt r0 r1 r2 ho hk htk hjx hck ev hc hc0 hF kb kbb oq; go_wp2_with (at_builtin; refine aG (E := fcE) ty_fcD (by decide) _ rfl _ _ rfl w.heap.size _ j (lst.take j) rfl (oK OW.out KBB.out) _ [(⟨fk, fn, fs, fr, fe, fp, fq, fo, fd, fa, ft, fh, fc, fx⟩ : FX)] rfl (qG (E := fcE) (by decide) OQ.out) (by have := HLT.out; have := HL.out; simp; omega) (kS (kT KR.out KBB.out)) ?_)
   rintro v1 u1 o1 hg1 hb1; obtain ⟨a5, c5, rfl⟩ := fG o1; have OX := oK OW.out KBB.out; have U0 := hD ((hg1.block _ (oZ (rZ KBB.out R30.out)) (Ne.symm (own_neP OX (rZ KBB.out R30.out) (by decide)))).trans (rZ KBB.out R30.out)); have U1 := hD ((hg1.block _ (oZ (rZ KBB.out R31.out)) (Ne.symm (own_neP OX (rZ KBB.out R31.out) (by decide)))).trans (rZ KBB.out R31.out)); have U2 := hD ((hg1.block _ (oZ (rZ KBB.out R32.out)) (Ne.symm (own_neP OX (rZ KBB.out R32.out) (by decide)))).trans (rZ KBB.out R32.out)); have KU := hD (show Kp w u1 from Below.grown (kT KR.out KBB.out) hg1 (kS (kT KR.out KBB.out)) (fun b hk => (OX.lt b hk).1)); have OU := hD o1; obtain ⟨s0, s1, s2⟩ := cellsR3 U2.out; have fz := frozN U2.out; clear OX o1 hg1 hb1; go_wp2; go_roundw
   case rel => exact ⟨j + 1, a5, c5, by have := HLT.out; omega, by have := HKK.out; first | rw [show ((j + 1 : Nat) : Int) = kk + 1 by omega] | rw [show ((j + 1 : Nat) : Int) = kk + 1 by omega, hw1], (bS _ _ _ _ (show w.heap.size ≠ w.heap.size + 1 + 1 by omega)).trans U0.out, (bS _ _ _ _ (show w.heap.size + 1 ≠ w.heap.size + 1 + 1 by omega)).trans U1.out, (Joins.block_setCell U2.out _).trans rfl, by rw [HTK.out]; exact sG OU.out (fun b e => bS _ _ _ _ (fun e2 => own_neP OU.out U2.out (by decide) ((show b = w.heap.size + 1 + 1 from e2) ▸ e))), Below.setCell KU.out (show w.heap.size ≤ w.heap.size + 1 + 1 by omega) _⟩
   case measure => have := HKK.out; have := HLT.out; simp [intOf]; omega
  ·have hje : ¬ kk < N := by have := HNN.out; omega
   have hjn : j = n := by omega
   subst hjn; obtain ⟨g0, g1, g2⟩ := cellsR3 r2; obtain ⟨g3, g4, g5⟩ := cellsR3 r1; have fz := frozN r1; have HTE := hD (show lst.take j = lst from List.take_of_length_le (by have := HN.out; omega)); clear hkk hj hlt r0 r1 r2 ho hk; go_wp2; refine bodyPost_ret (results_cell_row (p := 2) rfl _ _ (w.heap.size + 1) 39 _ (0, 0) _ rfl (setR3 _ _ _ R31.out) Tryz.underlying39 rfl (by kernel_rfl)) rfl ?_
   exact ⟨_, rfl, RsV.setN (r := ⟨lst, ms, wk⟩) R31.out (by decide) (by decide) HN.out HLM.out (bG (by have := OW.out; rw [HTE.out] at this; exact this) (Nat.zero_le _)) (bG (oK OM.out KR.out) (Nat.zero_le _)), setR3_kp KR.out (show w.heap.size ≤ w.heap.size + 1 by omega) _ _ _⟩
theorem refSame14_any (f g : FX) (hf : f.wf) (hg : g.wf) (w : World) : Calls Tryz.prog 37 #[.agg f.cells, .agg g.cells] w fun e w' => e = .returned (.bool (sameF f g)) ∧ Kp w w' := by
 have HN := hD (fun w1 => refNumbers_any f w1); have HM := hD (fun w1 => refNumbers_any g w1); have hla : f.nums.length ≤ 1000000 := by show 13 ≤ 1000000; decide
 have hsm : sameF f g = (decide (f.nums = g.nums) && (((Fl.plain f.x : Nat) : Int) == ((Fl.plain g.x : Nat) : Int))) := by
  unfold sameF
  congr 1
  rw [Bool.eq_iff_iff, decide_eq_true_eq, beq_iff_eq]; omega
 obtain ⟨na, hna⟩ : ∃ z, f.nums = z := ⟨_, rfl⟩
 obtain ⟨nb, hnb⟩ : ∃ z, g.nums = z := ⟨_, rfl⟩
 rw [hna, hnb] at hsm; rw [hna] at HN hla; rw [hnb] at HM; clear hna hnb; obtain ⟨k, n, s, r, u, p, q, o, d, a, t, hh, c, x⟩ := f; obtain ⟨k', n', s', r', u', p', q', o', d', a', t', hh', c', x'⟩ := g; have hx : x < 18446744073709551616 := hf; have hx' : x' < 18446744073709551616 := hg; dsimp only [FX.cells] at HN HM hsm ⊢; obtain ⟨HSM, HLE⟩ := hD2 hsm hla; obtain ⟨w2, hw2⟩ : ∃ y, (w.alloc (.cells #[k, n, s, r, u, p, q, o, d, a, t, hh, c, x] 82)).alloc (.cells #[k', n', s', r', u', p', q', o', d', a', t', hh', c', x'] 82) = y := ⟨_, rfl⟩
 have ra : w2.heap[w.heap.size]? = some (.cells #[k, n, s, r, u, p, q, o, d, a, t, hh, c, x] 82) := by rw [← hw2]; exact nX0 w _ _
 have rb : w2.heap[w.heap.size + 1]? = some (.cells #[k', n', s', r', u', p', q', o', d', a', t', hh', c', x'] 82) := by rw [← hw2]; exact nX1 w _ _
 have kw : Kp w w2 := by rw [← hw2]; exact kT (kA _ _) (kA _ _)
 obtain ⟨a0, a1, a2, a3, a4, a5, a6, a7, a8, a9, a10, a11, a12, a13⟩ := cZ ra; obtain ⟨b0, b1, b2, b3, b4, b5, b6, b7, b8, b9, b10, b11, b12, b13⟩ := cZ rb; have KW := hD kw; clear hf hg ra rb kw hsm hla; go_enter Tryz.func37, Tryz.ntmps37; go_wp2
 try rw [hw2]
 clear hw2; refine rgW (fun w' => Kp w2 w') ?_ fun hH => ?_
 ·exact (Kp.refl w2).drew
 refine tkP 0 ?_ (y := by intro w hZ; obtain ⟨q0, q1, q2, q3, q4, q5, q6, q7, q8, q9, q10, q11, q12, q13⟩ := kZ14 hZ a0 a1 a2 a3 a4 a5 a6 a7 a8 a9 a10 a11 a12 a13; go_simp; try rfl)
 go_simp; refine tkP 2 ?_ (y := by intro w hZ; obtain ⟨q0, q1, q2, q3, q4, q5, q6, q7, q8, q9, q10, q11, q12, q13⟩ := kZ14 hZ b0 b1 b2 b3 b4 b5 b6 b7 b8 b9 b10 b11 b12 b13; go_simp; try rfl)
 go_simp; refine rdW 1 fun K hK => ?_
 go_simp; go_wp2_with (go_at_call 82; (with_reducible refine (HN.out _).mono ?_); rintro e w4 ⟨g4, rfl, ho4, hk4⟩; have HO4 := hD ho4; have K4 := hD (kT hH hk4); have KD4 := hD hk4; clear ho4 hk4)
 refine hK.out _ _ (K4.out) fun hH => ?_
 clear hK K; refine rdW 3 fun K hK => ?_
 go_simp; go_wp2_with (go_at_call 82; (with_reducible refine (HM.out _).mono ?_); rintro e w5 ⟨g5, rfl, ho5, hk5⟩; have HO5 := hD ho5; have K5 := hD (kT hH hk5); have KD5 := hD hk5; clear ho5 hk5)
 refine hK.out _ _ (K5.out) fun hH => ?_
 clear hK K; refine rdW 4 fun K hK => ?_
 go_simp; go_wp2_with (go_at_call 81; (with_reducible refine (sameInts_any _ _ _ _ HLE.out _ (own_sli (oK HO4.out KD5.out)) (own_sli HO5.out)).mono ?_); rintro e w6 ⟨rfl, hk6⟩; have K6 := hD (kT hH hk6); clear hk6)
 refine hK.out _ _ (K6.out) fun hH => ?_
 clear hK K; obtain ⟨vn, hvn⟩ : ∃ z, decide (na = nb) = z := ⟨_, rfl⟩
 rw [hvn] at HSM ⊢; clear hvn
 cases vn with
 | false =>
  refine tkP 5 ?_
  go_simp; refine skW 6 ?_
  go_simp; refine skW 7 ?_
  go_simp; refine skW 8 ?_
  go_simp; refine skW 9 ?_
  go_simp; refine skW 10 ?_
  go_simp; refine skW 11 ?_
  go_simp; refine skW 12 ?_
  go_simp; refine tkP 13 ?_
  go_simp; refine tkP 14 ?_
  go_simp; refine dnW ?_ _
  go_wp2; go_ret; exact ⟨by rw [HSM.out]; rfl, kT KW.out hH⟩
 | true =>
  refine tkP 5 ?_
  go_simp; refine tkP 6 ?_
  go_simp; refine tkP 7 ?_ (y := by intro w hZ; have q := kZ hZ a13; go_simp; try rfl)
  go_simp; refine tkP 9 ?_
  go_simp; refine tkP 10 ?_ (y := by intro w hZ; have q := kZ hZ b13; go_simp; try rfl)
  go_simp; refine rdW 8 fun K hK => ?_
  go_simp; go_wp2_with (go_at_call 83; (with_reducible refine (refBits_any x _ hx).mono ?_); rintro e w' ⟨rfl, rfl⟩)
  refine hK.out _ _ (hH) fun hH => ?_
  clear hK K; refine rdW 11 fun K hK => ?_
  go_simp; go_wp2_with (go_at_call 83; (with_reducible refine (refBits_any x' _ hx').mono ?_); rintro e w' ⟨rfl, rfl⟩)
  refine hK.out _ _ (hH) fun hH => ?_
  clear hK K; refine tkP 12 ?_
  go_simp; refine tkP 13 ?_
  go_simp; refine tkP 14 ?_
  go_simp; refine dnW ?_ _
  go_wp2; go_ret; exact ⟨by rw [HSM.out]; rfl, kT KW.out hH⟩
theorem rSame_any (lst : List FX) (ms : List MM) (wk : Int) (v v' : Value) (h : RsV 82 0 ⟨lst, ms, wk⟩ v w) (h' : RsV 82 0 ⟨lst, ms, wk⟩ v' w) (hwf : ∀ f ∈ lst, f.wf) (h10 : lst.length ≤ 10) (h11 : ms.length ≤ 10) : Calls Tryz.prog 11 #[v, v'] w fun r w' => r = .returned (.bool true) ∧ Kp w w' := by
 obtain ⟨n, hn⟩ : ∃ n, lst.length = n := ⟨_, rfl⟩
 obtain ⟨k, hk⟩ : ∃ n, ms.length = n := ⟨_, rfl⟩
 obtain ⟨aa, ac, am, ad, rfl, hfa, hma⟩ := RsV.form (r := ⟨lst, ms, wk⟩) h hn hk; obtain ⟨ba, bc, bm, bd, rfl, hfb, hmb⟩ := RsV.form (r := ⟨lst, ms, wk⟩) h' hn hk; obtain ⟨NN, hNN⟩ : ∃ N : Int, (n : Int) = N := ⟨_, rfl⟩
 obtain ⟨KK, hKK⟩ : ∃ N : Int, (k : Int) = N := ⟨_, rfl⟩
 dsimp only at hfa hma hfb hmb ⊢; obtain ⟨HN, HK, HNN⟩ := hD3 hn hk hNN; have HKK' := hD hKK; have HLn := hD (show n ≤ 10 by omega); have HLk := hD (show k ≤ 10 by omega); obtain ⟨FA, FB, MA, MB, HW⟩ := hD5 hfa hfb hma hmb hwf; have K2 := hD (pk2 w (.cells #[.slice aa n ac, .slice am k ad, wk] 39) (.cells #[.slice ba n bc, .slice bm k bd, wk] 39)); have R0 := hD (nX0 w (.cells #[.slice aa n ac, .slice am k ad, wk] 39) (.cells #[.slice ba n bc, .slice bm k bd, wk] 39)); have R1 := hD (nX1 w (.cells #[.slice aa n ac, .slice am k ad, wk] 39) (.cells #[.slice ba n bc, .slice bm k bd, wk] 39)); obtain ⟨b0, b1, b2⟩ := cellsR3 R0.out; obtain ⟨b3, b4, b5⟩ := cellsR3 R1.out; clear h h' h10 h11 hn hk hfa hma hfb hmb hwf; go_enter Tryz.func11, Tryz.ntmps11; go_wp2; go_loopw [33] (fun i wr => ∃ (j : Nat), j ≤ n ∧ i = .int .i64 j ∧ wr.heap[w.heap.size]? = some (.cells #[.slice aa n ac, .slice am k ad, wk] 39) ∧ wr.heap[w.heap.size + 1]? = some (.cells #[.slice ba n bc, .slice bm k bd, wk] 39) ∧ Kp w wr) (fun i _ => n - (intOf i).toNat)
 case atStart => exact ⟨0, Nat.zero_le _, rfl, R0.out, R1.out, K2.out⟩
 case round =>
  obtain ⟨j, hj, rfl, r0, r1, hk⟩ := hrel; obtain ⟨kk, hkk⟩ : ∃ x : Int, (j : Int) = x := ⟨_, rfl⟩
  rw [hkk]; obtain ⟨HKK, KR, RA, RB⟩ := hD4 hkk hk r0 r1
  by_cases hlt : j < n
  ·have hjl : kk < NN := by have := HNN.out; omega
   have hk0 : 0 ≤ kk := by omega
   have htk : kk.toNat = j := by omega
   have hN8 : NN ≤ 60 := by have := HNN.out; have := HLn.out; omega
   have hw1 : wrap64 (kk + 1) = kk + 1 := IntWalk.wrap64_in _ (by omega); have HLT := hD hlt; have hjx : j < lst.length := by have := HN.out; omega
   obtain ⟨ga, ca, eva, _, _, _, _, hca⟩ := cQ (E := fcE) (oK FA.out hk) HN.out hlt; obtain ⟨gb, cb, evb, _, _, _, _, hcb⟩ := cQ (E := fcE) (oK FB.out hk) HN.out hlt; have hza : ∀ (i : Nat) (u : Value), i < 14 → (fcE.enc (lst[j]'hjx))[i]? = some u → wr.cell? ⟨ga, j * 14 + i, none⟩ = some u := hca; have hzb : ∀ (i : Nat) (u : Value), i < 14 → (fcE.enc (lst[j]'hjx))[i]? = some u → wr.cell? ⟨gb, j * 14 + i, none⟩ = some u := hcb; have eva := congrArg (fun v => match v with | Value.slice a _ _ => a | _ => none) eva; have evb := congrArg (fun v => match v with | Value.slice a _ _ => a | _ => none) evb; dsimp only at eva evb; obtain ⟨⟨fk, fn, fs, fr, fe, fp, fq, fo, fd, fa, ft, fh, fc, fx⟩, hF⟩ : ∃ f, lst[j]'hjx = f := ⟨_, rfl⟩
   have hwj := HW.out _ (List.getElem_mem hjx); rw [hF] at hza hzb hwj; rw [← htk] at hza hzb; have hsm := fun w1 => refSame14_any (⟨fk, fn, fs, fr, fe, fp, fq, fo, fd, fa, ft, fh, fc, fx⟩ : FX) (⟨fk, fn, fs, fr, fe, fp, fq, fo, fd, fa, ft, fh, fc, fx⟩ : FX) hwj hwj w1
   rw [same_refl14] at hsm; dsimp only [FX.cells] at hsm; have HSM := hD hsm; obtain ⟨za0, za1, za2, za3, za4, za5, za6, za7, za8, za9, za10, za11, za12, za13⟩ := cW14 hza; obtain ⟨zb0, zb1, zb2, zb3, zb4, zb5, zb6, zb7, zb8, zb9, zb10, zb11, zb12, zb13⟩ := cW14 hzb; have SA := hD (show wr.cell? ⟨w.heap.size, 0, none⟩ = some (.slice (some ⟨ga, 0, none⟩) n ac) by rw [← eva]; exact (cellsR3 r0).1); have SB := hD (show wr.cell? ⟨w.heap.size + 1, 0, none⟩ = some (.slice (some ⟨gb, 0, none⟩) n bc) by rw [← evb]; exact (cellsR3 r1).1); obtain ⟨ZA0, ZB0, ZA1, ZB1, ZA2, ZB2, ZA3, ZB3⟩ := hD8 za0 zb0 za1 zb1 za2 zb2 za3 zb3; obtain ⟨ZA4, ZB4, ZA5, ZB5, ZA6, ZB6, ZA7, ZB7⟩ := hD8 za4 zb4 za5 zb5 za6 zb6 za7 zb7; obtain ⟨ZA8, ZB8, ZA9⟩ := hD3 za8 zb8 za9
   obtain ⟨ZB9, ZA10, ZB10, ZA11, ZB11, ZA12, ZB12, ZA13⟩ := hD8 zb9 za10 zb10 za11 zb11 za12 zb12 za13; have ZB13 := hD zb13; clear za0 zb0 za1 zb1 za2 zb2 za3 zb3 za4 zb4 za5 zb5 za6 zb6 za7 zb7 za8 zb8 za9 zb9 za10 zb10 za11 zb11 za12 zb12 za13 zb13; clear hkk hj hlt r0 r1 hk htk hjx hca hcb hza hzb eva evb hF hwj hsm; go_wp2_with fail
   obtain ⟨WD, hWD⟩ : ∃ x, wr.drew = x := ⟨_, rfl⟩
   have kD : Kp wr WD := by rw [← hWD]; exact dQ (Kp.refl _)
   have HWD := hD hWD; clear hWD; refine rgW (fun w' => Kp wr w') ?_ fun hH => ?_
   ·exact by rw [HWD.out]; exact kD
   rw [HWD.out] at hH ⊢; refine tkP 0 ?_
   go_simp; refine tkP 1 ?_ (y := by intro w hZ; have g0 := kZ hZ SA.out; go_simp; try rfl)
   go_simp; refine tkP 2 ?_
   go_simp; refine tkP 3 ?_
   go_simp; refine tkP 4 ?_ (y := by intro w hZ; have g0 := kZ hZ ZA0.out; have g1 := kZ hZ ZA1.out; have g2 := kZ hZ ZA2.out; have g3 := kZ hZ ZA3.out; have g4 := kZ hZ ZA4.out; have g5 := kZ hZ ZA5.out; have g6 := kZ hZ ZA6.out; have g7 := kZ hZ ZA7.out; have g8 := kZ hZ ZA8.out; have g9 := kZ hZ ZA9.out; have g10 := kZ hZ ZA10.out; have g11 := kZ hZ ZA11.out; have g12 := kZ hZ ZA12.out; have g13 := kZ hZ ZA13.out; go_simp; try rfl)
   go_simp; refine tkP 5 ?_
   go_simp; refine tkP 6 ?_ (y := by intro w hZ; have g0 := kZ hZ SB.out; go_simp; try rfl)
   go_simp; refine tkP 7 ?_
   go_simp; refine tkP 8 ?_
   go_simp; refine tkP 9 ?_ (y := by intro w hZ; have g0 := kZ hZ ZB0.out; have g1 := kZ hZ ZB1.out; have g2 := kZ hZ ZB2.out; have g3 := kZ hZ ZB3.out; have g4 := kZ hZ ZB4.out; have g5 := kZ hZ ZB5.out; have g6 := kZ hZ ZB6.out; have g7 := kZ hZ ZB7.out; have g8 := kZ hZ ZB8.out; have g9 := kZ hZ ZB9.out; have g10 := kZ hZ ZB10.out; have g11 := kZ hZ ZB11.out; have g12 := kZ hZ ZB12.out; have g13 := kZ hZ ZB13.out; go_simp; try rfl)
   go_simp; refine rdW 10 fun K hK => ?_
   go_simp; go_wp2_with (go_at_call 37; (with_reducible refine (HSM.out _).mono ?_); rintro e' w5 ⟨rfl, hk5⟩)
   refine hK.out _ _ (kT hH hk5) fun hH => ?_
   clear hK K; refine tkP 11 ?_
   go_simp; refine dnW ?_ _
   have KZ := hD (show Kp wr _ from hH); clear hH; go_wp2; go_roundw
   case rel => exact ⟨j + 1, by have := HLT.out; omega, by have := HKK.out; first | rw [show ((j + 1 : Nat) : Int) = kk + 1 by omega] | rw [show ((j + 1 : Nat) : Int) = kk + 1 by omega, hw1], rZ KZ.out RA.out, rZ KZ.out RB.out, kT KR.out KZ.out⟩
   case measure => have := HKK.out; have := HLT.out; simp [intOf]; omega
  ·have hje : ¬ kk < NN := by have := HNN.out; omega
   obtain ⟨g0, g1, g2⟩ := cellsR3 r0; obtain ⟨g3, g4, g5⟩ := cellsR3 r1; clear hkk hj hlt r0 r1 hk; go_wp2; go_loopw [52] (fun i wr' => ∃ (j : Nat), j ≤ k ∧ i = .int .i64 j ∧ wr'.heap[w.heap.size]? = some (.cells #[.slice aa n ac, .slice am k ad, wk] 39) ∧ wr'.heap[w.heap.size + 1]? = some (.cells #[.slice ba n bc, .slice bm k bd, wk] 39) ∧ Kp w wr') (fun i _ => k - (intOf i).toNat)
   case atStart => exact ⟨0, Nat.zero_le _, rfl, RA.out, RB.out, KR.out⟩
   case round =>
    obtain ⟨j, hj, rfl, r0, r1, hk⟩ := hrel; obtain ⟨kk, hkk⟩ : ∃ x : Int, (j : Int) = x := ⟨_, rfl⟩
    rw [hkk]; obtain ⟨HKJ, KR, RA, RB⟩ := hD4 hkk hk r0 r1
    by_cases hlt : j < k
    ·have hjl : kk < KK := by have := HKK'.out; omega
     have hk0 : 0 ≤ kk := by omega
     have htk : kk.toNat = j := by omega
     have hN8 : KK ≤ 60 := by have := HKK'.out; have := HLk.out; omega
     have hw1 : wrap64 (kk + 1) = kk + 1 := IntWalk.wrap64_in _ (by omega); have HLT := hD hlt; have hjx : j < ms.length := by have := HK.out; omega
     obtain ⟨ga, ca, eva, _, _, _, _, hca⟩ := cQ (E := mmE) (oK MA.out hk) HK.out hlt; obtain ⟨gb, cb, evb, _, _, _, _, hcb⟩ := cQ (E := mmE) (oK MB.out hk) HK.out hlt; have hza : ∀ (i : Nat) (u : Value), i < 9 → (mmE.enc (ms[j]'hjx))[i]? = some u → wr.cell? ⟨ga, j * 9 + i, none⟩ = some u := hca; have hzb : ∀ (i : Nat) (u : Value), i < 9 → (mmE.enc (ms[j]'hjx))[i]? = some u → wr.cell? ⟨gb, j * 9 + i, none⟩ = some u := hcb; have eva := congrArg (fun v => match v with | Value.slice a _ _ => a | _ => none) eva; have evb := congrArg (fun v => match v with | Value.slice a _ _ => a | _ => none) evb; dsimp only at eva evb; obtain ⟨⟨gk, gf, gt, gn, gs, gr, gp, go, gc⟩, hF⟩ : ∃ f, ms[j]'hjx = f := ⟨_, rfl⟩
     rw [hF] at hza hzb; rw [← htk] at hza hzb; have za0 : wr.cell? ⟨ga, kk.toNat * 9, none⟩ = some (.int .i64 gk) := hza 0 _ (by decide) rfl; have za1 : wr.cell? ⟨ga, kk.toNat * 9 + 1, none⟩ = some (.int .i64 gf) := hza 1 _ (by decide) rfl; have za2 : wr.cell? ⟨ga, kk.toNat * 9 + 2, none⟩ = some (.int .i64 gt) := hza 2 _ (by decide) rfl; have za3 : wr.cell? ⟨ga, kk.toNat * 9 + 3, none⟩ = some (.int .i64 gn) := hza 3 _ (by decide) rfl; have za4 : wr.cell? ⟨ga, kk.toNat * 9 + 4, none⟩ = some (.int .i64 gs) := hza 4 _ (by decide) rfl; have za5 : wr.cell? ⟨ga, kk.toNat * 9 + 5, none⟩ = some (.int .i64 gr) := hza 5 _ (by decide) rfl; have za6 : wr.cell? ⟨ga, kk.toNat * 9 + 6, none⟩ = some (.int .i64 gp) := hza 6 _ (by decide) rfl; have za7 : wr.cell? ⟨ga, kk.toNat * 9 + 7, none⟩ = some (.int .i64 go) := hza 7 _ (by decide) rfl; have za8 : wr.cell? ⟨ga, kk.toNat * 9 + 8, none⟩ = some (.int .i64 gc) := hza 8 _ (by decide) rfl
     have zb0 : wr.cell? ⟨gb, kk.toNat * 9, none⟩ = some (.int .i64 gk) := hzb 0 _ (by decide) rfl; have zb1 : wr.cell? ⟨gb, kk.toNat * 9 + 1, none⟩ = some (.int .i64 gf) := hzb 1 _ (by decide) rfl; have zb2 : wr.cell? ⟨gb, kk.toNat * 9 + 2, none⟩ = some (.int .i64 gt) := hzb 2 _ (by decide) rfl; have zb3 : wr.cell? ⟨gb, kk.toNat * 9 + 3, none⟩ = some (.int .i64 gn) := hzb 3 _ (by decide) rfl; have zb4 : wr.cell? ⟨gb, kk.toNat * 9 + 4, none⟩ = some (.int .i64 gs) := hzb 4 _ (by decide) rfl; have zb5 : wr.cell? ⟨gb, kk.toNat * 9 + 5, none⟩ = some (.int .i64 gr) := hzb 5 _ (by decide) rfl; have zb6 : wr.cell? ⟨gb, kk.toNat * 9 + 6, none⟩ = some (.int .i64 gp) := hzb 6 _ (by decide) rfl; have zb7 : wr.cell? ⟨gb, kk.toNat * 9 + 7, none⟩ = some (.int .i64 go) := hzb 7 _ (by decide) rfl; have zb8 : wr.cell? ⟨gb, kk.toNat * 9 + 8, none⟩ = some (.int .i64 gc) := hzb 8 _ (by decide) rfl; have heq : ∀ w, (binOp .neq 26 (.agg #[gk, gf, gt, gn, gs, gr, gp, go, gc]) (.agg #[gk, gf, gt, gn, gs, gr, gp, go, gc])).run Tryz.prog w = .ok (.bool false) w := fun w => by
      have := msg_neq (⟨gk, gf, gt, gn, gs, gr, gp, go, gc⟩ : MM) (⟨gk, gf, gt, gn, gs, gr, gp, go, gc⟩ : MM) w; rw [dT rfl] at this; exact this
     have heg := fun op x y (w : World) => msg_guard op x y (⟨gk, gf, gt, gn, gs, gr, gp, go, gc⟩ : MM) (⟨gk, gf, gt, gn, gs, gr, gp, go, gc⟩ : MM) w
     dsimp only [MM.cells] at heg; have SA := hD (show wr.cell? ⟨w.heap.size, 1, none⟩ = some (.slice (some ⟨ga, 0, none⟩) k ad) by rw [← eva]; exact (cellsR3 r0).2.1); have SB := hD (show wr.cell? ⟨w.heap.size + 1, 1, none⟩ = some (.slice (some ⟨gb, 0, none⟩) k bd) by rw [← evb]; exact (cellsR3 r1).2.1); obtain ⟨ZA0, ZB0, ZA1, ZB1, ZA2, ZB2, ZA3, ZB3⟩ := hD8 za0 zb0 za1 zb1 za2 zb2 za3 zb3; obtain ⟨ZA4, ZB4, ZA5, ZB5, ZA6, ZB6, ZA7, ZB7⟩ := hD8 za4 zb4 za5 zb5 za6 zb6 za7 zb7; obtain ⟨ZA8, ZB8⟩ := hD2 za8 zb8; clear za0 zb0 za1 zb1 za2 zb2 za3 zb3 za4 zb4 za5 zb5 za6 zb6 za7 zb7 za8 zb8; clear hkk hj hlt r0 r1 hk htk hjx hca hcb hza hzb eva evb hF; go_wp2_with fail
     obtain ⟨WD, hWD⟩ : ∃ x, wr.drew = x := ⟨_, rfl⟩
     have kD : Kp wr WD := by rw [← hWD]; exact dQ (Kp.refl _)
     have HWD := hD hWD; clear hWD; refine rgW (fun w' => Kp wr w') ?_ fun hH => ?_
     ·exact by rw [HWD.out]; exact kD
     rw [HWD.out] at hH ⊢; refine tkP 0 ?_
     go_simp; refine tkP 1 ?_ (y := by intro w hZ; have g0 := kZ hZ SA.out; go_simp; try rfl)
     go_simp; refine tkP 2 ?_
     go_simp; refine tkP 3 ?_
     go_simp; refine tkP 4 ?_ (y := by intro w hZ; have g0 := kZ hZ ZA0.out; have g1 := kZ hZ ZA1.out; have g2 := kZ hZ ZA2.out; have g3 := kZ hZ ZA3.out; have g4 := kZ hZ ZA4.out; have g5 := kZ hZ ZA5.out; have g6 := kZ hZ ZA6.out; have g7 := kZ hZ ZA7.out; have g8 := kZ hZ ZA8.out; go_simp; try rfl)
     go_simp; refine tkP 5 ?_
     go_simp; refine tkP 6 ?_ (y := by intro w hZ; have g0 := kZ hZ SB.out; go_simp; try rfl)
     go_simp; refine tkP 7 ?_
     go_simp; refine tkP 8 ?_
     go_simp; refine tkP 9 ?_ (y := by intro w hZ; have g0 := kZ hZ ZB0.out; have g1 := kZ hZ ZB1.out; have g2 := kZ hZ ZB2.out; have g3 := kZ hZ ZB3.out; have g4 := kZ hZ ZB4.out; have g5 := kZ hZ ZB5.out; have g6 := kZ hZ ZB6.out; have g7 := kZ hZ ZB7.out; have g8 := kZ hZ ZB8.out; go_simp; try rfl)
     go_simp; refine tkP 10 ?_
     go_simp; refine dnW ?_ _
     have KZ := hD (show Kp wr _ from hH); clear hH; go_wp2; go_roundw
     case rel => exact ⟨j + 1, by have := HLT.out; omega, by have := HKJ.out; first | rw [show ((j + 1 : Nat) : Int) = kk + 1 by omega] | rw [show ((j + 1 : Nat) : Int) = kk + 1 by omega, hw1], rZ KZ.out RA.out, rZ KZ.out RB.out, kT KR.out KZ.out⟩
     case measure => have := HKJ.out; have := HLT.out; simp [intOf]; omega
    ·have hje : ¬ kk < KK := by have := HKK'.out; omega
     clear hkk hj hlt r0 r1 hk; go_wp2; go_ret; exact ⟨rfl, KR.out⟩
def alL : List FX := [(⟨6, 0, 0, 0, 0, 0, 1, 0, 0, 0, 0, 0, 0, 0⟩ : FX), (⟨7, 0, 0, 0, 0, 0, 0, 0, 0, 0, 0, 0, 0, 0⟩ : FX), (⟨8, 0, 0, 0, 0, 0, 0, 0, 0, 0, 5, 0, 0, 0⟩ : FX)]
theorem alL_wf : ∀ f ∈ alL, f.wf := by
 intro f hf; simp only [alL, List.mem_cons, List.not_mem_nil, or_false] at hf
 rcases hf with rfl | rfl | rfl <;> (unfold FX.wf; decide)
theorem alL_tell : (tellP (bldM (newSt 1) alL) (⟨9, 0, 1, 0, 0, 0, 0, 0, 0⟩ : MM)).facts = [fxTurned 0 6 0] ∧ (tellP (bldM (newSt 1) alL) (⟨9, 0, 1, 0, 0, 0, 0, 0, 0⟩ : MM)).send = [] ∧ (tellP (bldM (newSt 1) alL) (⟨9, 0, 1, 0, 0, 0, 0, 0, 0⟩ : MM)).work = 9 := by decide +kernel
theorem own_alL (B : Nat) (hb : B ≤ w.heap.size) : (w.alloc (.cells #[.int .i64 6, .int .i64 0, .int .i64 0, .int .i64 0, .int .i64 0, .int .i64 0, .int .i64 1, .int .i64 0, .int .i64 0, .int .i64 0, .int .i64 0, .int .i64 0, .int .i64 0, .float .f64 0, .int .i64 7, .int .i64 0, .int .i64 0, .int .i64 0, .int .i64 0, .int .i64 0, .int .i64 0, .int .i64 0, .int .i64 0, .int .i64 0, .int .i64 0, .int .i64 0, .int .i64 0, .float .f64 0, .int .i64 8, .int .i64 0, .int .i64 0, .int .i64 0, .int .i64 0, .int .i64 0, .int .i64 0, .int .i64 0, .int .i64 0, .int .i64 0, .int .i64 5, .int .i64 0, .int .i64 0, .float .f64 0] 73)).ownsRow B 73 14 (.slice (some ⟨w.heap.size, 0, none⟩) 3 3) 3 (fcE.row alL) := by
 have := World.ownsRow_lit (base := B) (e := 73) (size := 14) w #[.int .i64 6, .int .i64 0, .int .i64 0, .int .i64 0, .int .i64 0, .int .i64 0, .int .i64 1, .int .i64 0, .int .i64 0, .int .i64 0, .int .i64 0, .int .i64 0, .int .i64 0, .float .f64 0, .int .i64 7, .int .i64 0, .int .i64 0, .int .i64 0, .int .i64 0, .int .i64 0, .int .i64 0, .int .i64 0, .int .i64 0, .int .i64 0, .int .i64 0, .int .i64 0, .int .i64 0, .float .f64 0, .int .i64 8, .int .i64 0, .int .i64 0, .int .i64 0, .int .i64 0, .int .i64 0, .int .i64 0, .int .i64 0, .int .i64 0, .int .i64 0, .int .i64 5, .int .i64 0, .int .i64 0, .float .f64 0] 3 hb (by decide) rfl; rw [show fcE.row alL = (#[.int .i64 6, .int .i64 0, .int .i64 0, .int .i64 0, .int .i64 0, .int .i64 0, .int .i64 1, .int .i64 0, .int .i64 0, .int .i64 0, .int .i64 0, .int .i64 0, .int .i64 0, .float .f64 0, .int .i64 7, .int .i64 0, .int .i64 0, .int .i64 0, .int .i64 0, .int .i64 0, .int .i64 0, .int .i64 0, .int .i64 0, .int .i64 0, .int .i64 0, .int .i64 0, .int .i64 0, .float .f64 0, .int .i64 8, .int .i64 0, .int .i64 0, .int .i64 0, .int .i64 0, .int .i64 0, .int .i64 0, .int .i64 0, .int .i64 0, .int .i64 0, .int .i64 5, .int .i64 0, .int .i64 0, .float .f64 0]).toList by unfold EncG.row alL; simp [fcE, FX.cells]]
 exact this
theorem alive16_any (C : FacC ads w) (E : EP [0, 3, 4, 8, 13] ads w) (P : ParC ads w) : Calls Tryz.prog 8 #[] w fun r w' => r = .returned (.bool true) ∧ Kp w w' := by
 have kA := kA w (.cells #[.int .i64 6, .int .i64 0, .int .i64 0, .int .i64 0, .int .i64 0, .int .i64 0, .int .i64 1, .int .i64 0, .int .i64 0, .int .i64 0, .int .i64 0, .int .i64 0, .int .i64 0, .float .f64 0, .int .i64 7, .int .i64 0, .int .i64 0, .int .i64 0, .int .i64 0, .int .i64 0, .int .i64 0, .int .i64 0, .int .i64 0, .int .i64 0, .int .i64 0, .int .i64 0, .int .i64 0, .float .f64 0, .int .i64 8, .int .i64 0, .int .i64 0, .int .i64 0, .int .i64 0, .int .i64 0, .int .i64 0, .int .i64 0, .int .i64 0, .int .i64 0, .int .i64 5, .int .i64 0, .int .i64 0, .float .f64 0] 73); have hbu := built_any (C.kp kA) (E.kp kA) 1 _ alL (by unfold inN; omega) (by decide) (own_slfc (own_alL (w := w) w.heap.size (Nat.le_refl _)) rfl alL_wf); have hte := fun w1 (hk : Kp w w1) B q (h : SL B q (bldM (newSt 1) alL) w1) => (P.tell w1 hk B q _ h (bld_ok _ (newSt_ok (by omega))) (⟨9, 0, 1, 0, 0, 0, 0, 0, 0⟩ : MM)).mono (R' := fun r w' => ∃ fa fc ma mc, r = .returned (.agg #[.slice fa 1 fc, .slice ma 0 mc, (9:Int)]) ∧ w'.ownsRow w1.heap.size 73 14 (.slice fa 1 fc) 1 (fcE.row [fxTurned 0 6 0]) ∧ Kp w1 w') (by
  obtain ⟨h1, h2, h3⟩ := alL_tell; rintro e w2 ⟨v, rfl, h, hk⟩; obtain ⟨fa, fc, ma, mc, rfl, h4, h5⟩ := RsV.form (lf := 1) (lm := 0) h (by rw [h1]; rfl) (by rw [h2]; rfl); rw [h1] at h4; rw [h3]; exact ⟨fa, fc, ma, mc, rfl, h4, hk⟩)
 dsimp only [MM.cells] at hte; obtain ⟨HBU, HTE, K0⟩ := hD3 hbu hte kA; have hsf := sF; clear C E P kA hbu hte; go_enter Tryz.func8, Tryz.ntmps8; go_wp2_with (first | (go_at_call 9; (with_reducible refine HBU.out.mono ?_); rintro e' w1 ⟨q, q', rfl, hsl, _, hk1⟩; have S1 := hD hsl; have K1 := hD (kT K0.out hk1); clear hsl hk1) | (go_at_call 10; (with_reducible refine (HTE.out _ K1.out _ _ S1.out).mono ?_); rintro e' w2 ⟨fa, fc, ma, mc, rfl, hof, hk2⟩; have kz := kT hk2 (kA w2 (.cells #[.slice fa 1 fc, .slice ma 0 mc, (9:Int)] 34)); have K2 := hD (kT K1.out kz); obtain ⟨r0, r1, r2⟩ := cellsR3 (mH w2 (.cells #[.slice fa 1 fc, .slice ma 0 mc, (9:Int)] 34)); obtain ⟨gp, ck, ev, _, _, _, _, hc0⟩ := cQ (E := fcE) (n := 1) (oK hof (kA w2 (.cells #[.slice fa 1 fc, .slice ma 0 mc, (9:Int)] 34))) rfl (by omega : 0 < 1); have ev := congrArg (fun v => match v with | Value.slice a _ _ => a | _ => none) ev; dsimp only at ev; subst ev; have x10 : (w2.alloc (.cells #[.slice (some ⟨gp, 0, none⟩) 1 fc, .slice ma 0 mc, (9:Int)] 34)).cell? ⟨gp, 10, none⟩ = some (.int .i64 6) := hc0 10 _ (by decide) rfl; clear hc0 hof hk2 kz))
 go_ret; exact ⟨rfl, K2.out⟩
end Go.Proofs.YtncoofnhifcnhaaGreatDoor
