/- Parts of this proof (own work). -/
import Derived.Test.YtncoofnhifcnhaaGreatDoorZb35
set_option maxRecDepth 100000
set_option maxHeartbeats 40000000
namespace Go.Proofs.YtncoofnhifcnhaaGreatDoor
open Go.RowKit Go.ChangeShapes Go.WideShapes
variable {w0 w w' W w3 : World} {B q : Nat} {m : StM} {ads : List Addr}
theorem run_take {m m2 : StM} {fs : List FX} (h : runS m fs = some m2) (j : Nat) : ∃ mj, runS m (fs.take j) = some mj := by
 have e := runS_app (fs.take j) (fs.drop j) m; rw [List.take_append_drop, h] at e
 cases g : runS m (fs.take j) with
 | none => rw [g] at e; cases e
 | some mj => exact ⟨mj, rfl⟩
theorem run_step {m m2 mj : StM} {fs : List FX} (h : runS m fs = some m2) (j : Nat) (hj : j < fs.length) (h1 : runS m (fs.take j) = some mj) : ∃ mk, applyQ mj (fs[j]'hj) = (0, mk) ∧ runS m (fs.take (j + 1)) = some mk := by
 obtain ⟨mk, hk⟩ := run_take h (j + 1); have e := runS_app (fs.take j) [fs[j]'hj] m; rw [← List.take_succ_eq_append_getElem hj, h1, hk] at e; have e : some mk = stepS mj (fs[j]'hj) := by rw [← run_one]; exact e
 refine ⟨mk, ?_, hk⟩
 unfold stepS at e
 split at e
 ·exact aS (by assumption) e.symm
 ·cases e
def FitR (B : Nat) (w wr : World) : Prop := (∀ B' q' m', SD B' q' m' w → SD B' q' m' wr) ∧ (∀ (b : Nat) (cs : Array Value) (t : TypeId), OffL t → w.heap[b]? = some (.cells cs t (0, 0)) → wr.heap[b]? = some (.cells cs t (0, 0))) ∧ (∀ w0, Kp w0 w → w0.heap.size ≤ B → Kp w0 wr)
theorem FitR.refl (B : Nat) (w : World) : FitR B w w := ⟨fun _ _ _ h => h, fun _ _ _ _ h => h, fun _ h _ => h⟩
theorem own_fit {B1 k n : Nat} {t : TypeId} {v : Value} {xs : List Value} (h : w.ownsRow B1 t k v n xs) (ht : OffL t) (hw : ∀ (b : Nat) (cs : Array Value) (t : TypeId), OffL t → w.heap[b]? = some (.cells cs t (0, 0)) → w'.heap[b]? = some (.cells cs t (0, 0))) : w'.ownsRow B1 t k v n xs :=
 sG h fun b e => by
  obtain ⟨c, hc⟩ := own_kindQ h b e; rw [hw b c t ht hc, hc]
theorem fit_any (hB : ∃ w0, Kp w0 w ∧ w0.heap.size ≤ B ∧ FacC ads w0 ∧ EP [0, 3, 4, 8, 13] ads w0) (h : SL B q m w) (ok : OkS m) (lst : List FX) (a : Option Addr) (n c : Nat) {B1 : Nat} (hn : lst.length = n) (h60 : n ≤ 60) (ho : w.ownsRow B1 73 14 (.slice a n c) n (fcE.row lst)) (hwf : ∀ f ∈ lst, f.wf) (m2 : StM) (hrun : runS m lst = some m2) : Calls Tryz.prog 16 #[.pointer (some ⟨q, 0, none⟩), .slice a n c] w fun r w' => r = .returned (.bool true) ∧ SL B q m2 w' ∧ OkS m2 ∧ FitR B w w' := by
 obtain ⟨N, hN⟩ : ∃ N : Int, (n : Int) = N := ⟨_, rfl⟩
 obtain ⟨w0, hk0, hb0, C0, E0⟩ := hB; have HC := hD (fun w1 (hk : FitR B w w1) => C0.kp (hk.2.2 w0 hk0 hb0)); have HE := hD (fun w1 (hk : FitR B w w1) => E0.kp (hk.2.2 w0 hk0 hb0)); obtain ⟨HN, HO, HNN, HW, HL, HRUN, HSL, HOK⟩ := hD8 hn ho hN hwf h60 hrun h ok; have hsf := sF; clear C0 E0 hk0 hb0 h ok hn ho hwf hrun h60; go_enter Tryz.func16, Tryz.ntmps16; go_wp2; go_loopw [9] (fun i wr => ∃ (j : Nat) (mj : StM), j ≤ n ∧ i = .int .i64 j ∧ runS m (lst.take j) = some mj ∧ OkS mj ∧ SL B q mj wr ∧ wr.ownsRow B1 73 14 (.slice a n c) n (fcE.row lst) ∧ FitR B w wr) (fun i _ => n - (intOf i).toNat)
 case atStart => exact ⟨0, m, Nat.zero_le _, rfl, rfl, HOK.out, HSL.out, HO.out, FitR.refl B w⟩
 case round =>
  obtain ⟨j, mj, hj, rfl, hm, hok, hsl, ho, hf⟩ := hrel; obtain ⟨kk, hkk⟩ : ∃ x : Int, (j : Int) = x := ⟨_, rfl⟩
  rw [hkk]; have HKK := hD hkk; have FR' := hD hf
  by_cases hlt : j < n
  ·have hjl : kk < N := by have := HNN.out; omega
   have hk0 : 0 ≤ kk := by omega
   have htk : kk.toNat = j := by omega
   have hN8 : N ≤ 60 := by have := HNN.out; have := HL.out; omega
   have hw1 : wrap64 (kk + 1) = kk + 1 := IntWalk.wrap64_in _ (by omega); have HLT := hD hlt; have hjx : j < lst.length := by have := HN.out; omega
   obtain ⟨mk, hap0, hrk⟩ := run_step HRUN.out j hjx hm; have hwfj := HW.out _ (List.getElem_mem hjx); obtain ⟨gp, ck, ev, hck, _, _, _, hc0⟩ := cQ (E := fcE) ho HN.out hlt; have hc : ∀ (i : Nat) (u : Value), i < 14 → (fcE.enc (lst[j]'hjx))[i]? = some u → wr.cell? ⟨gp, j * 14 + i, none⟩ = some u := hc0; have ea := congrArg (fun v => match v with | Value.slice a _ _ => a | _ => none) ev; dsimp only at ea; subst ea; obtain ⟨⟨fk, fn, fs, fr, fe, fp, fq, fo, fd, fa, ft, fh, fc, fx⟩, hF⟩ : ∃ f, lst[j]'hjx = f := ⟨_, rfl⟩
   rw [hF] at hwfj hap0 hc; rw [← htk] at hc; obtain ⟨zf0, zf1, zf2, zf3, zf4, zf5, zf6, zf7, zf8, zf9, zf10, zf11, zf12, zf13⟩ := cW14 hc; have kb := kA wr (.cells #[fk, fn, fs, fr, fe, fp, fq, fo, fd, fa, ft, fh, fc, fx] 73); obtain ⟨u0, u1, u2, u3, u4, u5, u6, u7, u8, u9, u10, u11, u12, u13⟩ := cZ (mH wr (.cells #[fk, fn, fs, fr, fe, fp, fq, fo, fd, fa, ft, fh, fc, fx] 73)); have hap := SL.apply ((HC.out wr hf).kp kb) ((HE.out wr hf).kp kb) (hsl.kp kb) hok (⟨fk, fn, fs, fr, fe, fp, fq, fo, fd, fa, ft, fh, fc, fx⟩ : FX) hwfj; rw [hap0] at hap; dsimp only [FX.cells] at hap; rw [eN] at hap; have hokk : OkS mk := by have := applyQ_ok (f := (⟨fk, fn, fs, fr, fe, fp, fq, fo, fd, fa, ft, fh, fc, fx⟩ : FX)) hok; rw [hap0] at this; exact this
   obtain ⟨HAP, HRK, HOKK, OR, KB⟩ := hD5 hap hrk hokk ho kb; clear hkk hj hlt hm hok hsl ho hf htk hjx hck ev hc hc0 hF hwfj hap0 hrk hap hokk kb; go_wp2_with (go_at_call 27; (with_reducible refine HAP.out.mono ?_); rintro e' w5 ⟨rfl, s5, d5, x5, k5⟩; have S5 := hD s5; have O5 := hD (own_fit (oK OR.out KB.out) offL_fct x5); have F5 := hD (show FitR B w w5 from ⟨fun B' q' m' h => d5 _ _ _ ((FR'.out.1 B' q' m' h).kp KB.out), fun b cs t ht h => x5 b cs t ht (rZ KB.out (FR'.out.2.1 b cs t ht h)), fun w0 h hb => k5 w0 (kT (FR'.out.2.2 w0 h hb) KB.out) hb⟩); clear s5 d5 x5 k5)
   go_roundw
   case rel => exact ⟨j + 1, mk, by have := HLT.out; omega, by have := HKK.out; first | rw [show ((j + 1 : Nat) : Int) = kk + 1 by omega] | rw [show ((j + 1 : Nat) : Int) = kk + 1 by omega, hw1], HRK.out, HOKK.out, S5.out, O5.out, F5.out⟩
   case measure => have := HKK.out; have := HLT.out; simp [intOf]; omega
  ·have hje : ¬ kk < N := by have := HNN.out; omega
   have hmm : mj = m2 := by rw [List.take_of_length_le (by have := HN.out; omega), HRUN.out] at hm; exact (Option.some.inj hm).symm
   subst hmm; obtain ⟨SF, OKF⟩ := hD2 hsl hok; clear hkk hj hlt hm hok hsl ho hf; go_wp2; go_ret; exact ⟨rfl, SF.out, OKF.out, FR'.out⟩
def alL : List FX := [(⟨6, 0, 0, 0, 0, 0, 1, 0, 0, 0, 0, 0, 0, 0⟩ : FX), (⟨7, 0, 0, 0, 0, 0, 0, 0, 0, 0, 0, 0, 0, 0⟩ : FX), (⟨8, 0, 0, 0, 0, 0, 0, 0, 0, 0, 5, 0, 0, 0⟩ : FX)]
theorem alL_wf : ∀ f ∈ alL, f.wf := by
 intro f hf; simp only [alL, List.mem_cons, List.not_mem_nil, or_false] at hf
 rcases hf with rfl | rfl | rfl <;> (unfold FX.wf; decide)
theorem alL_tell : (tellP (bldM (newSt 1) alL) (⟨9, 0, 1, 0, 0, 0, 0, 0, 0⟩ : MM)).facts = [fxTurned 0 6 0] ∧ (tellP (bldM (newSt 1) alL) (⟨9, 0, 1, 0, 0, 0, 0, 0, 0⟩ : MM)).send = [] ∧ (tellP (bldM (newSt 1) alL) (⟨9, 0, 1, 0, 0, 0, 0, 0, 0⟩ : MM)).work = 9 := by decide +kernel
theorem own_alL (B : Nat) (hb : B ≤ w.heap.size) : (w.alloc (.cells #[.int .i64 6, .int .i64 0, .int .i64 0, .int .i64 0, .int .i64 0, .int .i64 0, .int .i64 1, .int .i64 0, .int .i64 0, .int .i64 0, .int .i64 0, .int .i64 0, .int .i64 0, .float .f64 0, .int .i64 7, .int .i64 0, .int .i64 0, .int .i64 0, .int .i64 0, .int .i64 0, .int .i64 0, .int .i64 0, .int .i64 0, .int .i64 0, .int .i64 0, .int .i64 0, .int .i64 0, .float .f64 0, .int .i64 8, .int .i64 0, .int .i64 0, .int .i64 0, .int .i64 0, .int .i64 0, .int .i64 0, .int .i64 0, .int .i64 0, .int .i64 0, .int .i64 5, .int .i64 0, .int .i64 0, .float .f64 0] 73)).ownsRow B 73 14 (.slice (some ⟨w.heap.size, 0, none⟩) 3 3) 3 (fcE.row alL) := by
 have := World.ownsRow_lit (base := B) (e := 73) (size := 14) w #[.int .i64 6, .int .i64 0, .int .i64 0, .int .i64 0, .int .i64 0, .int .i64 0, .int .i64 1, .int .i64 0, .int .i64 0, .int .i64 0, .int .i64 0, .int .i64 0, .int .i64 0, .float .f64 0, .int .i64 7, .int .i64 0, .int .i64 0, .int .i64 0, .int .i64 0, .int .i64 0, .int .i64 0, .int .i64 0, .int .i64 0, .int .i64 0, .int .i64 0, .int .i64 0, .int .i64 0, .float .f64 0, .int .i64 8, .int .i64 0, .int .i64 0, .int .i64 0, .int .i64 0, .int .i64 0, .int .i64 0, .int .i64 0, .int .i64 0, .int .i64 0, .int .i64 5, .int .i64 0, .int .i64 0, .float .f64 0] 3 hb (by decide) rfl; rw [show fcE.row alL = (#[.int .i64 6, .int .i64 0, .int .i64 0, .int .i64 0, .int .i64 0, .int .i64 0, .int .i64 1, .int .i64 0, .int .i64 0, .int .i64 0, .int .i64 0, .int .i64 0, .int .i64 0, .float .f64 0, .int .i64 7, .int .i64 0, .int .i64 0, .int .i64 0, .int .i64 0, .int .i64 0, .int .i64 0, .int .i64 0, .int .i64 0, .int .i64 0, .int .i64 0, .int .i64 0, .int .i64 0, .float .f64 0, .int .i64 8, .int .i64 0, .int .i64 0, .int .i64 0, .int .i64 0, .int .i64 0, .int .i64 0, .int .i64 0, .int .i64 0, .int .i64 0, .int .i64 5, .int .i64 0, .int .i64 0, .float .f64 0]).toList by unfold EncG.row alL; simp [fcE, FX.cells]]
 exact this
theorem alive16_any (C : FacC ads w) (E : EP [0, 3, 4, 8, 13] ads w) (P : ParC ads w) : Calls Tryz.prog 8 #[] w fun r w' => r = .returned (.bool true) ∧ Kp w w' := by
 have kA := kA w (.cells #[.int .i64 6, .int .i64 0, .int .i64 0, .int .i64 0, .int .i64 0, .int .i64 0, .int .i64 1, .int .i64 0, .int .i64 0, .int .i64 0, .int .i64 0, .int .i64 0, .int .i64 0, .float .f64 0, .int .i64 7, .int .i64 0, .int .i64 0, .int .i64 0, .int .i64 0, .int .i64 0, .int .i64 0, .int .i64 0, .int .i64 0, .int .i64 0, .int .i64 0, .int .i64 0, .int .i64 0, .float .f64 0, .int .i64 8, .int .i64 0, .int .i64 0, .int .i64 0, .int .i64 0, .int .i64 0, .int .i64 0, .int .i64 0, .int .i64 0, .int .i64 0, .int .i64 5, .int .i64 0, .int .i64 0, .float .f64 0] 73); have hbu := built_any (C.kp kA) (E.kp kA) 1 _ alL (by unfold inN; omega) (by decide) (own_slfc (own_alL (w := w) w.heap.size (Nat.le_refl _)) rfl alL_wf); have hte := fun w1 (hk : Kp w w1) B q (h : SL B q (bldM (newSt 1) alL) w1) => (P.tell w1 hk B q _ h (bld_ok _ (newSt_ok (by omega))) (⟨9, 0, 1, 0, 0, 0, 0, 0, 0⟩ : MM)).mono (R' := fun r w' => ∃ fa fc ma mc, r = .returned (.agg #[.slice fa 1 fc, .slice ma 0 mc, (9:Int)]) ∧ w'.ownsRow w1.heap.size 73 14 (.slice fa 1 fc) 1 (fcE.row [fxTurned 0 6 0]) ∧ Kp w1 w') (by
  obtain ⟨h1, h2, h3⟩ := alL_tell; rintro e w2 ⟨v, rfl, h, hk⟩; obtain ⟨fa, fc, ma, mc, rfl, h4, h5⟩ := RsV.form (lf := 1) (lm := 0) h (by rw [h1]; rfl) (by rw [h2]; rfl); rw [h1] at h4; rw [h3]; exact ⟨fa, fc, ma, mc, rfl, h4, hk⟩)
 dsimp only [MM.cells] at hte; obtain ⟨HBU, HTE, K0⟩ := hD3 hbu hte kA; have hsf := sF; clear C E P kA hbu hte; go_enter Tryz.func8, Tryz.ntmps8; go_wp2_with (first | (go_at_call 9; (with_reducible refine HBU.out.mono ?_); rintro e' w1 ⟨q, q', rfl, hsl, _, hk1⟩; have S1 := hD hsl; have K1 := hD (kT K0.out hk1); clear hsl hk1) | (go_at_call 10; (with_reducible refine (HTE.out _ K1.out _ _ S1.out).mono ?_); rintro e' w2 ⟨fa, fc, ma, mc, rfl, hof, hk2⟩; have kz := kT hk2 (kA w2 (.cells #[.slice fa 1 fc, .slice ma 0 mc, (9:Int)] 34)); have K2 := hD (kT K1.out kz); obtain ⟨r0, r1, r2⟩ := cellsR3 (mH w2 (.cells #[.slice fa 1 fc, .slice ma 0 mc, (9:Int)] 34)); obtain ⟨gp, ck, ev, _, _, _, _, hc0⟩ := cQ (E := fcE) (n := 1) (oK hof (kA w2 (.cells #[.slice fa 1 fc, .slice ma 0 mc, (9:Int)] 34))) rfl (by omega : 0 < 1); have ev := congrArg (fun v => match v with | Value.slice a _ _ => a | _ => none) ev; dsimp only at ev; subst ev; have x10 : (w2.alloc (.cells #[.slice (some ⟨gp, 0, none⟩) 1 fc, .slice ma 0 mc, (9:Int)] 34)).cell? ⟨gp, 10, none⟩ = some (.int .i64 6) := hc0 10 _ (by decide) rfl; clear hc0 hof hk2 kz))
 go_ret; exact ⟨rfl, K2.out⟩
open Go.RowKit
theorem fits_of {m : StM} {g : MM} {x : PaM} (h : prtP m g.p = some x) (h1 : x.n = g.n) (h2 : x.s = g.s) (h3 : g.f = g.n) (h4 : g.t = m.node) (h5 : x.reg < 0 ∨ x.reg = g.r) : fitsP m g = some x := by
 unfold fitsP; rw [h]; dsimp only; rw [if_pos ⟨h1, h2, h3, h4, h5⟩]
theorem place_then {m m2 : StM} {g : MM} {x : PaM} (ok : OkS m) (hr : 0 ≤ g.r ∧ g.r ≤ 5) (hx : fitsP m g = some x) (h : runS m (placeP x g) = some m2) : OkS m2 ∧ m2.node = m.node ∧ ∃ x2, fitsP m2 g = some x2 ∧ prtP m2 g.p = some x2 ∧ 0 ≤ x2.reg ∧ x2.z = x.z := by
 obtain ⟨h1, a, b, c, d, e⟩ := fits_some hx; unfold placeP at h
 split at h
 ·rename_i hn
  have hs := step_pla ok h1 hn hr; rw [run_one] at h; have hs2 := hs; rw [h] at hs; obtain rfl := Option.some.inj hs; refine ⟨?_, rfl, { x with reg := g.r }, fits_of (prt_set h1) a b c d (.inr rfl), prt_set h1, hr.1, rfl⟩
  unfold stepS at hs2
  split at hs2
  ·exact keepS ok (by assumption) hs2
  ·cases hs2
 ·obtain rfl := Option.some.inj h; exact ⟨ok, rfl, x, hx, h1, by omega, rfl⟩
theorem place_no {x : PaM} {g : MM} (h : 0 ≤ x.reg) : placeP x g = [] := by unfold placeP; rw [if_neg (by omega)]
theorem tell_twice {m m2 : StM} (ok : OkS m) (g : MM) (hr : 0 ≤ g.r ∧ g.r ≤ 5) (h : runS m (tellP m g).facts = some m2) : (tellP m2 g).facts = [] ∧ (tellP m2 g).work = 0 ∧ (tellP m2 g).send.length ≤ 1 := by
 by_cases k18 : g.k = 18
 ·have e : ∀ m', tellP m' g = match fitsP m' g with | some x => ⟨placeP x g, [], 0⟩ | none => rs0 := fun m' => by unfold tellP; rw [if_pos k18]; cases fitsP m' g <;> rfl
  rw [e] at h ⊢
  cases hx : fitsP m g with
  | none =>
   rw [hx] at h; obtain rfl := Option.some.inj h; rw [hx]; exact ⟨rfl, rfl, Nat.zero_le _⟩
  | some x =>
   rw [hx] at h; obtain ⟨_, _, x2, hx2, _, h0, _⟩ := place_then ok hr hx h; rw [hx2]; exact ⟨place_no h0, rfl, Nat.zero_le _⟩
 by_cases k19 : g.k = 19
 ·have e : ∀ m', tellP m' g = match fitsP m' g with | some x => (if x.reg < 0 ∧ x.z.s = 1 ∧ (g.c = 2 ∨ g.c = 4 ∨ g.c = 5) then ⟨[fxTurned g.p 14 1], [], 0⟩ else rs0) | none => rs0 := fun m' => by unfold tellP; rw [if_neg k18, if_pos k19]; cases fitsP m' g <;> rfl
  rw [e] at h ⊢
  cases hx : fitsP m g with
  | none =>
   rw [hx] at h; obtain rfl := Option.some.inj h; rw [hx]; exact ⟨rfl, rfl, Nat.zero_le _⟩
  | some x =>
   rw [hx] at h; dsimp only at h
   by_cases hc : x.reg < 0 ∧ x.z.s = 1 ∧ (g.c = 2 ∨ g.c = 4 ∨ g.c = 5)
   ·rw [if_pos hc] at h; obtain ⟨h1, a, b, c, d, f⟩ := fits_some hx; have hz := (prt_le ok h1).2.2.2.2.2; have ht : turnS x.z 14 1 = some ⟨x.z.p, x.z.e, 14, 1⟩ := by
     unfold turnS; rw [if_pos]; refine ⟨by omega, ?_⟩
     have hp := hz.p; have he := hz.2; unfold SeatM.right rightT hasT; dsimp only; rw [he]
     rcases hp with hp | hp <;> rw [hp] <;> decide
    have hs := step_tur ok h1 ht; have h : runS m [fxTurned g.p 14 1] = some m2 := h; rw [run_one, hs] at h; obtain rfl := Option.some.inj h; rw [fits_of (x := { x with z := ⟨x.z.p, x.z.e, 14, 1⟩ }) (prt_set h1) a b c d f]; dsimp only; rw [if_neg (by omega)]; exact ⟨rfl, rfl, Nat.zero_le _⟩
   ·rw [if_neg hc] at h; obtain rfl := Option.some.inj h; rw [hx]; dsimp only; rw [if_neg hc]; exact ⟨rfl, rfl, Nat.zero_le _⟩
 by_cases k15 : g.k = 15
 ·have e : ∀ m', tellP m' g = match fitsP m' g with | some x => ⟨[], [answerM g 16 x.z.s], 0⟩ | none => ⟨[], [answerM g 19 3], 0⟩ := fun m' => by unfold tellP; rw [if_neg k18, if_neg k19, if_pos k15]; cases fitsP m' g <;> rfl
  rw [e]
  cases fitsP m2 g <;> exact ⟨rfl, rfl, Nat.le_refl _⟩
 cases hd : downM g.k with
 | false =>
  have e : ∀ m', tellP m' g = rs0 := fun m' => by unfold tellP; rw [if_neg k18, if_neg k19, if_neg k15, if_pos hd]
  rw [e]; exact ⟨rfl, rfl, Nat.zero_le _⟩
 | true =>
  have e : ∀ m', tellP m' g = match fitsP m' g with | none => ⟨[], [answerM g 19 3], 0⟩ | some x => if (x.z.tell g.k).1 ≠ 0 then ⟨placeP x g, [], 0⟩ else seatP m'.node x g (x.z.tell g.k).2 := fun m' => by unfold tellP; rw [if_neg k18, if_neg k19, if_neg k15, if_neg (by rw [hd]; decide)]; cases fitsP m' g <;> rfl
  rw [e] at h ⊢
  cases hx : fitsP m g with
  | none =>
   rw [hx] at h; obtain rfl := Option.some.inj h; rw [hx]; exact ⟨rfl, rfl, Nat.le_refl _⟩
  | some x =>
   rw [hx] at h; dsimp only at h; obtain ⟨h1, _⟩ := fits_some hx; have hz := (prt_le ok h1).2.2.2.2.2; obtain ⟨t1, t2, t3, t4, t5, _⟩ := told_ok hz (down_in hd); rw [if_neg (by simp [t1])] at h; unfold seatP at h; dsimp only at h; rw [runS_app] at h
   cases hm : runS m (placeP x g) with
   | none => rw [hm] at h; cases h
   | some m3 =>
    rw [hm] at h; have h : runS m3 _ = some m2 := h; obtain ⟨ok3, hn3, x3, hx3, hp3, hr3, hz3⟩ := place_then ok hr hx hm; obtain ⟨_, a, b, c, d, f⟩ := fits_some hx3; have fin : ∀ (x2 : PaM), fitsP m2 g = some x2 → 0 ≤ x2.reg → x2.z = (x.z.tell g.k).2.z → OkZ x2.z 2 → _ := fun x2 hx2 hr2 hz2 hok2 => by
     show (match fitsP m2 g with | none => (⟨[], [answerM g 19 3], 0⟩ : RsM) | some x => if (x.z.tell g.k).1 ≠ 0 then ⟨placeP x g, [], 0⟩ else seatP m2.node x g (x.z.tell g.k).2).facts = [] ∧ (match fitsP m2 g with | none => (⟨[], [answerM g 19 3], 0⟩ : RsM) | some x => if (x.z.tell g.k).1 ≠ 0 then ⟨placeP x g, [], 0⟩ else seatP m2.node x g (x.z.tell g.k).2).work = 0 ∧ (match fitsP m2 g with | none => (⟨[], [answerM g 19 3], 0⟩ : RsM) | some x => if (x.z.tell g.k).1 ≠ 0 then ⟨placeP x g, [], 0⟩ else seatP m2.node x g (x.z.tell g.k).2).send.length ≤ 1
     rw [hx2]; dsimp only; obtain ⟨q1, _, _, _, _, q6⟩ := told_ok hok2 (down_in hd); rw [if_neg (by simp [q1])]; unfold seatP; rw [place_no hr2, hz2, t4, t5]; rw [hz2] at q6; refine ⟨rfl, rfl, ?_⟩
     dsimp only
     rcases q6 with q6 | q6
     ·rw [if_neg (by simp [q6])]
      split <;> simp
     ·rw [if_neg (c := ((x.z.tell g.k).2.z.tell g.k).2.fault ≠ 0) (by simp [q6])]
      split <;> simp
    cases hc : (x.z.tell g.k).2.changed with
    | true =>
     rw [if_pos hc] at h; have ht := t2 hc; have hs := step_tur ok3 hp3 (by rw [hz3]; exact ht); rw [run_one, hs] at h; obtain rfl := Option.some.inj h; have hzz : OkZ (x.z.tell g.k).2.z 2 := by
      unfold turnS at ht
      split at ht
      ·rename_i hq
       have := Option.some.inj ht; rw [← this]; exact ⟨hq.2, hz.2⟩
      ·cases ht
     exact fin { x3 with z := (x.z.tell g.k).2.z } (fits_of (prt_set hp3) a b c d f) hr3 rfl hzz
    | false =>
     rw [if_neg (by rw [hc]; decide)] at h; obtain rfl := Option.some.inj h; obtain ⟨hs1, _⟩ := t3 hc; exact fin x3 hx3 hr3 (by rw [hz3, hs1]) (by rw [hz3]; exact hz)
theorem facts_wf16 {m m2 : StM} {l : List FX} (h : runS m l = some m2) : ∀ f ∈ l, f.wf := fun f hf => right_wf (run_right l m m2 h f hf)
theorem fR0 (x y z : Value) (w : World) : (Instr.field 34 (.agg #[x, y, z]) 0).run Tryz.prog w = .ok x w := by kernel_rfl
theorem fR1 (x y z : Value) (w : World) : (Instr.field 34 (.agg #[x, y, z]) 1).run Tryz.prog w = .ok y w := by kernel_rfl
theorem place_len (x : PaM) (g : MM) : (placeP x g).length ≤ 1 := by unfold placeP; split <;> simp
theorem tell_two (m : StM) (g : MM) : (tellP m g).facts.length ≤ 2 ∧ (tellP m g).send.length ≤ 2 := by
 have hp := fun x => place_len x g
 unfold tellP seatP
 repeat' split
 all_goals (refine ⟨?_, ?_⟩ <;> simp [rs0] <;> (first | exact hp _ | exact Nat.le_trans (hp _) (by decide)))
theorem once16_any (V : St ads w) (C : FacC ads w) (E : EP [0, 3, 4, 8, 13] ads w) (P : ParC ads w) (nd : Int) (v : Value) (lst : List FX) (hs : SlFc v lst w) (gk gf gt gn gs gr gp go gc : Int) : Calls Tryz.prog 6 #[.int .i64 nd, v, .agg #[gk, gf, gt, gn, gs, gr, gp, go, gc]] w fun r w' => r = .returned (.bool true) ∧ Kp w w' := by
 obtain ⟨a, cap, rfl, _⟩ := id hs; obtain ⟨n, hn⟩ : ∃ n, lst.length = n := ⟨_, rfl⟩
 rw [hn] at hs ⊢; have kb := kA w (.cells #[gk, gf, gt, gn, gs, gr, gp, go, gc] 26); have HAL := hD (alive16_any (C.kp kb) (E.kp kb) (P.kp kb)); have KB := hD kb
 by_cases hin : inN nd ∧ n ≤ 60
 rotate_left
 ·have HBN := hD (fun w1 (hk : Kp w w1) => built_no (E.kp hk) nd a n cap (by by_cases h : inN nd; exact .inr (Nat.lt_of_not_le (fun e => hin ⟨h, e⟩)); exact .inl h)); have hsf := sF; clear V C E P hs hn hin kb; go_enter Tryz.func6, Tryz.ntmps6; go_wp2_with (first | (go_at_call 8; (with_reducible refine HAL.out.mono ?_); rintro e' w1 ⟨rfl, hk1⟩; have K1 := hD (kT KB.out hk1); clear hk1) | (go_at_call 9; (with_reducible refine (HBN.out _ K1.out).mono ?_); rintro e' w2 ⟨rfl, hk2⟩; have K2 := hD (kT K1.out hk2); clear hk2))
  go_ret; exact ⟨rfl, K2.out⟩
 obtain ⟨hin, h60⟩ := hin; have HBU := hD (fun w1 (hk : Kp w w1) => by have := built_any (C.kp hk) (E.kp hk) nd _ lst hin (by omega) (by rw [← hn] at hs; exact hs.kp hk); rw [hn] at this; exact this); have HOK := hD (bld_ok lst (newSt_ok hin)); obtain ⟨m, hm⟩ : ∃ m, bldM (newSt nd) lst = m := ⟨_, rfl⟩
 have hnd : m.node = nd := by rw [← hm]; exact bld_node lst (newSt nd)
 rw [hm] at HBU HOK; obtain ⟨HV, HC, HE, HP⟩ := hD4 V C E P; have hsf := sF; have RBX0 := hD (mH w (.cells #[gk, gf, gt, gn, gs, gr, gp, go, gc] 26))
 by_cases hr : 0 ≤ gr ∧ gr ≤ 5
 rotate_left
 ·have hrr : (decide (gr < 0)) = true ∨ (decide (gr < 0) = false ∧ decide (gr ≥ 6) = true) := by
   by_cases h : gr < 0
   ·exact .inl (dT h)
   ·exact .inr ⟨dF h, dT (by omega)⟩
  clear V C E P hs hn hin h60 kb hm hnd hr
  rcases hrr with d1 | ⟨d1, d2⟩ <;> (
   go_enter Tryz.func6, Tryz.ntmps6; go_wp2_with (first | (go_at_call 8; (with_reducible refine HAL.out.mono ?_); rintro e' w1 ⟨rfl, hk1⟩; have HK0 := hD hk1; have K1 := hD (kT KB.out hk1); clear hk1) | (go_at_call 9; (with_reducible refine (HBU.out _ K1.out).mono ?_); rintro e' w2 ⟨q, q', rfl, hsl, hsd, hk2⟩; obtain ⟨S2, D2, K12⟩ := hD3 hsl hsd hk2; have K2 := hD (kT K1.out hk2); have RBX := hD (rZ (kT HK0.out hk2) RBX0.out); obtain ⟨b20, b21, b22, b23, b24, b25, b26, b27, b28⟩ := cells9 RBX.out; clear hsl hsd hk2))
   go_ret; exact ⟨rfl, K2.out⟩)
 have d1 := dF (show ¬ gr < 0 by omega); have d2 := dF (show ¬ gr ≥ 6 by omega); obtain ⟨m2, hrun⟩ := tell_fit HOK.out (⟨gk, gf, gt, gn, gs, gr, gp, go, gc⟩ : MM) hr; obtain ⟨hl1, hl2⟩ := tell_two m (⟨gk, gf, gt, gn, gs, gr, gp, go, gc⟩ : MM); have htw := fun (ok : OkS m) => tell_twice ok (⟨gk, gf, gt, gn, gs, gr, gp, go, gc⟩ : MM) hr hrun
 have ht1 := fun w1 (hk : Kp w w1) B q (h : SL B q m w1) => P.tell w1 hk B q m h HOK.out (⟨gk, gf, gt, gn, gs, gr, gp, go, gc⟩ : MM)
 have ht2 := fun w1 (hk : Kp w w1) B q (h : SL B q m2 w1) (ok : OkS m2) => P.tell w1 hk B q m2 h ok (⟨gk, gf, gt, gn, gs, gr, gp, go, gc⟩ : MM)
 obtain ⟨⟨FS, MS, wk⟩, hY⟩ : ∃ y, tellP m (⟨gk, gf, gt, gn, gs, gr, gp, go, gc⟩ : MM) = y := ⟨_, rfl⟩
 obtain ⟨⟨F2, M2, wk2⟩, hY2⟩ : ∃ y, tellP m2 (⟨gk, gf, gt, gn, gs, gr, gp, go, gc⟩ : MM) = y := ⟨_, rfl⟩
 obtain ⟨hf2, hw2, hm2⟩ := htw HOK.out; rw [hY2] at ht2 hf2 hw2 hm2; rw [hY] at ht1 hrun hl1 hl2; dsimp only [MM.cells] at ht1 ht2 hrun hl1 hl2 hf2 hw2 hm2; subst hf2 hw2; obtain ⟨lf, hlf⟩ : ∃ n, FS.length = n := ⟨_, rfl⟩
 obtain ⟨lm, hlm⟩ : ∃ n, MS.length = n := ⟨_, rfl⟩
 obtain ⟨lk, hlk⟩ : ∃ n, M2.length = n := ⟨_, rfl⟩
 obtain ⟨LK, hLK⟩ : ∃ N : Int, (lk : Int) = N := ⟨_, rfl⟩
 have hf0 := fR0; have d3 : decide (LK ≤ 1) = true := dT (by omega); have HT1 := hD (fun w1 (hk : Kp w w1) B q (h : SL B q m w1) => (ht1 w1 hk B q h).mono (R' := fun r w' => ∃ fa fc ma mc, r = .returned (.agg #[.slice fa lf fc, .slice ma lm mc, wk]) ∧ w'.ownsRow w1.heap.size 73 14 (.slice fa lf fc) lf (fcE.row FS) ∧ w'.ownsRow w1.heap.size 26 9 (.slice ma lm mc) lm (mmE.row MS) ∧ Kp w1 w') (by
  rintro e w2 ⟨v, rfl, h, hk⟩; obtain ⟨fa, fc, ma, mc, rfl, h1, h2⟩ := RsV.form (r := ⟨FS, MS, wk⟩) h hlf hlm; exact ⟨fa, fc, ma, mc, rfl, h1, h2, hk⟩))
 have HT2 := hD (fun w1 (hk : Kp w w1) B q (h : SL B q m2 w1) (ok : OkS m2) => (ht2 w1 hk B q h ok).mono (R' := fun r w' => ∃ fa fc ma mc, r = .returned (.agg #[.slice fa 0 fc, .slice ma lk mc, (0:Int)]) ∧ w'.ownsRow w1.heap.size 73 14 (.slice fa 0 fc) 0 (fcE.row []) ∧ w'.ownsRow w1.heap.size 26 9 (.slice ma lk mc) lk (mmE.row M2) ∧ Kp w1 w') (by
  rintro e w2 ⟨v, rfl, h, hk⟩; obtain ⟨fa, fc, ma, mc, rfl, h1, h2⟩ := RsV.form (r := ⟨[], M2, 0⟩) h rfl hlk; exact ⟨fa, fc, ma, mc, rfl, h1, h2, hk⟩))
 have HWF := hD (facts_wf16 hrun); have HFI := hD (fun w1 w2 wf (h1 : Kp w w1) (h2 : Kp w2 wf) (h12 : Kp w1 w2) {q : Nat} (h : SL w1.heap.size q m w2) a c (B1 : Nat) (ho : wf.ownsRow B1 73 14 (.slice a lf c) lf (fcE.row FS)) => fit_any (w := wf) (B := w1.heap.size) ⟨w1, kT h12 h2, Nat.le_refl _, HC.out.kp h1, HE.out.kp h1⟩ (h.kp h2) HOK.out FS a lf c hlf (by omega) ho HWF.out m2 hrun); clear V C E P hs hn hin h60 kb hm hnd hr hrun hl1 hl2 htw ht1 ht2 hm2 hY hY2 hlf hlm hlk; go_enter Tryz.func6, Tryz.ntmps6; go_wp2_with (first | (go_at_call 8; (with_reducible refine HAL.out.mono ?_); rintro e' w1 ⟨rfl, hk1⟩; have HK0 := hD hk1; have K1 := hD (kT KB.out hk1); clear hk1) | (go_at_call 9; (with_reducible refine (HBU.out _ K1.out).mono ?_); rintro e' w2 ⟨q, q', rfl, hsl, hsd, hk2⟩; obtain ⟨S2, D2, K12⟩ := hD3 hsl hsd hk2; have K2 := hD (kT K1.out hk2); have RBX := hD (rZ (kT HK0.out hk2) RBX0.out); obtain ⟨b20, b21, b22, b23, b24, b25, b26, b27, b28⟩ := cells9 RBX.out; clear hsl hsd hk2) | (go_at_call 16; (with_reducible refine (HFI.out _ _ _ K1.out K23.out K12.out S2.out _ _ _ OF.out).mono ?_); rintro e' w4 ⟨rfl, hs4, hok4, hfr⟩; obtain ⟨S4, OK4⟩ := hD2 hs4 hok4; have K4 := hD (hfr.2.2 w K3.out (kS K1.out)); have RB4 := hD (hfr.2.1 _ _ _ ⟨by decide, by decide, by decide, by decide⟩ (rZ K23.out RBX.out)); obtain ⟨b40, b41, b42, b43, b44, b45, b46, b47, b48⟩ := cells9 RB4.out; clear hs4 hok4 hfr) | (go_at_call 10; (with_reducible refine (HT1.out _ K2.out _ _ S2.out).mono ?_); rintro e' w3 ⟨fa, fc, ma, mc, rfl, hof, _, hk3⟩; have K3 := hD (kT K2.out hk3); obtain ⟨K23, OF⟩ := hD2 hk3 hof; clear hof hk3) | (go_at_call 10; (with_reducible refine (HT2.out _ K4.out _ _ S4.out OK4.out).mono ?_); rintro e' w5 ⟨fa, fc, ma, mc, rfl, _, _, hk5⟩; have kz := kT hk5 (kA w5 (.cells #[.slice fa 0 fc, .slice ma lk mc, (0:Int)] 34)); have K5 := hD (kT K4.out kz); obtain ⟨x0, x1, x2⟩ := cellsR3 (mH w5 (.cells #[.slice fa 0 fc, .slice ma lk mc, (0:Int)] 34)); clear hk5 kz))
 go_ret; exact ⟨rfl, K5.out⟩
theorem one_int {H : Type} {enc : TypeId × Value → H} {W : World} {n : Nat} {cs : List Value} {y : DataW H × List MemPlace} {v : Value} (h : DataW.trod enc Tryz.prog W 0 (fun _ => true) true n 3 cs = some y) (hc : cs = [v]) : ∃ x : Int, v = .int .i64 x := by
 obtain ⟨x, e, _, _⟩ := DataW.trod_int Tryz.underlying3 h; rw [hc] at e; exact ⟨x, by simpa using e⟩
theorem open_msg {H : Type} {enc : TypeId × Value → H} {W : World} {r : Reach} {b0 : Nat} {v : Value} {d : DataW H} {ps : List MemPlace}
  (hval : Value.okWide Tryz.prog W r b0 26 v) (h : DataW.Trod enc Tryz.prog W 0 (fun _ => true) true 26 v d ps) : ∃ m : MM, v = .agg m.cells := by
 obtain ⟨⟨cs⟩, rfl, hsz⟩ := okWide_struct Tryz.underlying26 hval; have h9 : Tryz.prog.cellsOf 26 = 9 := by kernel_rfl
 have h1 : Tryz.prog.cellsOf 3 = 1 := by kernel_rfl
 have h2 : Tryz.prog.cellsOf 24 = 2 := by kernel_rfl
 rw [h9] at hsz; obtain ⟨fuel, hf⟩ := h
 match cs, hsz with
 | [c0, c1, c2, c3, c4, c5, c6, c7, c8], _ =>
  obtain ⟨xs, n, _, _, _, hlen, hfs⟩ := DataW.trod_struct Tryz.underlying26 hf; have g0 := hfs 0 _ rfl; have g1 := hfs 1 _ rfl; have g2 := hfs 2 _ rfl; have g3 := hfs 3 _ rfl; have g4 := hfs 4 _ rfl; have g5 := hfs 5 _ rfl; have g6 := hfs 6 _ rfl; have g7 := hfs 7 _ rfl; have e8 : xs.length = 8 := hlen
  match xs, e8 with
  | [x0, x1, x2, x3, x4, x5, x6, x7], _ =>
   obtain ⟨y0, rfl⟩ := one_int (v := c0) g0 (by simp [Value.cells, h1]); obtain ⟨y1, rfl⟩ := one_int (v := c1) g1 (by simp [Value.cells, h1]); obtain ⟨y2, rfl⟩ := one_int (v := c2) g2 (by simp [Value.cells, h1]); obtain ⟨y5, rfl⟩ := one_int (v := c5) g4 (by simp [Value.cells, h1]); obtain ⟨y6, rfl⟩ := one_int (v := c6) g5 (by simp [Value.cells, h1]); obtain ⟨y7, rfl⟩ := one_int (v := c7) g6 (by simp [Value.cells, h1]); obtain ⟨y8, rfl⟩ := one_int (v := c8) g7 (by simp [Value.cells, h1]); obtain ⟨z3, z4, k, _, _, a0, a1⟩ := trod_struct2 Tryz.underlying24 g3; obtain ⟨y3, rfl⟩ := one_int (v := c3) a0 (by simp [Value.cells, h1, h2]); obtain ⟨y4, rfl⟩ := one_int (v := c4) a1 (by simp [Value.cells, h1, h2]); exact ⟨⟨y0, y1, y2, y3, y4, y5, y6, y7, y8⟩, rfl⟩
end Go.Proofs.YtncoofnhifcnhaaGreatDoor
