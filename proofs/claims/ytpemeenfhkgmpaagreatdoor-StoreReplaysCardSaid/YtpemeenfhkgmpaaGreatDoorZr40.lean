/-
 StoreReplays: for every node and all rows, Replay makes the store that the document's rows make, or answers its error. Condition: package api's errors and strconv's table of powers hold what their declarations lay.
-/
import Derived.Test.YtpemeenfhkgmpaaGreatDoorZr39
import Derived.Test.YtpemeenfhkgmpaaGreatDoorCards
import Derived.Test.YtpemeenfhkgmpaaGreatDoorTie
import Derived.Lay
set_option maxRecDepth 100000
set_option maxHeartbeats 40000000
namespace Go.Proofs.YtpemeenfhkgmpaaGreatDoor
open Go.RowKit Go.ChangeShapes Go.WideShapes
variable {w0 w w' W w3 : World} {B q : Nat} {m : StM} {gs : List AcG} {va vp : Value}
variable {ads : List Addr}
theorem replays_any (nd : Int) (v : Value) (bss : List (List Int)) (V : St ads w) (C : FacC ads w) (E : EP [0, 3, 4, 8, 13] ads w) (hs : SlBC v bss w) : Calls Tryz.prog 5 #[.int .i64 nd, v] w fun r w' => r = .returned (.bool true) ∧ Kp w w' := by
 obtain ⟨a, cap, rfl⟩ := hs.form; obtain ⟨n, hn⟩ : ∃ n, bss.length = n := ⟨_, rfl⟩
 rw [hn] at hs ⊢; obtain ⟨N, hN⟩ : ∃ N : Int, (n : Int) = N := ⟨_, rfl⟩
 have HAL := hD (alive15_any C E)
 by_cases hl : N > 100
 ·have d1 := dT hl; clear V C E hs; go_enter Tryz.func5, Tryz.ntmps5; go_wp2_with (go_at_call 8; (with_reducible refine HAL.out.mono ?_); rintro e' w0 ⟨rfl, hk0⟩; have K0 := hD hk0; clear hk0)
  go_ret; exact ⟨rfl, K0.out⟩
 have d1 := dF hl; have HC := hD C; have HE := hD E; have HV := hD V; have HN := hD hn; have HS := hD hs; have HL := hD (show n ≤ 100 by omega); have HNN := hD hN; have hsf := sF; clear C E V hn hs hl; go_enter Tryz.func5, Tryz.ntmps5; go_wp2_with (go_at_call 8; (with_reducible refine HAL.out.mono ?_); rintro e' w0 ⟨rfl, hk0⟩; have K0 := hD hk0; clear hk0)
 go_loopw [21] (fun i wr => ∃ j : Nat, j ≤ n ∧ i = .int .i64 j ∧ (∀ b ∈ bss.take j, b.length ≤ 300) ∧ Kp w wr) (fun i _ => n - (intOf i).toNat)
 case atStart => exact ⟨0, Nat.zero_le _, rfl, fun b hb => by simp at hb, K0.out⟩
 case round =>
  obtain ⟨j, hj, rfl, hall, hk⟩ := hrel; obtain ⟨kk, hkk⟩ : ∃ x : Int, (j : Int) = x := ⟨_, rfl⟩
  rw [hkk]; have HKK := hD hkk; have KR := hD hk
  by_cases hlt : j < n
  ·have hjl : kk < N := by have := HNN.out; omega
   have hk0 : 0 ≤ kk := by omega
   have htk : kk.toNat = j := by omega
   have hN8 : N ≤ 100 := by have := HNN.out; have := HL.out; omega
   have hw1 : wrap64 (kk + 1) = kk + 1 := IntWalk.wrap64_in _ (by omega); have HLT := hD hlt; have hjx : j < bss.length := by have := HN.out; omega
   obtain ⟨bb, bo, rfl, aj, cj, hcell, hslb, hinb, hcap⟩ := (HS.out.kp hk).at j hjx; have hts : bss.take (j + 1) = bss.take j ++ [bss[j]] := by rw [← List.take_succ_eq_append_getElem hjx]
   obtain ⟨lb, hlb⟩ : ∃ x, bss[j].length = x := ⟨_, rfl⟩
   rw [hlb] at hcell; rw [← htk] at hcell; obtain ⟨LB, hLB⟩ : ∃ x : Int, (lb : Int) = x := ⟨_, rfl⟩
   by_cases h3 : LB > 300
   ·have d3 := dT h3; clear hkk hj hlt hk hall htk hjx hslb hinb hcap hts hlb h3; go_wp2; go_ret; exact ⟨rfl, KR.out⟩
   ·have d3 := dF h3; have HALL := hD (show ∀ b ∈ bss.take (j + 1), b.length ≤ 300 by
     intro b hb; rw [hts] at hb
     rcases List.mem_append.1 hb with hb | hb
     ·exact hall b hb
     ·obtain rfl := List.mem_singleton.1 hb; omega)
    clear hkk hj hlt hk hall htk hjx hslb hinb hcap hts hlb h3; go_wp2; go_roundw
    case rel => exact ⟨j + 1, by have := HLT.out; omega, by have := HKK.out; first | rw [show ((j + 1 : Nat) : Int) = kk + 1 by omega] | rw [show ((j + 1 : Nat) : Int) = kk + 1 by omega, hw1], HALL.out, KR.out⟩
    case measure => have := HKK.out; have := HLT.out; simp [intOf]; omega
  ·have hje : ¬ kk < N := by have := HNN.out; omega
   have hfin : bss.take j = bss := by rw [show j = n by omega, ← HN.out, List.take_length]
   rw [hfin] at hall; have hl1 : ∀ b ∈ bss, b.length ≤ 1000 := fun b hb => by have := hall b hb; omega
   have H1 := hD hl1; have KE := KR; have hre := fun w1 (hk : Kp w w1) => lsReplay (HC.out.kp hk) (HE.out.kp hk) nd a n cap bss HN.out (by have := HL.out; omega) hl1 (HS.out.kp hk)
   clear hkk hj hlt hk hall hfin hl1
   by_cases hin : inN nd
   rotate_left
   ·have hre := fun w1 (hk : Kp w w1) => (hre w1 hk).mono (R' := fun r w' => r = .returned (.tuple #[.pointer none, errI ads 1]) ∧ Kp w1 w') (by
     rintro e w2 (⟨_, rfl, hk2⟩ | ⟨h, _⟩)
     ·exact ⟨rfl, hk2⟩
     ·exact absurd h hin)
    have hnum := fun w1 (hk : Kp w w1) => num_errN ads w1 (HV.out.below hk) 1 (by decide) (by decide)
    obtain ⟨er, her⟩ : ∃ x, errI ads 1 = x := ⟨_, rfl⟩
    rw [her] at hre hnum; have HRE := hD hre; have HNUM := hD hnum
    by_cases h1 : nd < 0
    ·have d2 := dT h1; clear hre hnum hin her h1; go_wp2_with (first | (go_at_call 18; (with_reducible refine (HRE.out _ KE.out).mono ?_); rintro e' w2 ⟨rfl, hk2⟩; have K2 := hD (kT KE.out hk2); clear hk2) | (go_at_call 10; (with_reducible refine (HNUM.out _ K2.out).mono ?_); rintro e' w3 ⟨rfl, hkn⟩))
     go_ret; exact ⟨rfl, kT K2.out hkn⟩
    ·have d2 := dF h1; have d3 : decide (nd > 3) = true := dT (by unfold inN at hin; omega); clear hre hnum hin her h1; go_wp2_with (first | (go_at_call 18; (with_reducible refine (HRE.out _ KE.out).mono ?_); rintro e' w2 ⟨rfl, hk2⟩; have K2 := hD (kT KE.out hk2); clear hk2) | (go_at_call 10; (with_reducible refine (HNUM.out _ K2.out).mono ?_); rintro e' w3 ⟨rfl, hkn⟩))
     go_ret; exact ⟨rfl, kT K2.out hkn⟩
   have d2 : decide (nd < 0) = false := dF (by unfold inN at hin; omega); have d3 : decide (nd > 3) = false := dF (by unfold inN at hin; omega); have HOK0 := hD (newSt_ok hin)
   cases hrr : rowsRun (newSt nd) bss with
   | none =>
    have hre := fun w1 (hk : Kp w w1) => (hre w1 hk).mono (R' := fun r w' => r = .returned (.tuple #[.pointer none, errI ads 5]) ∧ Kp w1 w') (by
     rintro e w2 (⟨h, _⟩ | ⟨_, ⟨_, rfl, hk2⟩ | ⟨m', h, _⟩⟩)
     ·exact absurd hin h
     ·exact ⟨rfl, hk2⟩
     ·rw [hrr] at h; cases h)
    have hnum := fun w1 (hk : Kp w w1) => num_errN ads w1 (HV.out.below hk) 5 (by decide) (by decide)
    obtain ⟨er, her⟩ : ∃ x, errI ads 5 = x := ⟨_, rfl⟩
    rw [her] at hre hnum; have HRE := hD hre; have HNUM := hD hnum; have HRR := hD hrr; clear hre hnum hin her hrr; go_wp2_with (go_at_call 18; (with_reducible refine (HRE.out _ KE.out).mono ?_); rintro e' w2 ⟨rfl, hk2⟩; have K2 := hD (kT KE.out hk2); clear hk2)
    have KX := hD (kT K2.out (kA w2 (.cells #[nd, .int .i64 0, .slice none 0 0, .slice none 0 0] 34))); have SD0 := hD (SD.new (B := w.heap.size) (mH w2 (.cells #[nd, .int .i64 0, .slice none 0 0, .slice none 0 0] 34)) (kS K2.out)); go_loopw [53] (fun i wr => ∃ (j : Nat) (m : StM), j ≤ n ∧ i = .int .i64 j ∧ rowsRun (newSt nd) (bss.take j) = some m ∧ OkS m ∧ SD w.heap.size w2.heap.size m wr ∧ Kp w wr) (fun i _ => n - (intOf i).toNat)
    case atStart => exact ⟨0, newSt nd, Nat.zero_le _, rfl, rfl, HOK0.out, SD0.out, KX.out⟩
    case round =>
     obtain ⟨j, m, hj, rfl, hrun, hok, hsd, hk⟩ := hrel; obtain ⟨kk, hkk⟩ : ∃ x : Int, (j : Int) = x := ⟨_, rfl⟩
     rw [hkk]; have HKK := hD hkk; have KR := hD hk; have HRUN := hD hrun
     by_cases hlt : j < n
     ·have hjl : kk < N := by have := HNN.out; omega
      have hk0 : 0 ≤ kk := by omega
      have htk : kk.toNat = j := by omega
      have hN8 : N ≤ 100 := by have := HNN.out; have := HL.out; omega
      have hw1 : wrap64 (kk + 1) = kk + 1 := IntWalk.wrap64_in _ (by omega); have HLT := hD hlt; have hjx : j < bss.length := by have := HN.out; omega
      obtain ⟨bb, bo, rfl, aj, cj, hcell, hslb, hinb, hcap⟩ := (HS.out.kp hk).at j hjx; have hspl : bss = bss.take j ++ bss[j] :: bss.drop (j + 1) := by rw [← List.drop_eq_getElem_cons hjx, List.take_append_drop]
      have hts : bss.take (j + 1) = bss.take j ++ [bss[j]] := by rw [← List.take_succ_eq_append_getElem hjx]
      have hbl : bss[j].length ≤ 1000 := H1.out _ (List.getElem_mem hjx); obtain ⟨DR, hDR⟩ : ∃ x, bss.drop (j + 1) = x := ⟨_, rfl⟩
      rw [hDR] at hspl; obtain ⟨BJ, hBJ⟩ : ∃ x, bss[j] = x := ⟨_, rfl⟩
      rw [hBJ] at hspl hts hbl hcell hslb hinb hcap; have HSPL := hD hspl; have HTS := hD hts; obtain ⟨lb, hlb⟩ : ∃ x, BJ.length = x := ⟨_, rfl⟩
      rw [hlb] at hcell hslb hbl hcap; have hdec := refRead14_any aj lb cj BJ hlb hcap hbl hinb wr hslb; obtain ⟨⟨fk, fn, fs, fr, fe, fp, fq, fo, fd, fa, ft, fh, fc, fx⟩, hF⟩ : ∃ f, (decG BJ).2 = f := ⟨_, rfl⟩
      have hwf : FX.wf (⟨fk, fn, fs, fr, fe, fp, fq, fo, fd, fa, ft, fh, fc, fx⟩ : FX) := by rw [← hF]; exact decG_wf
      obtain ⟨cd, hcd⟩ : ∃ c, (decG BJ).1 = c := ⟨_, rfl⟩
      rw [hF, hcd] at hdec; dsimp only [FX.cells] at hdec; rw [← htk] at hcell; have hap := fun w1 (hk1 : Kp wr w1) => SD.apply (hsd.kp hk1) hok (⟨fk, fn, fs, fr, fe, fp, fq, fo, fd, fa, ft, fh, fc, fx⟩ : FX) hwf
      dsimp only [FX.cells] at hap; obtain ⟨AQ, hAQ⟩ : ∃ x, applyQ m (⟨fk, fn, fs, fr, fe, fp, fq, fo, fd, fa, ft, fh, fc, fx⟩ : FX) = x := ⟨_, rfl⟩
      rw [hAQ] at hap; obtain ⟨ac, m2⟩ := AQ; dsimp only at hap; have HAQ := hD (show applyQ m (decG BJ).2 = (ac, m2) by rw [hF]; exact hAQ); have HCD := hD hcd; have HOK2 := hD (show OkS m2 by have := applyQ_ok (f := (⟨fk, fn, fs, fr, fe, fp, fq, fo, fd, fa, ft, fh, fc, fx⟩ : FX)) hok; rw [hAQ] at this; exact this)
      by_cases hc0 : cd = 0
      rotate_left
      ·have g0 : (cd != 0) = true := by simpa using hc0
       have HRD := hD hdec; clear hkk hj hlt hk hrun hok hsd htk hjx hslb hinb hcap hspl hts hbl hDR hBJ hlb hdec hF hwf hcd hap hAQ hc0; go_wp2_with (first | (go_at_call 20; (with_reducible refine HRD.out.mono ?_); rintro e' w3 ⟨rfl, hk3⟩; obtain ⟨u0, u1, u2, u3, u4, u5, u6, u7, u8, u9, u10, u11, u12, u13⟩ := cZ (mH w3 (.cells #[fk, fn, fs, fr, fe, fp, fq, fo, fd, fa, ft, fh, fc, .float .f64 fx] 42)); have K3 := hD (kT hk3 (kA w3 (.cells #[fk, fn, fs, fr, fe, fp, fq, fo, fd, fa, ft, fh, fc, .float .f64 fx] 42))); clear hk3) | (go_at_call 10; (with_reducible refine (HNUM.out _ (kT KR.out K3.out)).mono ?_); rintro e' w6 ⟨rfl, hkn⟩))
       go_ret; exact ⟨rfl, kT (kT KR.out K3.out) hkn⟩
      subst hc0
      by_cases ha0 : ac = 0
      rotate_left
      ·have g0 : (ac != 0) = true := by simpa using ha0
       have HRD := hD hdec; have HAD := hD hap; clear hkk hj hlt hk hrun hok hsd htk hjx hslb hinb hcap hspl hts hbl hDR hBJ hlb hdec hF hwf hcd hap hAQ ha0; go_wp2_with (first | (go_at_call 20; (with_reducible refine HRD.out.mono ?_); rintro e' w3 ⟨rfl, hk3⟩; obtain ⟨u0, u1, u2, u3, u4, u5, u6, u7, u8, u9, u10, u11, u12, u13⟩ := cZ (mH w3 (.cells #[fk, fn, fs, fr, fe, fp, fq, fo, fd, fa, ft, fh, fc, .float .f64 fx] 42)); have K3 := hD (kT hk3 (kA w3 (.cells #[fk, fn, fs, fr, fe, fp, fq, fo, fd, fa, ft, fh, fc, .float .f64 fx] 42))); clear hk3) | (go_at_call 12; (with_reducible refine (HAD.out _ K3.out).mono ?_); rintro e' w5 ⟨rfl, s5, d5, x5, k5⟩; have K5 := hD (k5 w (kT KR.out K3.out) (Nat.le_refl _)); have SD5 := hD s5; have DD5 := hD d5; clear s5 d5 x5 k5) | (go_at_call 10; (with_reducible refine (HNUM.out _ K5.out).mono ?_); rintro e' w6 ⟨rfl, hkn⟩))
       go_ret; exact ⟨rfl, kT K5.out hkn⟩
      subst ha0; have HRD := hD hdec; have HAD := hD hap; clear hkk hj hlt hk hrun hok hsd htk hjx hslb hinb hcap hspl hts hbl hDR hBJ hlb hdec hF hwf hcd hap hAQ; go_wp2_with (first | (go_at_call 20; (with_reducible refine HRD.out.mono ?_); rintro e' w3 ⟨rfl, hk3⟩; obtain ⟨u0, u1, u2, u3, u4, u5, u6, u7, u8, u9, u10, u11, u12, u13⟩ := cZ (mH w3 (.cells #[fk, fn, fs, fr, fe, fp, fq, fo, fd, fa, ft, fh, fc, .float .f64 fx] 42)); have K3 := hD (kT hk3 (kA w3 (.cells #[fk, fn, fs, fr, fe, fp, fq, fo, fd, fa, ft, fh, fc, .float .f64 fx] 42))); clear hk3) | (go_at_call 12; (with_reducible refine (HAD.out _ K3.out).mono ?_); rintro e' w5 ⟨rfl, s5, d5, x5, k5⟩; have K5 := hD (k5 w (kT KR.out K3.out) (Nat.le_refl _)); have SD5 := hD s5; have DD5 := hD d5; clear s5 d5 x5 k5))
      go_roundw
      case rel => exact ⟨j + 1, m2, by have := HLT.out; omega, by have := HKK.out; first | rw [show ((j + 1 : Nat) : Int) = kk + 1 by omega] | rw [show ((j + 1 : Nat) : Int) = kk + 1 by omega, hw1], by
       rw [HTS.out, rowsRun_app, HRUN.out]
       show rowsRun m [BJ] = some m2
       unfold rowsRun; rw [if_pos ⟨HCD.out, by rw [HAQ.out]⟩, HAQ.out]
       rfl, HOK2.out, SD5.out, K5.out⟩
      case measure => have := HKK.out; have := HLT.out; simp [intOf]; omega
     ·have hje : ¬ kk < N := by have := HNN.out; omega
      have hfin : bss.take j = bss := by rw [show j = n by omega, ← HN.out, List.take_length]
      rw [hfin, HRR.out] at hrun
      cases hrun
   | some mF =>
    have hre := fun w1 (hk : Kp w w1) => (hre w1 hk).mono (R' := fun r w' => ∃ q, r = .returned (.tuple #[.pointer (some ⟨q, 0, none⟩), .nilIface]) ∧ SL w1.heap.size q mF w' ∧ Kp w1 w') (by
     rintro e w2 (⟨h, _⟩ | ⟨_, ⟨h, _⟩ | ⟨m', h, _, q, rfl, hg, hk⟩⟩)
     ·exact absurd hin h
     ·rw [hrr] at h; cases h
     ·rw [hrr] at h; obtain rfl := Option.some.inj h; exact ⟨q, rfl, hg, hk⟩)
    have HRE := hD hre; have HRR := hD hrr; clear hre hin hrr; go_wp2_with (go_at_call 18; (with_reducible refine (HRE.out _ KE.out).mono ?_); rintro e' w2 ⟨q, rfl, hg2, hk2⟩; have K2 := hD (kT KE.out hk2); have G2 := hD hg2; clear hg2; clear hk2)
    have KX := hD (kT K2.out (kA w2 (.cells #[nd, .int .i64 0, .slice none 0 0, .slice none 0 0] 34))); have SL0 := hD ((G2.out.base (kS KE.out)).kp (kA w2 (.cells #[nd, .int .i64 0, .slice none 0 0, .slice none 0 0] 34))); have SD0 := hD (SD.new (B := w.heap.size) (mH w2 (.cells #[nd, .int .i64 0, .slice none 0 0, .slice none 0 0] 34)) (kS K2.out)); go_loopw [53] (fun i wr => ∃ (j : Nat) (m : StM), j ≤ n ∧ i = .int .i64 j ∧ rowsRun (newSt nd) (bss.take j) = some m ∧ OkS m ∧ SD w.heap.size w2.heap.size m wr ∧ SL w.heap.size q mF wr ∧ Kp w wr) (fun i _ => n - (intOf i).toNat)
    case atStart => exact ⟨0, newSt nd, Nat.zero_le _, rfl, rfl, HOK0.out, SD0.out, SL0.out, KX.out⟩
    case round =>
     obtain ⟨j, m, hj, rfl, hrun, hok, hsd, hsl, hk⟩ := hrel; obtain ⟨kk, hkk⟩ : ∃ x : Int, (j : Int) = x := ⟨_, rfl⟩
     rw [hkk]; have HKK := hD hkk; have KR := hD hk; have HRUN := hD hrun
     by_cases hlt : j < n
     ·have hjl : kk < N := by have := HNN.out; omega
      have hk0 : 0 ≤ kk := by omega
      have htk : kk.toNat = j := by omega
      have hN8 : N ≤ 100 := by have := HNN.out; have := HL.out; omega
      have hw1 : wrap64 (kk + 1) = kk + 1 := IntWalk.wrap64_in _ (by omega); have HLT := hD hlt; have hjx : j < bss.length := by have := HN.out; omega
      obtain ⟨bb, bo, rfl, aj, cj, hcell, hslb, hinb, hcap⟩ := (HS.out.kp hk).at j hjx; have hspl : bss = bss.take j ++ bss[j] :: bss.drop (j + 1) := by rw [← List.drop_eq_getElem_cons hjx, List.take_append_drop]
      have hts : bss.take (j + 1) = bss.take j ++ [bss[j]] := by rw [← List.take_succ_eq_append_getElem hjx]
      have hbl : bss[j].length ≤ 1000 := H1.out _ (List.getElem_mem hjx); obtain ⟨DR, hDR⟩ : ∃ x, bss.drop (j + 1) = x := ⟨_, rfl⟩
      rw [hDR] at hspl; obtain ⟨BJ, hBJ⟩ : ∃ x, bss[j] = x := ⟨_, rfl⟩
      rw [hBJ] at hspl hts hbl hcell hslb hinb hcap; have HSPL := hD hspl; have HTS := hD hts; obtain ⟨lb, hlb⟩ : ∃ x, BJ.length = x := ⟨_, rfl⟩
      rw [hlb] at hcell hslb hbl hcap; have hdec := refRead14_any aj lb cj BJ hlb hcap hbl hinb wr hslb; obtain ⟨⟨fk, fn, fs, fr, fe, fp, fq, fo, fd, fa, ft, fh, fc, fx⟩, hF⟩ : ∃ f, (decG BJ).2 = f := ⟨_, rfl⟩
      have hwf : FX.wf (⟨fk, fn, fs, fr, fe, fp, fq, fo, fd, fa, ft, fh, fc, fx⟩ : FX) := by rw [← hF]; exact decG_wf
      obtain ⟨cd, hcd⟩ : ∃ c, (decG BJ).1 = c := ⟨_, rfl⟩
      rw [hF, hcd] at hdec; dsimp only [FX.cells] at hdec; rw [← htk] at hcell; have hap := fun w1 (hk1 : Kp wr w1) => SD.apply (hsd.kp hk1) hok (⟨fk, fn, fs, fr, fe, fp, fq, fo, fd, fa, ft, fh, fc, fx⟩ : FX) hwf
      dsimp only [FX.cells] at hap; obtain ⟨AQ, hAQ⟩ : ∃ x, applyQ m (⟨fk, fn, fs, fr, fe, fp, fq, fo, fd, fa, ft, fh, fc, fx⟩ : FX) = x := ⟨_, rfl⟩
      rw [hAQ] at hap; obtain ⟨ac, m2⟩ := AQ; dsimp only at hap; have HAQ := hD (show applyQ m (decG BJ).2 = (ac, m2) by rw [hF]; exact hAQ); have HCD := hD hcd; have HOK2 := hD (show OkS m2 by have := applyQ_ok (f := (⟨fk, fn, fs, fr, fe, fp, fq, fo, fd, fa, ft, fh, fc, fx⟩ : FX)) hok; rw [hAQ] at this; exact this)
      by_cases hc0 : cd = 0
      rotate_left
      ·have HNO := show rowsRun (newSt nd) bss = none by rw [HSPL.out, rowsRun_app, HRUN.out]; show rowsRun m (BJ :: _) = none; unfold rowsRun; rw [if_neg (fun h => hc0 (by rw [← hcd]; exact h.1))]
       rw [HRR.out] at HNO
       cases HNO
      subst hc0
      by_cases ha0 : ac = 0
      rotate_left
      ·have HNO := show rowsRun (newSt nd) bss = none by rw [HSPL.out, rowsRun_app, HRUN.out]; show rowsRun m (BJ :: _) = none; unfold rowsRun; rw [if_neg (fun h => ha0 (by have h2 := h.2; rw [HAQ.out] at h2; exact h2))]
       rw [HRR.out] at HNO
       cases HNO
      subst ha0; have HRD := hD hdec; have HAD := hD hap; have HSL := hD hsl; clear hkk hj hlt hk hrun hok hsd htk hjx hslb hinb hcap hspl hts hbl hDR hBJ hlb hdec hF hwf hcd hap hAQ hsl; go_wp2_with (first | (go_at_call 20; (with_reducible refine HRD.out.mono ?_); rintro e' w3 ⟨rfl, hk3⟩; obtain ⟨u0, u1, u2, u3, u4, u5, u6, u7, u8, u9, u10, u11, u12, u13⟩ := cZ (mH w3 (.cells #[fk, fn, fs, fr, fe, fp, fq, fo, fd, fa, ft, fh, fc, .float .f64 fx] 42)); have K3 := hD (kT hk3 (kA w3 (.cells #[fk, fn, fs, fr, fe, fp, fq, fo, fd, fa, ft, fh, fc, .float .f64 fx] 42))); clear hk3) | (go_at_call 12; (with_reducible refine (HAD.out _ K3.out).mono ?_); rintro e' w5 ⟨rfl, s5, d5, x5, k5⟩; have K5 := hD (k5 w (kT KR.out K3.out) (Nat.le_refl _)); have SD5 := hD s5; have DD5 := hD d5; clear s5 d5 x5 k5))
      go_roundw
      case rel => exact ⟨j + 1, m2, by have := HLT.out; omega, by have := HKK.out; first | rw [show ((j + 1 : Nat) : Int) = kk + 1 by omega] | rw [show ((j + 1 : Nat) : Int) = kk + 1 by omega, hw1], by
       rw [HTS.out, rowsRun_app, HRUN.out]
       show rowsRun m [BJ] = some m2
       unfold rowsRun; rw [if_pos ⟨HCD.out, by rw [HAQ.out]⟩, HAQ.out]
       rfl, HOK2.out, SD5.out, DD5.out _ _ _ (HSL.out.kp K3.out), K5.out⟩
      case measure => have := HKK.out; have := HLT.out; simp [intOf]; omega
     ·have hje : ¬ kk < N := by have := HNN.out; omega
      have hfin : bss.take j = bss := by rw [show j = n by omega, ← HN.out, List.take_length]
      rw [hfin, HRR.out] at hrun; obtain rfl := Option.some.inj hrun; have HSL := hD hsl; have HSD := hD hsd; have HOKF := hD hok; clear hkk hj hlt hk hrun hok hsl hsd hfin; go_wp2_with (go_at_call 13; (with_reducible refine (SL.both HSL.out HSD.out HOKF.out).mono ?_); rintro e' w8 ⟨rfl, hk8⟩)
      go_ret; exact ⟨rfl, kT KR.out hk8⟩
open Go.RowKit
theorem storeReplays_walk (node : Int) (v : Value) (rows : List (List Int)) (W : World) (_kn : -9223372036854775808 ≤ node ∧ node ≤ 9223372036854775807) (k1 : SlBC v rows W) (_k2 : rows.length ≤ maxLen) (hL : laidMetH Tryz.prog Rows.storeReplaysRow.laid W) :
  Calls Tryz.prog 5 #[.int .i64 node, v] W fun e w' => e = .returned (.bool true) ∧ Below W.heap.size W w' := by
 obtain ⟨⟨ads, V⟩, T⟩ := st_tab_of (l := Rows.storeReplaysRow.laid) (by kernel_rfl) (by kernel_rfl) (by kernel_rfl) hL; have C := facC_of ads W V T; have E : EP [0, 3, 4, 8, 13] ads W := ep_of_st V (by decide); exact replays_any node v rows V C E k1
open Go.ChangeShapes Go.WideShapes Go.ChangeAt Go.WideMaps Go.WideElems Go.RowKit
theorem storeReplays_lifted (os : Os) (started : os.Started) (H : Type) (enc : TypeId × Value → H) :
  ReturnsInHanded {} Tryz.checked os 5 .any (fun w args => (Rows.storeReplaysSpec.pre enc Tryz.prog Tryz.f5 [] false w args ∧ laidMetH Tryz.prog Rows.storeReplaysRow.laid w) ∧ sizedMet enc Tryz.prog Tryz.f5 (OpenSpec.ofChange Rows.storeReplaysSpec) false w args)
   (Rows.storeReplaysSpec.post enc Tryz.prog Tryz.f5 false true false false) := by
 refine returnsInHanded_of_change_and (C := Tryz.checked) (X := fun w _ => laidMetH Tryz.prog Rows.storeReplaysRow.laid w) (fun _ _ _ hh h => h.of_heap hh) own started (by kernel_rfl) Tryz.func5
  (ChangeSpec.witness_shaped (enc := enc) (C := Tryz.checked) (os := os) (X := fun w _ => laidMetH Tryz.prog Rows.storeReplaysRow.laid w) false (World.laidAll Tryz.prog os Rows.storeReplaysRow.laid) #[.int .i64 0, .slice none 0 0] 8 (World.laidAll_os _ _ _) (World.shaped_of_ZipB (by kernel_rfl) (by kernel_rfl)) (by kernel_rfl) (by kernel_rfl) (by kernel_rfl) (by rw [MakeChecks.laidMetH_plain _ _ _ (by kernel_rfl)]; exact laidMet_laidAll _ (by kernel_rfl) (by kernel_rfl))) ?_
 intro W base args ds gs before hval0 hW _ hsz hL _; have hval : ∀ (j : Nat) t v, Tryz.f5.params[j]? = some t → args[j]? = some v → Value.okWide Tryz.prog W .any base t v := hval0; have hW' := hW; obtain ⟨p, q, hA0, hV, rfl, hfz, hnd⟩ := hW; have hA : DataW.TrodAll enc Tryz.prog W 0 (fun _ => true) true Tryz.f5.params.toList args.toList ds p := hA0; rw [Tryz.params5] at hA hval; obtain ⟨v0, vs0, d0, ds0, p0, q0, e0, rfl, rfl, h0, r0⟩ := trodAll_cons hA; obtain ⟨v1, vs1, d1, ds1, p1, q1, e1, rfl, rfl, h1, r1⟩ := trodAll_cons r0; obtain ⟨rfl, rfl, rfl⟩ := trodAll_nil r1; obtain rfl : args = #[v0, v1] := by cases args; simp_all
 obtain ⟨rfl, rfl⟩ := trodVars_none hV; obtain ⟨node, rfl, rfl, rfl, hnode⟩ := open_int Tryz.underlying3 (hval 0 3 v0 rfl rfl) h0; obtain ⟨rows, krowsa, krowsb⟩ := open_bytessC Tryz.underlying49 Tryz.underlying55 Tryz.underlying5 (by kernel_rfl) (by kernel_rfl) (hval 1 49 v1 rfl rfl) h1; clear hA0 hval0; have knode : -9223372036854775808 ≤ node ∧ node ≤ 9223372036854775807 := by simpa [Lit.wf, IntKind.min, IntKind.max, IntKind.bits, IntKind.signed] using hnode
 refine (storeReplays_walk node v1 rows W knode krowsa krowsb hL).mono fun e W' ⟨he, hw⟩ => ?_
 subst he; exact ⟨_, rfl, law_post laidOut hW' rfl rfl rfl Tryz.underlying4 (par_ok (by kernel_rfl)) hw⟩
theorem storeReplays_said : Rows.StoreReplaysSaid :=
 OpenClaim.holds_of_wide 5 Tryz.f5 rfl rfl rfl rfl rfl rfl rfl ⟨rfl, rfl, rfl, rfl, rfl⟩ rfl rfl rfl rfl rfl (by kernel_rfl) Tryz.func5 (by kernel_rfl)
  (of_decide_eq_true (by kernel_rfl)) (by unfold Func.isWrapper; first | (rw [if_pos (by decide +kernel)]; kernel_rfl) | (rw [if_neg (by decide +kernel)]; exact ⟨rfl, rfl⟩))
  (fun os started H enc _ => storeReplays_lifted os started H enc)
theorem storeReplays_holds : Rows.StoreReplaysCardSaid :=
 Claim7.holds_tied_plain_at .later [] _ _ _ _ storeReplays_said (fun _ h => by cases h) (by kernel_rfl) (fun _ h => by cases h) storeReplays_row_tie rfl ⟨rfl, rfl⟩ (by kernel_rfl) rfl
  (fun f fn hf hfn => by
   obtain rfl : f = 5 := Option.some.inj ((show Tryz.prog.funcNamed "liaison/liaisonlaw15.StoreReplays" = some 5 by kernel_rfl).symm.trans hf) |>.symm
   obtain rfl : fn = Tryz.f5 := (Option.some.inj (Tryz.func5.symm.trans hfn)).symm; exact ⟨by kernel_rfl, stand_ok (P := Tryz.prog) (by kernel_rfl)⟩)
  (by kernel_rfl)
end Go.Proofs.YtpemeenfhkgmpaaGreatDoor
