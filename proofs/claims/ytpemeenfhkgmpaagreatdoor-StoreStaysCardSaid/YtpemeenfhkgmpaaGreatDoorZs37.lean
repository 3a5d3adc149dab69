/-
  PARTS OF THIS PROOF (own work): LwS.
-/
import Derived.Test.YtpemeenfhkgmpaaGreatDoorZs36
import Derived.Test.YtpemeenfhkgmpaaGreatDoorZs35
namespace Go.Proofs.YtpemeenfhkgmpaaGreatDoor
open Go.RowKit Go.ChangeShapes Go.WideShapes

variable {w0 w w' W w3 : World} {B q : Nat} {m : StM} {gs : List AcG} {va vp : Value}

variable {ads : List Addr}
/-- all that a round asks of packages facts and store -/
theorem stays_rows (V : St ads w) (C : FacC ads w) (ok : OkS m) (a : Option Addr) (cap n : Nat) (hn : (factsS m).length = n) (hs : SlFc (.slice a n cap) (factsS m) w) : Calls Tryz.prog 17 #[.slice a n cap] w fun r w' => ∃ (a2 : Option Addr) (c2 : Nat), r = .returned (.tuple #[.slice a2 n c2, .nilIface]) ∧ SlBC (.slice a2 n c2) ((factsS m).map encF) w' ∧ Kp w w' := by
  refine (facRowsC_any ads a cap n (factsS m) hn (by have := factsS_le ok; omega) w V C hs).mono ?_
  rintro e w2 ⟨⟨_, a2, c2, rfl, h⟩ | ⟨h, _⟩, hk⟩
  · exact ⟨a2, c2, rfl, h, hk⟩
  · rw [all_right ok] at h; cases h
theorem stays_replay (C : FacC ads w) (E : EP [0, 3, 4, 8, 13] ads w) (ok : OkS m) (nd : Int) (hnd : m.node = nd) (a : Option Addr) (cap n : Nat) (hn : (factsS m).length = n) (hs : SlBC (.slice a n cap) ((factsS m).map encF) w) : Calls Tryz.prog 18 #[.int .i64 nd, .slice a n cap] w fun r w' => ∃ q, r = .returned (.tuple #[.pointer (some ⟨q, 0, none⟩), .nilIface]) ∧ (∃ gs va vp, GS tyL w.heap.size q m gs va vp w') ∧ Kp w w' := by
  subst hnd
  refine (lsReplay C E m.node a n cap ((factsS m).map encF) (by rw [List.length_map, hn]) (by have := factsS_le ok; omega) (fun b hb => by obtain ⟨f, _, rfl⟩ := List.mem_map.1 hb; have := encF_len f; omega) hs).mono ?_
  rintro e w2 (⟨h, _⟩ | ⟨_, ⟨h, _⟩ | ⟨m', h, _, q, rfl, hg, hk⟩⟩)
  · exact absurd ok.n h
  · rw [replay_rows ok] at h; cases h
  · rw [replay_rows ok] at h
    obtain rfl := Option.some.inj h
    exact ⟨q, rfl, hg, hk⟩
theorem stays_same {B' q' : Nat} {gs' : List AcG} {va' vp' : Value} (C : FacC ads w) (H : GS tyL B q m gs va vp w) (H' : GS tyL B' q' m gs' va' vp' w) (ok : OkS m) : Calls Tryz.prog 19 #[.pointer (some ⟨q, 0, none⟩), .pointer (some ⟨q', 0, none⟩)] w fun r w' => r = .returned (.bool true) ∧ Kp w w' := by
  refine (lsSame C H ok H' ok).mono ?_
  rintro e w2 ⟨rfl, hk⟩
  rw [sameL_refl]
  exact ⟨by simp, hk⟩
set_option maxRecDepth 100000 in
set_option maxHeartbeats 16000000 in
theorem stays_any (nd : Int) (v : Value) (fs : List FX) (V : St ads w) (C : FacC ads w) (E : EP [0, 3, 4, 8, 13] ads w) (hs : SlFc v fs w) : Calls Tryz.prog 7 #[.int .i64 nd, v] w fun r w' => r = .returned (.bool true) ∧ Kp w w' := by
  obtain ⟨a, cap, rfl, _⟩ := id hs
  obtain ⟨n, hn⟩ : ∃ n, fs.length = n := ⟨_, rfl⟩
  rw [hn] at hs ⊢
  obtain ⟨N, hN⟩ : ∃ N : Int, (n : Int) = N := ⟨_, rfl⟩
  have HAL := Lib.hid (alive15_any C E)
  by_cases hl : N > 60
  · have d1 := decide_eq_true hl
    clear V C E hs
    go_enter Tryz.func7, Tryz.ntmps7
    go_wp2_with (go_at_call 8; (with_reducible refine HAL.out.mono ?_); rintro e' w0 ⟨rfl, hk0⟩; have K0 := Lib.hid hk0; clear hk0)
    go_ret
    exact ⟨rfl, K0.out⟩
  have d1 := decide_eq_false hl
  have hnew := fun w1 (hk : Kp w w1) => lsNew (E.kp hk) nd
  by_cases hin : inN nd
  rotate_left
  · obtain ⟨p1, hp1⟩ := errI_some14 ads 1 (by decide)
    have hnew := fun w1 (hk : Kp w w1) => (hnew w1 hk).mono (R' := fun r w' => r = .returned (.tuple #[.pointer none, .iface 240 (.pointer p1)]) ∧ Kp w1 w') (by
      rintro e w2 (⟨_, rfl, hk2⟩ | ⟨h, _⟩)
      · rw [hp1]; exact ⟨rfl, hk2⟩
      · exact absurd h hin)
    have HNEW := Lib.hid hnew
    clear V C E hs hnew hin hp1
    go_enter Tryz.func7, Tryz.ntmps7
    go_wp2_with (first | (go_at_call 8; (with_reducible refine HAL.out.mono ?_); rintro e' w0 ⟨rfl, hk0⟩; have K0 := Lib.hid hk0; clear hk0) | (go_at_call 9; (with_reducible refine (HNEW.out _ K0.out).mono ?_); rintro e' w1 ⟨rfl, hk1⟩; have K1 := Lib.hid (Kp.trans K0.out hk1); clear hk1))
    go_ret
    exact ⟨rfl, K1.out⟩
  have hnew := fun w1 (hk : Kp w w1) => (hnew w1 hk).mono (R' := fun r w' => ∃ q, r = .returned (.tuple #[.pointer (some ⟨q, 0, none⟩), .nilIface]) ∧ GS tyL w1.heap.size q (newSt nd) [] (.slice none 0 0) (.slice none 0 0) w' ∧ Kp w1 w') (by
    rintro e w2 (⟨h, _⟩ | ⟨_, h⟩)
    · exact absurd hin h
    · exact h)
  have HNEW := Lib.hid hnew
  have HIN := Lib.hid hin
  have HC := Lib.hid C
  have HE := Lib.hid E
  have HV := Lib.hid V
  have HN := Lib.hid hn
  have HS := Lib.hid hs
  have HL := Lib.hid (show n ≤ 60 by omega)
  have HNN := Lib.hid hN
  have hsf := store_fl
  have HOK0 := Lib.hid (newSt_ok hin)
  clear hnew hin C E V hn hs hl
  go_enter Tryz.func7, Tryz.ntmps7
  go_wp2_with (first | (go_at_call 8; (with_reducible refine HAL.out.mono ?_); rintro e' w0 ⟨rfl, hk0⟩; have K0 := Lib.hid hk0; clear hk0) | (go_at_call 9; (with_reducible refine (HNEW.out _ K0.out).mono ?_); rintro e' w1 ⟨q, rfl, hg1, hk1⟩; have G1 := Lib.hid hg1; have K1 := Lib.hid (Kp.trans K0.out hk1); clear hg1 hk1))
  go_loopw [31] (fun i wr => ∃ (j : Nat) (m : StM) (gs : List AcG) (va vp : Value), j ≤ n ∧ i = .int .i64 j ∧ m.node = nd ∧ OkS m ∧ GS tyL w.heap.size q m gs va vp wr ∧ Kp w wr) (fun i _ => n - (intOf i).toNat)
  case atStart => exact ⟨0, newSt nd, [], _, _, Nat.zero_le _, rfl, rfl, HOK0.out, G1.out.base (kp_size K0.out), K1.out⟩
  case round =>
    obtain ⟨j, m, gs, va, vp, hj, rfl, hnd, hok, hg, hk⟩ := hrel
    obtain ⟨kk, hkk⟩ : ∃ x : Int, (j : Int) = x := ⟨_, rfl⟩
    rw [hkk]
    have HKK := Lib.hid hkk
    have KR := Lib.hid hk
    by_cases hlt : j < n
    · have hjl : kk < N := by have := HNN.out; omega
      have hk0 : 0 ≤ kk := by omega
      have htk : kk.toNat = j := by omega
      have hN8 : N ≤ 60 := by have := HNN.out; have := HL.out; omega
      have hw1 : wrap64 (kk + 1) = kk + 1 := IntWalk.wrap64_in _ (by omega)
      have HLT := Lib.hid hlt
      have hjx : j < fs.length := by have := HN.out; omega
      obtain ⟨bb, bo, rfl, hwf, hcell⟩ := (HS.out.kp hk).at j hjx
      obtain ⟨⟨fk, fn, fs, fr, fe, fp, fq, fo, fd, fa, ft, fh, fc, fx⟩, hF⟩ : ∃ f, fs[j]'hjx = f := ⟨_, rfl⟩
      rw [hF] at hwf hcell
      rw [← htk] at hcell
      have zf0 : wr.cell? ⟨bb, bo + kk.toNat * 14, none⟩ = some (.int .i64 fk) := hcell 0 _ rfl
      have zf1 : wr.cell? ⟨bb, bo + kk.toNat * 14 + 1, none⟩ = some (.int .i64 fn) := hcell 1 _ rfl
      have zf2 : wr.cell? ⟨bb, bo + kk.toNat * 14 + 2, none⟩ = some (.int .i64 fs) := hcell 2 _ rfl
      have zf3 : wr.cell? ⟨bb, bo + kk.toNat * 14 + 3, none⟩ = some (.int .i64 fr) := hcell 3 _ rfl
      have zf4 : wr.cell? ⟨bb, bo + kk.toNat * 14 + 4, none⟩ = some (.int .i64 fe) := hcell 4 _ rfl
      have zf5 : wr.cell? ⟨bb, bo + kk.toNat * 14 + 5, none⟩ = some (.int .i64 fp) := hcell 5 _ rfl
      have zf6 : wr.cell? ⟨bb, bo + kk.toNat * 14 + 6, none⟩ = some (.int .i64 fq) := hcell 6 _ rfl
      have zf7 : wr.cell? ⟨bb, bo + kk.toNat * 14 + 7, none⟩ = some (.int .i64 fo) := hcell 7 _ rfl
      have zf8 : wr.cell? ⟨bb, bo + kk.toNat * 14 + 8, none⟩ = some (.int .i64 fd) := hcell 8 _ rfl
      have zf9 : wr.cell? ⟨bb, bo + kk.toNat * 14 + 9, none⟩ = some (.int .i64 fa) := hcell 9 _ rfl
      have zf10 : wr.cell? ⟨bb, bo + kk.toNat * 14 + 10, none⟩ = some (.int .i64 ft) := hcell 10 _ rfl
      have zf11 : wr.cell? ⟨bb, bo + kk.toNat * 14 + 11, none⟩ = some (.int .i64 fh) := hcell 11 _ rfl
      have zf12 : wr.cell? ⟨bb, bo + kk.toNat * 14 + 12, none⟩ = some (.int .i64 fc) := hcell 12 _ rfl
      have zf13 : wr.cell? ⟨bb, bo + kk.toNat * 14 + 13, none⟩ = some (.float .f64 fx) := hcell 13 _ rfl
      have kb := kp_alloc wr (.cells #[.int .i64 fk, .int .i64 fn, .int .i64 fs, .int .i64 fr, .int .i64 fe, .int .i64 fp, .int .i64 fq, .int .i64 fo, .int .i64 fd, .int .i64 fa, .int .i64 ft, .int .i64 fh, .int .i64 fc, .float .f64 fx] 39)
      have CF0 := Lib.hid (MapKept.heap_alloc wr (.cells #[.int .i64 fk, .int .i64 fn, .int .i64 fs, .int .i64 fr, .int .i64 fe, .int .i64 fp, .int .i64 fq, .int .i64 fo, .int .i64 fd, .int .i64 fa, .int .i64 ft, .int .i64 fh, .int .i64 fc, .float .f64 fx] 39)).1
      obtain ⟨nF, hnF⟩ : ∃ x, (factsS m).length = x := ⟨_, rfl⟩
      have HFN := Lib.hid hnF
      have HWF := Lib.hid (factsS_wf hok)
      have HFA := Lib.hid (fun w1 (hk1 : Kp (wr.alloc (.cells #[.int .i64 fk, .int .i64 fn, .int .i64 fs, .int .i64 fr, .int .i64 fe, .int .i64 fp, .int .i64 fq, .int .i64 fo, .int .i64 fd, .int .i64 fa, .int .i64 ft, .int .i64 fh, .int .i64 fc, .float .f64 fx] 39)) w1) => lsFacts (hg.kp (Kp.trans kb hk1)) hok)
      have HRO := Lib.hid (fun s c w1 (hk1 : Kp (wr.alloc (.cells #[.int .i64 fk, .int .i64 fn, .int .i64 fs, .int .i64 fr, .int .i64 fe, .int .i64 fp, .int .i64 fq, .int .i64 fo, .int .i64 fd, .int .i64 fa, .int .i64 ft, .int .i64 fh, .int .i64 fc, .float .f64 fx] 39)) w1) h => stays_rows (HV.out.below (Kp.trans hk (Kp.trans kb hk1))) (HC.out.kp (Kp.trans hk (Kp.trans kb hk1))) hok s c nF hnF h)
      have HRE := Lib.hid (fun s c w1 (hk1 : Kp (wr.alloc (.cells #[.int .i64 fk, .int .i64 fn, .int .i64 fs, .int .i64 fr, .int .i64 fe, .int .i64 fp, .int .i64 fq, .int .i64 fo, .int .i64 fd, .int .i64 fa, .int .i64 ft, .int .i64 fh, .int .i64 fc, .float .f64 fx] 39)) w1) h => stays_replay (HC.out.kp (Kp.trans hk (Kp.trans kb hk1))) (HE.out.kp (Kp.trans hk (Kp.trans kb hk1))) hok nd hnd s c nF hnF h)
      have hap := fun w1 (hk1 : Kp (wr.alloc (.cells #[.int .i64 fk, .int .i64 fn, .int .i64 fs, .int .i64 fr, .int .i64 fe, .int .i64 fp, .int .i64 fq, .int .i64 fo, .int .i64 fd, .int .i64 fa, .int .i64 ft, .int .i64 fh, .int .i64 fc, .float .f64 fx] 39)) w1) => lsApply_any (HC.out.kp (Kp.trans hk (Kp.trans kb hk1))) (HE.out.kp (Kp.trans hk (Kp.trans kb hk1))) (hg.kp (Kp.trans kb hk1)) hok (⟨fk, fn, fs, fr, fe, fp, fq, fo, fd, fa, ft, fh, fc, fx⟩ : FX) hwf
      dsimp only [FX.cells] at hap
      have HG := Lib.hid (hg.kp kb)
      have HOK := Lib.hid hok
      have HND := Lib.hid hnd
      have HOW := Lib.hid (show ∀ b, Ow q gs va vp b → w.heap.size ≤ b from fun b hb => (hg.mem b hb).1)
      have KB := Lib.hid kb
      have HWX := Lib.hid hwf
      by_cases ha0 : (applyQ m (⟨fk, fn, fs, fr, fe, fp, fq, fo, fd, fa, ft, fh, fc, fx⟩ : FX)).1 = 0
      rotate_left
      · have hst := applyQ_stay ha0
        obtain ⟨AQ, hAQ⟩ : ∃ x, applyQ m (⟨fk, fn, fs, fr, fe, fp, fq, fo, fd, fa, ft, fh, fc, fx⟩ : FX) = x := ⟨_, rfl⟩
        rw [hAQ] at hap ha0 hst
        obtain ⟨ac, m2⟩ := AQ
        dsimp only at hap ha0 hst
        subst hst
        obtain ⟨pe, hpe⟩ := errI_some14 ads ac ha0
        rw [hpe] at hap
        have HAP := Lib.hid hap
        clear hkk hj hlt hnd hok hg hk htk hjx hwf hcell hF kb hnF hap ha0 hAQ hpe
        go_wp2_with (first | (go_at_call 14; (with_reducible refine (HFA.out _ (Kp.refl _)).mono ?_); rintro e' w2 ⟨v1, rfl, o1, hk2⟩; obtain ⟨s1, c1, rfl⟩ := own_formG o1; have K2 := Lib.hid hk2; have S2 := Lib.hid (own_slfc o1 rfl HWF.out); rw [HFN.out] at S2 ⊢; clear o1 hk2) | (go_at_call 17; (with_reducible refine (HRO.out s1 c1 _ K2.out S2.out).mono ?_); rintro e' w3 ⟨a2, c2, rfl, hsl, hk3⟩; have K3 := Lib.hid (Kp.trans K2.out hk3); have S3 := Lib.hid hsl; clear hsl hk3) | (go_at_call 18; (with_reducible refine (HRE.out a2 c2 _ K3.out S3.out).mono ?_); rintro e' w4 ⟨qw, rfl, ⟨gsw, vaw, vpw, hgw⟩, hk4⟩; have K4 := Lib.hid (Kp.trans K3.out hk4); have GW := Lib.hid hgw; have G4 := Lib.hid (HG.out.kp K4.out); have DJ := Lib.hid (show ∀ b, Ow qw gsw vaw vpw b → ¬ Ow q gs va vp b from fun b hb hb2 => absurd ((HG.out.kp K3.out).mem b hb2).2 (by have := (hgw.mem b hb).1; omega)); have R4 := Lib.hid (kp_row K4.out CF0.out); obtain ⟨u0, u1, u2, u3, u4, u5, u6, u7, u8, u9, u10, u11, u12, u13⟩ := cells14 R4.out; clear hgw hk4) | (go_at_call 11; (with_reducible refine (HAP.out _ K4.out).mono ?_); rintro e' w5 ⟨rfl, gs2, va2, vp2, hg5, ha5⟩; have G5 := Lib.hid hg5; have A5 := Lib.hid ha5; have GW5 := Lib.hid (GW.out.beside ha5 DJ.out); have R5 := Lib.hid ((ha5.block _ (old_of_row R4.out) (ow_not G4.out R4.out (by decide) (by decide) (by decide) (by decide))).trans R4.out); have K5 := Lib.hid (ha5.kp (Kp.trans KR.out (Kp.trans KB.out K4.out)) HOW.out); clear hg5 ha5) | (go_at_call 19; (with_reducible refine (stays_same (HC.out.kp K5.out) GW5.out G5.out HOK.out).mono ?_); rintro e' w6 ⟨rfl, hk6⟩; have K56 := Lib.hid hk6; clear hk6))
        go_roundw
        case rel => exact ⟨j + 1, m2, gs2, va2, vp2, by have := HLT.out; omega, by have := HKK.out; first | rw [show ((j + 1 : Nat) : Int) = kk + 1 by omega] | rw [show ((j + 1 : Nat) : Int) = kk + 1 by omega, hw1], HND.out, HOK.out, G5.out.kp K56.out, Kp.trans K5.out K56.out⟩
        case measure => have := HKK.out; have := HLT.out; simp [intOf]; omega
      · have hen := fun i x hx hz => applyQ_ended (f := (⟨fk, fn, fs, fr, fe, fp, fq, fo, fd, fa, ft, fh, fc, fx⟩ : FX)) ha0 i x hx hz
        have htw := fun h3 h8 => applyQ_twice (f := (⟨fk, fn, fs, fr, fe, fp, fq, fo, fd, fa, ft, fh, fc, fx⟩ : FX)) hok ha0 h3 h8
        have hok2 := applyQ_ok (f := (⟨fk, fn, fs, fr, fe, fp, fq, fo, fd, fa, ft, fh, fc, fx⟩ : FX)) hok
        have hnd2 := applyQ_node (m := m) (f := (⟨fk, fn, fs, fr, fe, fp, fq, fo, fd, fa, ft, fh, fc, fx⟩ : FX))
        obtain ⟨m2, hm2⟩ : ∃ x, (applyQ m (⟨fk, fn, fs, fr, fe, fp, fq, fo, fd, fa, ft, fh, fc, fx⟩ : FX)).2 = x := ⟨_, rfl⟩
        have hAQ : applyQ m (⟨fk, fn, fs, fr, fe, fp, fq, fo, fd, fa, ft, fh, fc, fx⟩ : FX) = (0, m2) := Prod.ext ha0 hm2
        rw [hAQ] at hap
        rw [hm2] at hen htw hok2 hnd2
        dsimp only at hap htw
        rw [errI_nil] at hap
        have HAP := Lib.hid hap
        have HEN := Lib.hid hen
        have HOK2 := Lib.hid hok2
        have HND2 := Lib.hid (hnd2.trans hnd)
        have HP8 := Lib.hid hok.p8
        obtain ⟨np, hnp⟩ : ∃ x, m.parts.length = x := ⟨_, rfl⟩
        have HNP := Lib.hid hnp
        obtain ⟨NP, hNP⟩ : ∃ x : Int, (np : Int) = x := ⟨_, rfl⟩
        have HNPI := Lib.hid hNP
        clear hkk hj hlt hnd hok hg hk htk hjx hwf hcell hF kb hnF hap ha0 hAQ hm2 hen hok2 hnd2 hnp
        by_cases h3 : fk = 3
        · have g3 : (fk == 3) = true := beq_iff_eq.2 h3
          have g3' : (fk != 3) = false := by simp [h3]
          clear htw h3
          go_wp2_with (first | (go_at_call 14; (with_reducible refine (HFA.out _ (Kp.refl _)).mono ?_); rintro e' w2 ⟨v1, rfl, o1, hk2⟩; obtain ⟨s1, c1, rfl⟩ := own_formG o1; have K2 := Lib.hid hk2; have S2 := Lib.hid (own_slfc o1 rfl HWF.out); rw [HFN.out] at S2 ⊢; clear o1 hk2) | (go_at_call 17; (with_reducible refine (HRO.out s1 c1 _ K2.out S2.out).mono ?_); rintro e' w3 ⟨a2, c2, rfl, hsl, hk3⟩; have K3 := Lib.hid (Kp.trans K2.out hk3); have S3 := Lib.hid hsl; clear hsl hk3) | (go_at_call 18; (with_reducible refine (HRE.out a2 c2 _ K3.out S3.out).mono ?_); rintro e' w4 ⟨qw, rfl, ⟨gsw, vaw, vpw, hgw⟩, hk4⟩; have K4 := Lib.hid (Kp.trans K3.out hk4); have GW := Lib.hid hgw; have G4 := Lib.hid (HG.out.kp K4.out); have DJ := Lib.hid (show ∀ b, Ow qw gsw vaw vpw b → ¬ Ow q gs va vp b from fun b hb hb2 => absurd ((HG.out.kp K3.out).mem b hb2).2 (by have := (hgw.mem b hb).1; omega)); have R4 := Lib.hid (kp_row K4.out CF0.out); obtain ⟨u0, u1, u2, u3, u4, u5, u6, u7, u8, u9, u10, u11, u12, u13⟩ := cells14 R4.out; clear hgw hk4) | (go_at_call 11; (with_reducible refine (HAP.out _ K4.out).mono ?_); rintro e' w5 ⟨rfl, gs2, va2, vp2, hg5, ha5⟩; have G5 := Lib.hid hg5; have A5 := Lib.hid ha5; have GW5 := Lib.hid (GW.out.beside ha5 DJ.out); have R5 := Lib.hid ((ha5.block _ (old_of_row R4.out) (ow_not G4.out R4.out (by decide) (by decide) (by decide) (by decide))).trans R4.out); have K5 := Lib.hid (ha5.kp (Kp.trans KR.out (Kp.trans KB.out K4.out)) HOW.out); obtain ⟨ce0, ce1, ce2, ce3, ce4, ce5, ce6, ce7, ce8, ce9, ce10, ce11, ce12, ce13⟩ := cells14 R5.out; clear hg5 ha5) | (go_at_call 23; (with_reducible refine (stParts GW5.out HP8.out).mono ?_); rintro e' w7 ⟨v7, rfl, o7, hk7⟩; obtain ⟨s7, c7, rfl⟩ := own_formG o7; rw [HNP.out] at o7 ⊢; have O7 := Lib.hid o7; have G7 := Lib.hid (G5.out.kp hk7); have K7 := Lib.hid (Kp.trans K5.out hk7); clear o7 hk7))
          go_loopw [76] (fun i wr => ∃ l : Nat, l ≤ np ∧ i = .int .i64 l ∧ Kp w7 wr) (fun i _ => np - (intOf i).toNat)
          case atStart => exact ⟨0, Nat.zero_le _, rfl, Kp.refl _⟩
          case round =>
            obtain ⟨l, hl, rfl, hkq⟩ := hrel
            obtain ⟨ll, hll⟩ : ∃ x : Int, (l : Int) = x := ⟨_, rfl⟩
            rw [hll]
            have HLLI := Lib.hid hll
            have KQ := Lib.hid hkq
            by_cases hlt2 : l < np
            · have hln : ll < NP := by have := HNPI.out; omega
              have hl0 : 0 ≤ ll := by omega
              have htl : ll.toNat = l := by omega
              have hnp8 : NP ≤ 8 := by have := HNPI.out; have := HP8.out; have := HNP.out; omega
              have hw2 : wrap64 (ll + 1) = ll + 1 := IntWalk.wrap64_in _ (by omega)
              have HLT2 := Lib.hid hlt2
              have hlx : l < m.parts.length := by have := HNP.out; omega
              obtain ⟨gr, ck, exb, hck, hgrB, hgrl, hfzr, hcr⟩ := own_cellQ (E := paE) (own_kp O7.out hkq) HNP.out hlt2
              obtain ⟨⟨yn, ys, yr, ⟨y1, y2, y3, y4⟩⟩, hy⟩ : ∃ r, m.parts[l]'hlx = r := ⟨_, rfl⟩
              have hcr2 : ∀ (i : Nat) (u : Value), i < paE.k → (paE.enc (m.parts[l]'hlx))[i]? = some u → wr.cell? ⟨gr, l * paE.k + i, none⟩ = some u := hcr
              rw [hy, show paE.k = 7 from rfl, ← htl] at hcr2
              have exb := congrArg (fun v => match v with | Value.slice a _ _ => a | _ => none) exb
              dsimp only at exb
              subst exb
              have z0 : wr.cell? ⟨gr, ll.toNat * 7, none⟩ = some (.int .i64 yn) := hcr2 0 _ (by decide) rfl
              have z1 : wr.cell? ⟨gr, ll.toNat * 7 + 1, none⟩ = some (.int .i64 ys) := hcr2 1 _ (by decide) rfl
              have z2 : wr.cell? ⟨gr, ll.toNat * 7 + 2, none⟩ = some (.int .i64 yr) := hcr2 2 _ (by decide) rfl
              have z3 : wr.cell? ⟨gr, ll.toNat * 7 + 3, none⟩ = some (.int .i64 y1) := hcr2 3 _ (by decide) rfl
              have z4 : wr.cell? ⟨gr, ll.toNat * 7 + 4, none⟩ = some (.int .i64 y2) := hcr2 4 _ (by decide) rfl
              have z5 : wr.cell? ⟨gr, ll.toNat * 7 + 5, none⟩ = some (.int .i64 y3) := hcr2 5 _ (by decide) rfl
              have z6 : wr.cell? ⟨gr, ll.toNat * 7 + 6, none⟩ = some (.int .i64 y4) := hcr2 6 _ (by decide) rfl
              obtain ⟨d0, d1, d2, d3, d4, d5, d6⟩ := cells_7 (MapKept.heap_alloc wr (.cells #[.int .i64 yn, .int .i64 ys, .int .i64 yr, .int .i64 y1, .int .i64 y2, .int .i64 y3, .int .i64 y4] 75)).1
              clear hcr hck hgrB hgrl hfzr
              by_cases h14 : y3 = 14
              · have g14 : (y3 == 14) = true := beq_iff_eq.2 h14
                obtain ⟨y', hy1, hyz⟩ := HEN.out l _ (List.getElem?_eq_getElem hlx) (by rw [hy]; exact h14)
                rw [hy] at hyz
                have hpq : partQ m2 ll = some y' := by unfold partQ; rw [if_pos hl0, htl]; exact hy1
                have hne := fun w => seat15_neq y1 y2 y3 y4 w
                have hgd := fun op x y (w : World) => seat15_guard op x y y1 y2 y3 y4 y1 y2 y3 y4 w
                have hpt := (stPart (G7.out.kp (Kp.trans hkq (kp_alloc wr (.cells #[.int .i64 yn, .int .i64 ys, .int .i64 yr, .int .i64 y1, .int .i64 y2, .int .i64 y3, .int .i64 y4] 75)))) ll).mono (R' := fun r w' => ∃ (xn xs xr : Int), r = .returned (.tuple #[.agg #[.int .i64 xn, .int .i64 xs, .int .i64 xr, .int .i64 y1, .int .i64 y2, .int .i64 y3, .int .i64 y4], .bool true]) ∧ Kp (wr.alloc (.cells #[.int .i64 yn, .int .i64 ys, .int .i64 yr, .int .i64 y1, .int .i64 y2, .int .i64 y3, .int .i64 y4] 75)) w') (by
                        rintro e w8 ⟨x, rfl, hx, hk8⟩
                        rw [hpq] at hx ⊢
                        dsimp only at hx
                        subst hx
                        obtain ⟨xn, xs, xr, xz⟩ := x
                        dsimp only at hyz
                        subst hyz
                        exact ⟨xn, xs, xr, rfl, hk8⟩)
                have HPT := Lib.hid hpt
                clear hpt hpq hy1 hyz h14 hkq hcr2 hy hlx htl hlt2 hll hl
                go_wp2_with (go_at_call 25; (with_reducible refine HPT.out.mono ?_); rintro e' w8 ⟨xn, xs, xr, rfl, hk8⟩; have e3 := kp_cell (Kp.trans hk8 (kp_alloc w8 (.cells #[.int .i64 xn, .int .i64 xs, .int .i64 xr, .int .i64 y1, .int .i64 y2, .int .i64 y3, .int .i64 y4] 75))) d3; have e4 := kp_cell (Kp.trans hk8 (kp_alloc w8 (.cells #[.int .i64 xn, .int .i64 xs, .int .i64 xr, .int .i64 y1, .int .i64 y2, .int .i64 y3, .int .i64 y4] 75))) d4; have e5 := kp_cell (Kp.trans hk8 (kp_alloc w8 (.cells #[.int .i64 xn, .int .i64 xs, .int .i64 xr, .int .i64 y1, .int .i64 y2, .int .i64 y3, .int .i64 y4] 75))) d5; have e6 := kp_cell (Kp.trans hk8 (kp_alloc w8 (.cells #[.int .i64 xn, .int .i64 xs, .int .i64 xr, .int .i64 y1, .int .i64 y2, .int .i64 y3, .int .i64 y4] 75))) d6; obtain ⟨t0, t1, t2, t3, t4, t5, t6⟩ := cells_7 (MapKept.heap_alloc w8 (.cells #[.int .i64 xn, .int .i64 xs, .int .i64 xr, .int .i64 y1, .int .i64 y2, .int .i64 y3, .int .i64 y4] 75)).1; have K8 := Lib.hid (Kp.trans KQ.out (Kp.trans (kp_alloc wr (.cells #[.int .i64 yn, .int .i64 ys, .int .i64 yr, .int .i64 y1, .int .i64 y2, .int .i64 y3, .int .i64 y4] 75)) (Kp.trans hk8 (kp_alloc w8 (.cells #[.int .i64 xn, .int .i64 xs, .int .i64 xr, .int .i64 y1, .int .i64 y2, .int .i64 y3, .int .i64 y4] 75))))); clear hk8 d0 d1 d2 d3 d4 d5 d6)
                go_roundw
                case rel => exact ⟨l + 1, by have := HLT2.out; omega, by have := HLLI.out; first | rw [show ((l + 1 : Nat) : Int) = ll + 1 by omega] | rw [show ((l + 1 : Nat) : Int) = ll + 1 by omega, hw2], K8.out⟩
                case measure => have := HLLI.out; have := HLT2.out; simp [intOf]; omega
              · have g14 : (y3 == 14) = false := by simpa using h14
                have hpt := (stPart (G7.out.kp (Kp.trans hkq (kp_alloc wr (.cells #[.int .i64 yn, .int .i64 ys, .int .i64 yr, .int .i64 y1, .int .i64 y2, .int .i64 y3, .int .i64 y4] 75)))) ll).mono (R' := fun r w' => ∃ (xn xs xr x1 x2 x3 x4 : Int) (tb : Bool), r = .returned (.tuple #[.agg #[.int .i64 xn, .int .i64 xs, .int .i64 xr, .int .i64 x1, .int .i64 x2, .int .i64 x3, .int .i64 x4], .bool tb]) ∧ Kp (wr.alloc (.cells #[.int .i64 yn, .int .i64 ys, .int .i64 yr, .int .i64 y1, .int .i64 y2, .int .i64 y3, .int .i64 y4] 75)) w') (by
                        rintro e w8 ⟨x, rfl, _, hk8⟩
                        obtain ⟨xn, xs, xr, ⟨x1, x2, x3, x4⟩⟩ := x
                        exact ⟨xn, xs, xr, x1, x2, x3, x4, _, rfl, hk8⟩)
                have HPT := Lib.hid hpt
                clear hpt h14 hkq hcr2 hy hlx htl hlt2 hll hl
                go_wp2_with (go_at_call 25; (with_reducible refine HPT.out.mono ?_); rintro e' w8 ⟨xn, xs, xr, x1, x2, x3, x4, tb, rfl, hk8⟩; have e3 := kp_cell (Kp.trans hk8 (kp_alloc w8 (.cells #[.int .i64 xn, .int .i64 xs, .int .i64 xr, .int .i64 x1, .int .i64 x2, .int .i64 x3, .int .i64 x4] 75))) d3; have e4 := kp_cell (Kp.trans hk8 (kp_alloc w8 (.cells #[.int .i64 xn, .int .i64 xs, .int .i64 xr, .int .i64 x1, .int .i64 x2, .int .i64 x3, .int .i64 x4] 75))) d4; have e5 := kp_cell (Kp.trans hk8 (kp_alloc w8 (.cells #[.int .i64 xn, .int .i64 xs, .int .i64 xr, .int .i64 x1, .int .i64 x2, .int .i64 x3, .int .i64 x4] 75))) d5; have e6 := kp_cell (Kp.trans hk8 (kp_alloc w8 (.cells #[.int .i64 xn, .int .i64 xs, .int .i64 xr, .int .i64 x1, .int .i64 x2, .int .i64 x3, .int .i64 x4] 75))) d6; obtain ⟨t0, t1, t2, t3, t4, t5, t6⟩ := cells_7 (MapKept.heap_alloc w8 (.cells #[.int .i64 xn, .int .i64 xs, .int .i64 xr, .int .i64 x1, .int .i64 x2, .int .i64 x3, .int .i64 x4] 75)).1; have K8 := Lib.hid (Kp.trans KQ.out (Kp.trans (kp_alloc wr (.cells #[.int .i64 yn, .int .i64 ys, .int .i64 yr, .int .i64 y1, .int .i64 y2, .int .i64 y3, .int .i64 y4] 75)) (Kp.trans hk8 (kp_alloc w8 (.cells #[.int .i64 xn, .int .i64 xs, .int .i64 xr, .int .i64 x1, .int .i64 x2, .int .i64 x3, .int .i64 x4] 75))))); clear hk8 d0 d1 d2 d3 d4 d5 d6)
                go_roundw
                case rel => exact ⟨l + 1, by have := HLT2.out; omega, by have := HLLI.out; first | rw [show ((l + 1 : Nat) : Int) = ll + 1 by omega] | rw [show ((l + 1 : Nat) : Int) = ll + 1 by omega, hw2], K8.out⟩
                case measure => have := HLLI.out; have := HLT2.out; simp [intOf]; omega
            · have hle : ¬ ll < NP := by have := HNPI.out; omega
              clear hll hl hlt2
              have KZ := Lib.hid (Kp.trans K7.out hkq)
              have GZ := Lib.hid (G7.out.kp hkq)
              clear hkq
              go_wp2
              go_roundw
              case rel => exact ⟨j + 1, m2, _, _, _, by have := HLT.out; omega, by have := HKK.out; first | rw [show ((j + 1 : Nat) : Int) = kk + 1 by omega] | rw [show ((j + 1 : Nat) : Int) = kk + 1 by omega, hw1], HND2.out, HOK2.out, GZ.out, KZ.out⟩
              case measure => have := HKK.out; have := HLT.out; simp [intOf]; omega
        by_cases h8 : fk = 8
        · have g3 : (fk == 3) = false := by simpa using h3
          have g3' : (fk != 3) = true := by simp [h3]
          have g8 : (fk == 8) = true := beq_iff_eq.2 h8
          have g8' : (fk != 8) = false := by simp [h8]
          clear htw h3 h8
          go_wp2_with (first | (go_at_call 14; (with_reducible refine (HFA.out _ (Kp.refl _)).mono ?_); rintro e' w2 ⟨v1, rfl, o1, hk2⟩; obtain ⟨s1, c1, rfl⟩ := own_formG o1; have K2 := Lib.hid hk2; have S2 := Lib.hid (own_slfc o1 rfl HWF.out); rw [HFN.out] at S2 ⊢; clear o1 hk2) | (go_at_call 17; (with_reducible refine (HRO.out s1 c1 _ K2.out S2.out).mono ?_); rintro e' w3 ⟨a2, c2, rfl, hsl, hk3⟩; have K3 := Lib.hid (Kp.trans K2.out hk3); have S3 := Lib.hid hsl; clear hsl hk3) | (go_at_call 18; (with_reducible refine (HRE.out a2 c2 _ K3.out S3.out).mono ?_); rintro e' w4 ⟨qw, rfl, ⟨gsw, vaw, vpw, hgw⟩, hk4⟩; have K4 := Lib.hid (Kp.trans K3.out hk4); have GW := Lib.hid hgw; have G4 := Lib.hid (HG.out.kp K4.out); have DJ := Lib.hid (show ∀ b, Ow qw gsw vaw vpw b → ¬ Ow q gs va vp b from fun b hb hb2 => absurd ((HG.out.kp K3.out).mem b hb2).2 (by have := (hgw.mem b hb).1; omega)); have R4 := Lib.hid (kp_row K4.out CF0.out); obtain ⟨u0, u1, u2, u3, u4, u5, u6, u7, u8, u9, u10, u11, u12, u13⟩ := cells14 R4.out; clear hgw hk4) | (go_at_call 11; (with_reducible refine (HAP.out _ K4.out).mono ?_); rintro e' w5 ⟨rfl, gs2, va2, vp2, hg5, ha5⟩; have G5 := Lib.hid hg5; have A5 := Lib.hid ha5; have GW5 := Lib.hid (GW.out.beside ha5 DJ.out); have R5 := Lib.hid ((ha5.block _ (old_of_row R4.out) (ow_not G4.out R4.out (by decide) (by decide) (by decide) (by decide))).trans R4.out); have K5 := Lib.hid (ha5.kp (Kp.trans KR.out (Kp.trans KB.out K4.out)) HOW.out); obtain ⟨ce0, ce1, ce2, ce3, ce4, ce5, ce6, ce7, ce8, ce9, ce10, ce11, ce12, ce13⟩ := cells14 R5.out; clear hg5 ha5) | (go_at_call 23; (with_reducible refine (stParts GW5.out HP8.out).mono ?_); rintro e' w7 ⟨v7, rfl, o7, hk7⟩; obtain ⟨s7, c7, rfl⟩ := own_formG o7; rw [HNP.out] at o7 ⊢; have O7 := Lib.hid o7; have G7 := Lib.hid (G5.out.kp hk7); have K7 := Lib.hid (Kp.trans K5.out hk7); clear o7 hk7))
          go_loopw [76] (fun i wr => ∃ l : Nat, l ≤ np ∧ i = .int .i64 l ∧ Kp w7 wr) (fun i _ => np - (intOf i).toNat)
          case atStart => exact ⟨0, Nat.zero_le _, rfl, Kp.refl _⟩
          case round =>
            obtain ⟨l, hl, rfl, hkq⟩ := hrel
            obtain ⟨ll, hll⟩ : ∃ x : Int, (l : Int) = x := ⟨_, rfl⟩
            rw [hll]
            have HLLI := Lib.hid hll
            have KQ := Lib.hid hkq
            by_cases hlt2 : l < np
            · have hln : ll < NP := by have := HNPI.out; omega
              have hl0 : 0 ≤ ll := by omega
              have htl : ll.toNat = l := by omega
              have hnp8 : NP ≤ 8 := by have := HNPI.out; have := HP8.out; have := HNP.out; omega
              have hw2 : wrap64 (ll + 1) = ll + 1 := IntWalk.wrap64_in _ (by omega)
              have HLT2 := Lib.hid hlt2
              have hlx : l < m.parts.length := by have := HNP.out; omega
              obtain ⟨gr, ck, exb, hck, hgrB, hgrl, hfzr, hcr⟩ := own_cellQ (E := paE) (own_kp O7.out hkq) HNP.out hlt2
              obtain ⟨⟨yn, ys, yr, ⟨y1, y2, y3, y4⟩⟩, hy⟩ : ∃ r, m.parts[l]'hlx = r := ⟨_, rfl⟩
              have hcr2 : ∀ (i : Nat) (u : Value), i < paE.k → (paE.enc (m.parts[l]'hlx))[i]? = some u → wr.cell? ⟨gr, l * paE.k + i, none⟩ = some u := hcr
              rw [hy, show paE.k = 7 from rfl, ← htl] at hcr2
              have exb := congrArg (fun v => match v with | Value.slice a _ _ => a | _ => none) exb
              dsimp only at exb
              subst exb
              have z0 : wr.cell? ⟨gr, ll.toNat * 7, none⟩ = some (.int .i64 yn) := hcr2 0 _ (by decide) rfl
              have z1 : wr.cell? ⟨gr, ll.toNat * 7 + 1, none⟩ = some (.int .i64 ys) := hcr2 1 _ (by decide) rfl
              have z2 : wr.cell? ⟨gr, ll.toNat * 7 + 2, none⟩ = some (.int .i64 yr) := hcr2 2 _ (by decide) rfl
              have z3 : wr.cell? ⟨gr, ll.toNat * 7 + 3, none⟩ = some (.int .i64 y1) := hcr2 3 _ (by decide) rfl
              have z4 : wr.cell? ⟨gr, ll.toNat * 7 + 4, none⟩ = some (.int .i64 y2) := hcr2 4 _ (by decide) rfl
              have z5 : wr.cell? ⟨gr, ll.toNat * 7 + 5, none⟩ = some (.int .i64 y3) := hcr2 5 _ (by decide) rfl
              have z6 : wr.cell? ⟨gr, ll.toNat * 7 + 6, none⟩ = some (.int .i64 y4) := hcr2 6 _ (by decide) rfl
              obtain ⟨d0, d1, d2, d3, d4, d5, d6⟩ := cells_7 (MapKept.heap_alloc wr (.cells #[.int .i64 yn, .int .i64 ys, .int .i64 yr, .int .i64 y1, .int .i64 y2, .int .i64 y3, .int .i64 y4] 75)).1
              clear hcr hck hgrB hgrl hfzr
              by_cases h14 : y3 = 14
              · have g14 : (y3 == 14) = true := beq_iff_eq.2 h14
                obtain ⟨y', hy1, hyz⟩ := HEN.out l _ (List.getElem?_eq_getElem hlx) (by rw [hy]; exact h14)
                rw [hy] at hyz
                have hpq : partQ m2 ll = some y' := by unfold partQ; rw [if_pos hl0, htl]; exact hy1
                have hne := fun w => seat15_neq y1 y2 y3 y4 w
                have hgd := fun op x y (w : World) => seat15_guard op x y y1 y2 y3 y4 y1 y2 y3 y4 w
                have hpt := (stPart (G7.out.kp (Kp.trans hkq (kp_alloc wr (.cells #[.int .i64 yn, .int .i64 ys, .int .i64 yr, .int .i64 y1, .int .i64 y2, .int .i64 y3, .int .i64 y4] 75)))) ll).mono (R' := fun r w' => ∃ (xn xs xr : Int), r = .returned (.tuple #[.agg #[.int .i64 xn, .int .i64 xs, .int .i64 xr, .int .i64 y1, .int .i64 y2, .int .i64 y3, .int .i64 y4], .bool true]) ∧ Kp (wr.alloc (.cells #[.int .i64 yn, .int .i64 ys, .int .i64 yr, .int .i64 y1, .int .i64 y2, .int .i64 y3, .int .i64 y4] 75)) w') (by
                        rintro e w8 ⟨x, rfl, hx, hk8⟩
                        rw [hpq] at hx ⊢
                        dsimp only at hx
                        subst hx
                        obtain ⟨xn, xs, xr, xz⟩ := x
                        dsimp only at hyz
                        subst hyz
                        exact ⟨xn, xs, xr, rfl, hk8⟩)
                have HPT := Lib.hid hpt
                clear hpt hpq hy1 hyz h14 hkq hcr2 hy hlx htl hlt2 hll hl
                go_wp2_with (go_at_call 25; (with_reducible refine HPT.out.mono ?_); rintro e' w8 ⟨xn, xs, xr, rfl, hk8⟩; have e3 := kp_cell (Kp.trans hk8 (kp_alloc w8 (.cells #[.int .i64 xn, .int .i64 xs, .int .i64 xr, .int .i64 y1, .int .i64 y2, .int .i64 y3, .int .i64 y4] 75))) d3; have e4 := kp_cell (Kp.trans hk8 (kp_alloc w8 (.cells #[.int .i64 xn, .int .i64 xs, .int .i64 xr, .int .i64 y1, .int .i64 y2, .int .i64 y3, .int .i64 y4] 75))) d4; have e5 := kp_cell (Kp.trans hk8 (kp_alloc w8 (.cells #[.int .i64 xn, .int .i64 xs, .int .i64 xr, .int .i64 y1, .int .i64 y2, .int .i64 y3, .int .i64 y4] 75))) d5; have e6 := kp_cell (Kp.trans hk8 (kp_alloc w8 (.cells #[.int .i64 xn, .int .i64 xs, .int .i64 xr, .int .i64 y1, .int .i64 y2, .int .i64 y3, .int .i64 y4] 75))) d6; obtain ⟨t0, t1, t2, t3, t4, t5, t6⟩ := cells_7 (MapKept.heap_alloc w8 (.cells #[.int .i64 xn, .int .i64 xs, .int .i64 xr, .int .i64 y1, .int .i64 y2, .int .i64 y3, .int .i64 y4] 75)).1; have K8 := Lib.hid (Kp.trans KQ.out (Kp.trans (kp_alloc wr (.cells #[.int .i64 yn, .int .i64 ys, .int .i64 yr, .int .i64 y1, .int .i64 y2, .int .i64 y3, .int .i64 y4] 75)) (Kp.trans hk8 (kp_alloc w8 (.cells #[.int .i64 xn, .int .i64 xs, .int .i64 xr, .int .i64 y1, .int .i64 y2, .int .i64 y3, .int .i64 y4] 75))))); clear hk8 d0 d1 d2 d3 d4 d5 d6)
                go_roundw
                case rel => exact ⟨l + 1, by have := HLT2.out; omega, by have := HLLI.out; first | rw [show ((l + 1 : Nat) : Int) = ll + 1 by omega] | rw [show ((l + 1 : Nat) : Int) = ll + 1 by omega, hw2], K8.out⟩
                case measure => have := HLLI.out; have := HLT2.out; simp [intOf]; omega
              · have g14 : (y3 == 14) = false := by simpa using h14
                have hpt := (stPart (G7.out.kp (Kp.trans hkq (kp_alloc wr (.cells #[.int .i64 yn, .int .i64 ys, .int .i64 yr, .int .i64 y1, .int .i64 y2, .int .i64 y3, .int .i64 y4] 75)))) ll).mono (R' := fun r w' => ∃ (xn xs xr x1 x2 x3 x4 : Int) (tb : Bool), r = .returned (.tuple #[.agg #[.int .i64 xn, .int .i64 xs, .int .i64 xr, .int .i64 x1, .int .i64 x2, .int .i64 x3, .int .i64 x4], .bool tb]) ∧ Kp (wr.alloc (.cells #[.int .i64 yn, .int .i64 ys, .int .i64 yr, .int .i64 y1, .int .i64 y2, .int .i64 y3, .int .i64 y4] 75)) w') (by
                        rintro e w8 ⟨x, rfl, _, hk8⟩
                        obtain ⟨xn, xs, xr, ⟨x1, x2, x3, x4⟩⟩ := x
                        exact ⟨xn, xs, xr, x1, x2, x3, x4, _, rfl, hk8⟩)
                have HPT := Lib.hid hpt
                clear hpt h14 hkq hcr2 hy hlx htl hlt2 hll hl
                go_wp2_with (go_at_call 25; (with_reducible refine HPT.out.mono ?_); rintro e' w8 ⟨xn, xs, xr, x1, x2, x3, x4, tb, rfl, hk8⟩; have e3 := kp_cell (Kp.trans hk8 (kp_alloc w8 (.cells #[.int .i64 xn, .int .i64 xs, .int .i64 xr, .int .i64 x1, .int .i64 x2, .int .i64 x3, .int .i64 x4] 75))) d3; have e4 := kp_cell (Kp.trans hk8 (kp_alloc w8 (.cells #[.int .i64 xn, .int .i64 xs, .int .i64 xr, .int .i64 x1, .int .i64 x2, .int .i64 x3, .int .i64 x4] 75))) d4; have e5 := kp_cell (Kp.trans hk8 (kp_alloc w8 (.cells #[.int .i64 xn, .int .i64 xs, .int .i64 xr, .int .i64 x1, .int .i64 x2, .int .i64 x3, .int .i64 x4] 75))) d5; have e6 := kp_cell (Kp.trans hk8 (kp_alloc w8 (.cells #[.int .i64 xn, .int .i64 xs, .int .i64 xr, .int .i64 x1, .int .i64 x2, .int .i64 x3, .int .i64 x4] 75))) d6; obtain ⟨t0, t1, t2, t3, t4, t5, t6⟩ := cells_7 (MapKept.heap_alloc w8 (.cells #[.int .i64 xn, .int .i64 xs, .int .i64 xr, .int .i64 x1, .int .i64 x2, .int .i64 x3, .int .i64 x4] 75)).1; have K8 := Lib.hid (Kp.trans KQ.out (Kp.trans (kp_alloc wr (.cells #[.int .i64 yn, .int .i64 ys, .int .i64 yr, .int .i64 y1, .int .i64 y2, .int .i64 y3, .int .i64 y4] 75)) (Kp.trans hk8 (kp_alloc w8 (.cells #[.int .i64 xn, .int .i64 xs, .int .i64 xr, .int .i64 x1, .int .i64 x2, .int .i64 x3, .int .i64 x4] 75))))); clear hk8 d0 d1 d2 d3 d4 d5 d6)
                go_roundw
                case rel => exact ⟨l + 1, by have := HLT2.out; omega, by have := HLLI.out; first | rw [show ((l + 1 : Nat) : Int) = ll + 1 by omega] | rw [show ((l + 1 : Nat) : Int) = ll + 1 by omega, hw2], K8.out⟩
                case measure => have := HLLI.out; have := HLT2.out; simp [intOf]; omega
            · have hle : ¬ ll < NP := by have := HNPI.out; omega
              clear hll hl hlt2
              have KZ := Lib.hid (Kp.trans K7.out hkq)
              have GZ := Lib.hid (G7.out.kp hkq)
              clear hkq
              go_wp2
              go_roundw
              case rel => exact ⟨j + 1, m2, _, _, _, by have := HLT.out; omega, by have := HKK.out; first | rw [show ((j + 1 : Nat) : Int) = kk + 1 by omega] | rw [show ((j + 1 : Nat) : Int) = kk + 1 by omega, hw1], HND2.out, HOK2.out, GZ.out, KZ.out⟩
              case measure => have := HKK.out; have := HLT.out; simp [intOf]; omega
        have g3 : (fk == 3) = false := by simpa using h3
        have g3' : (fk != 3) = true := by simp [h3]
        have g8 : (fk == 8) = false := by simpa using h8
        have g8' : (fk != 8) = true := by simp [h8]
        have HTW := Lib.hid (htw h3 h8)
        obtain ⟨pe, hpe⟩ := errI_some14 ads 9 (by decide)
        have HP9 := Lib.hid hpe
        clear htw h3 h8 hpe
        go_wp2_with (first | (go_at_call 14; (with_reducible refine (HFA.out _ (Kp.refl _)).mono ?_); rintro e' w2 ⟨v1, rfl, o1, hk2⟩; obtain ⟨s1, c1, rfl⟩ := own_formG o1; have K2 := Lib.hid hk2; have S2 := Lib.hid (own_slfc o1 rfl HWF.out); rw [HFN.out] at S2 ⊢; clear o1 hk2) | (go_at_call 17; (with_reducible refine (HRO.out s1 c1 _ K2.out S2.out).mono ?_); rintro e' w3 ⟨a2, c2, rfl, hsl, hk3⟩; have K3 := Lib.hid (Kp.trans K2.out hk3); have S3 := Lib.hid hsl; clear hsl hk3) | (go_at_call 18; (with_reducible refine (HRE.out a2 c2 _ K3.out S3.out).mono ?_); rintro e' w4 ⟨qw, rfl, ⟨gsw, vaw, vpw, hgw⟩, hk4⟩; have K4 := Lib.hid (Kp.trans K3.out hk4); have GW := Lib.hid hgw; have G4 := Lib.hid (HG.out.kp K4.out); have DJ := Lib.hid (show ∀ b, Ow qw gsw vaw vpw b → ¬ Ow q gs va vp b from fun b hb hb2 => absurd ((HG.out.kp K3.out).mem b hb2).2 (by have := (hgw.mem b hb).1; omega)); have R4 := Lib.hid (kp_row K4.out CF0.out); obtain ⟨u0, u1, u2, u3, u4, u5, u6, u7, u8, u9, u10, u11, u12, u13⟩ := cells14 R4.out; clear hgw hk4) | (go_at_call 11; (with_reducible refine (HAP.out _ K4.out).mono ?_); rintro e' w5 ⟨rfl, gs2, va2, vp2, hg5, ha5⟩; have G5 := Lib.hid hg5; have A5 := Lib.hid ha5; have GW5 := Lib.hid (GW.out.beside ha5 DJ.out); have R5 := Lib.hid ((ha5.block _ (old_of_row R4.out) (ow_not G4.out R4.out (by decide) (by decide) (by decide) (by decide))).trans R4.out); have K5 := Lib.hid (ha5.kp (Kp.trans KR.out (Kp.trans KB.out K4.out)) HOW.out); obtain ⟨ce0, ce1, ce2, ce3, ce4, ce5, ce6, ce7, ce8, ce9, ce10, ce11, ce12, ce13⟩ := cells14 R5.out; clear hg5 ha5) | (go_at_call 11; have hap2 := lsApply_any (HC.out.kp K5.out) (HE.out.kp K5.out) G5.out HOK2.out (⟨fk, fn, fs, fr, fe, fp, fq, fo, fd, fa, ft, fh, fc, fx⟩ : FX) HWX.out; rw [HTW.out] at hap2; dsimp only [FX.cells] at hap2; rw [HP9.out] at hap2; (with_reducible refine hap2.mono ?_); clear hap2; rintro e' w6 ⟨rfl, gs3, va3, vp3, hg6, ha6⟩; have G6 := Lib.hid hg6; have GW6 := Lib.hid (GW5.out.beside ha6 (fun b hb hb2 => by rcases A5.out.own b hb2 with h | h; exact DJ.out b hb h; exact absurd (GW.out.mem b hb).2 (by omega))); have K6 := Lib.hid (ha6.kp K5.out (fun b hb => (G5.out.mem b hb).1)); clear hg6 ha6) | (go_at_call 23; (with_reducible refine (stParts GW6.out HP8.out).mono ?_); rintro e' w7 ⟨v7, rfl, o7, hk7⟩; obtain ⟨s7, c7, rfl⟩ := own_formG o7; rw [HNP.out] at o7 ⊢; have O7 := Lib.hid o7; have G7 := Lib.hid (G6.out.kp hk7); have K7 := Lib.hid (Kp.trans K6.out hk7); clear o7 hk7))
        go_loopw [76] (fun i wr => ∃ l : Nat, l ≤ np ∧ i = .int .i64 l ∧ Kp w7 wr) (fun i _ => np - (intOf i).toNat)
        case atStart => exact ⟨0, Nat.zero_le _, rfl, Kp.refl _⟩
        case round =>
          obtain ⟨l, hl, rfl, hkq⟩ := hrel
          obtain ⟨ll, hll⟩ : ∃ x : Int, (l : Int) = x := ⟨_, rfl⟩
          rw [hll]
          have HLLI := Lib.hid hll
          have KQ := Lib.hid hkq
          by_cases hlt2 : l < np
          · have hln : ll < NP := by have := HNPI.out; omega
            have hl0 : 0 ≤ ll := by omega
            have htl : ll.toNat = l := by omega
            have hnp8 : NP ≤ 8 := by have := HNPI.out; have := HP8.out; have := HNP.out; omega
            have hw2 : wrap64 (ll + 1) = ll + 1 := IntWalk.wrap64_in _ (by omega)
            have HLT2 := Lib.hid hlt2
            have hlx : l < m.parts.length := by have := HNP.out; omega
            obtain ⟨gr, ck, exb, hck, hgrB, hgrl, hfzr, hcr⟩ := own_cellQ (E := paE) (own_kp O7.out hkq) HNP.out hlt2
            obtain ⟨⟨yn, ys, yr, ⟨y1, y2, y3, y4⟩⟩, hy⟩ : ∃ r, m.parts[l]'hlx = r := ⟨_, rfl⟩
            have hcr2 : ∀ (i : Nat) (u : Value), i < paE.k → (paE.enc (m.parts[l]'hlx))[i]? = some u → wr.cell? ⟨gr, l * paE.k + i, none⟩ = some u := hcr
            rw [hy, show paE.k = 7 from rfl, ← htl] at hcr2
            have exb := congrArg (fun v => match v with | Value.slice a _ _ => a | _ => none) exb
            dsimp only at exb
            subst exb
            have z0 : wr.cell? ⟨gr, ll.toNat * 7, none⟩ = some (.int .i64 yn) := hcr2 0 _ (by decide) rfl
            have z1 : wr.cell? ⟨gr, ll.toNat * 7 + 1, none⟩ = some (.int .i64 ys) := hcr2 1 _ (by decide) rfl
            have z2 : wr.cell? ⟨gr, ll.toNat * 7 + 2, none⟩ = some (.int .i64 yr) := hcr2 2 _ (by decide) rfl
            have z3 : wr.cell? ⟨gr, ll.toNat * 7 + 3, none⟩ = some (.int .i64 y1) := hcr2 3 _ (by decide) rfl
            have z4 : wr.cell? ⟨gr, ll.toNat * 7 + 4, none⟩ = some (.int .i64 y2) := hcr2 4 _ (by decide) rfl
            have z5 : wr.cell? ⟨gr, ll.toNat * 7 + 5, none⟩ = some (.int .i64 y3) := hcr2 5 _ (by decide) rfl
            have z6 : wr.cell? ⟨gr, ll.toNat * 7 + 6, none⟩ = some (.int .i64 y4) := hcr2 6 _ (by decide) rfl
            obtain ⟨d0, d1, d2, d3, d4, d5, d6⟩ := cells_7 (MapKept.heap_alloc wr (.cells #[.int .i64 yn, .int .i64 ys, .int .i64 yr, .int .i64 y1, .int .i64 y2, .int .i64 y3, .int .i64 y4] 75)).1
            clear hcr hck hgrB hgrl hfzr
            by_cases h14 : y3 = 14
            · have g14 : (y3 == 14) = true := beq_iff_eq.2 h14
              obtain ⟨y', hy1, hyz⟩ := HEN.out l _ (List.getElem?_eq_getElem hlx) (by rw [hy]; exact h14)
              rw [hy] at hyz
              have hpq : partQ m2 ll = some y' := by unfold partQ; rw [if_pos hl0, htl]; exact hy1
              have hne := fun w => seat15_neq y1 y2 y3 y4 w
              have hgd := fun op x y (w : World) => seat15_guard op x y y1 y2 y3 y4 y1 y2 y3 y4 w
              have hpt := (stPart (G7.out.kp (Kp.trans hkq (kp_alloc wr (.cells #[.int .i64 yn, .int .i64 ys, .int .i64 yr, .int .i64 y1, .int .i64 y2, .int .i64 y3, .int .i64 y4] 75)))) ll).mono (R' := fun r w' => ∃ (xn xs xr : Int), r = .returned (.tuple #[.agg #[.int .i64 xn, .int .i64 xs, .int .i64 xr, .int .i64 y1, .int .i64 y2, .int .i64 y3, .int .i64 y4], .bool true]) ∧ Kp (wr.alloc (.cells #[.int .i64 yn, .int .i64 ys, .int .i64 yr, .int .i64 y1, .int .i64 y2, .int .i64 y3, .int .i64 y4] 75)) w') (by
                      rintro e w8 ⟨x, rfl, hx, hk8⟩
                      rw [hpq] at hx ⊢
                      dsimp only at hx
                      subst hx
                      obtain ⟨xn, xs, xr, xz⟩ := x
                      dsimp only at hyz
                      subst hyz
                      exact ⟨xn, xs, xr, rfl, hk8⟩)
              have HPT := Lib.hid hpt
              clear hpt hpq hy1 hyz h14 hkq hcr2 hy hlx htl hlt2 hll hl
              go_wp2_with (go_at_call 25; (with_reducible refine HPT.out.mono ?_); rintro e' w8 ⟨xn, xs, xr, rfl, hk8⟩; have e3 := kp_cell (Kp.trans hk8 (kp_alloc w8 (.cells #[.int .i64 xn, .int .i64 xs, .int .i64 xr, .int .i64 y1, .int .i64 y2, .int .i64 y3, .int .i64 y4] 75))) d3; have e4 := kp_cell (Kp.trans hk8 (kp_alloc w8 (.cells #[.int .i64 xn, .int .i64 xs, .int .i64 xr, .int .i64 y1, .int .i64 y2, .int .i64 y3, .int .i64 y4] 75))) d4; have e5 := kp_cell (Kp.trans hk8 (kp_alloc w8 (.cells #[.int .i64 xn, .int .i64 xs, .int .i64 xr, .int .i64 y1, .int .i64 y2, .int .i64 y3, .int .i64 y4] 75))) d5; have e6 := kp_cell (Kp.trans hk8 (kp_alloc w8 (.cells #[.int .i64 xn, .int .i64 xs, .int .i64 xr, .int .i64 y1, .int .i64 y2, .int .i64 y3, .int .i64 y4] 75))) d6; obtain ⟨t0, t1, t2, t3, t4, t5, t6⟩ := cells_7 (MapKept.heap_alloc w8 (.cells #[.int .i64 xn, .int .i64 xs, .int .i64 xr, .int .i64 y1, .int .i64 y2, .int .i64 y3, .int .i64 y4] 75)).1; have K8 := Lib.hid (Kp.trans KQ.out (Kp.trans (kp_alloc wr (.cells #[.int .i64 yn, .int .i64 ys, .int .i64 yr, .int .i64 y1, .int .i64 y2, .int .i64 y3, .int .i64 y4] 75)) (Kp.trans hk8 (kp_alloc w8 (.cells #[.int .i64 xn, .int .i64 xs, .int .i64 xr, .int .i64 y1, .int .i64 y2, .int .i64 y3, .int .i64 y4] 75))))); clear hk8 d0 d1 d2 d3 d4 d5 d6)
              go_roundw
              case rel => exact ⟨l + 1, by have := HLT2.out; omega, by have := HLLI.out; first | rw [show ((l + 1 : Nat) : Int) = ll + 1 by omega] | rw [show ((l + 1 : Nat) : Int) = ll + 1 by omega, hw2], K8.out⟩
              case measure => have := HLLI.out; have := HLT2.out; simp [intOf]; omega
            · have g14 : (y3 == 14) = false := by simpa using h14
              have hpt := (stPart (G7.out.kp (Kp.trans hkq (kp_alloc wr (.cells #[.int .i64 yn, .int .i64 ys, .int .i64 yr, .int .i64 y1, .int .i64 y2, .int .i64 y3, .int .i64 y4] 75)))) ll).mono (R' := fun r w' => ∃ (xn xs xr x1 x2 x3 x4 : Int) (tb : Bool), r = .returned (.tuple #[.agg #[.int .i64 xn, .int .i64 xs, .int .i64 xr, .int .i64 x1, .int .i64 x2, .int .i64 x3, .int .i64 x4], .bool tb]) ∧ Kp (wr.alloc (.cells #[.int .i64 yn, .int .i64 ys, .int .i64 yr, .int .i64 y1, .int .i64 y2, .int .i64 y3, .int .i64 y4] 75)) w') (by
                      rintro e w8 ⟨x, rfl, _, hk8⟩
                      obtain ⟨xn, xs, xr, ⟨x1, x2, x3, x4⟩⟩ := x
                      exact ⟨xn, xs, xr, x1, x2, x3, x4, _, rfl, hk8⟩)
              have HPT := Lib.hid hpt
              clear hpt h14 hkq hcr2 hy hlx htl hlt2 hll hl
              go_wp2_with (go_at_call 25; (with_reducible refine HPT.out.mono ?_); rintro e' w8 ⟨xn, xs, xr, x1, x2, x3, x4, tb, rfl, hk8⟩; have e3 := kp_cell (Kp.trans hk8 (kp_alloc w8 (.cells #[.int .i64 xn, .int .i64 xs, .int .i64 xr, .int .i64 x1, .int .i64 x2, .int .i64 x3, .int .i64 x4] 75))) d3; have e4 := kp_cell (Kp.trans hk8 (kp_alloc w8 (.cells #[.int .i64 xn, .int .i64 xs, .int .i64 xr, .int .i64 x1, .int .i64 x2, .int .i64 x3, .int .i64 x4] 75))) d4; have e5 := kp_cell (Kp.trans hk8 (kp_alloc w8 (.cells #[.int .i64 xn, .int .i64 xs, .int .i64 xr, .int .i64 x1, .int .i64 x2, .int .i64 x3, .int .i64 x4] 75))) d5; have e6 := kp_cell (Kp.trans hk8 (kp_alloc w8 (.cells #[.int .i64 xn, .int .i64 xs, .int .i64 xr, .int .i64 x1, .int .i64 x2, .int .i64 x3, .int .i64 x4] 75))) d6; obtain ⟨t0, t1, t2, t3, t4, t5, t6⟩ := cells_7 (MapKept.heap_alloc w8 (.cells #[.int .i64 xn, .int .i64 xs, .int .i64 xr, .int .i64 x1, .int .i64 x2, .int .i64 x3, .int .i64 x4] 75)).1; have K8 := Lib.hid (Kp.trans KQ.out (Kp.trans (kp_alloc wr (.cells #[.int .i64 yn, .int .i64 ys, .int .i64 yr, .int .i64 y1, .int .i64 y2, .int .i64 y3, .int .i64 y4] 75)) (Kp.trans hk8 (kp_alloc w8 (.cells #[.int .i64 xn, .int .i64 xs, .int .i64 xr, .int .i64 x1, .int .i64 x2, .int .i64 x3, .int .i64 x4] 75))))); clear hk8 d0 d1 d2 d3 d4 d5 d6)
              go_roundw
              case rel => exact ⟨l + 1, by have := HLT2.out; omega, by have := HLLI.out; first | rw [show ((l + 1 : Nat) : Int) = ll + 1 by omega] | rw [show ((l + 1 : Nat) : Int) = ll + 1 by omega, hw2], K8.out⟩
              case measure => have := HLLI.out; have := HLT2.out; simp [intOf]; omega
          · have hle : ¬ ll < NP := by have := HNPI.out; omega
            clear hll hl hlt2
            have KZ := Lib.hid (Kp.trans K7.out hkq)
            have GZ := Lib.hid (G7.out.kp hkq)
            clear hkq
            go_wp2
            go_roundw
            case rel => exact ⟨j + 1, m2, _, _, _, by have := HLT.out; omega, by have := HKK.out; first | rw [show ((j + 1 : Nat) : Int) = kk + 1 by omega] | rw [show ((j + 1 : Nat) : Int) = kk + 1 by omega, hw1], HND2.out, HOK2.out, GZ.out, KZ.out⟩
            case measure => have := HKK.out; have := HLT.out; simp [intOf]; omega
    · have hje : ¬ kk < N := by have := HNN.out; omega
      clear hkk hj hlt hnd hok hg hk
      go_wp2
      go_ret
      exact ⟨rfl, KR.out⟩
end Go.Proofs.YtpemeenfhkgmpaaGreatDoor
