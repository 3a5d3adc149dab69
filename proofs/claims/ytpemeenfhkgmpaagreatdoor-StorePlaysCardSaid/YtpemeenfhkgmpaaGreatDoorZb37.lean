/-
  StorePlays: for every node and every list of facts, a store answers as the document's store does, behind each fact. Condition: package api's errors and strconv's table of powers hold what their declarations lay.
-/
import Derived.Test.YtpemeenfhkgmpaaGreatDoorZb01
import Derived.Test.YtpemeenfhkgmpaaGreatDoorZb32
import Derived.Test.YtpemeenfhkgmpaaGreatDoorZb35
import Derived.Test.YtpemeenfhkgmpaaGreatDoorRows
import Derived.Test.YtpemeenfhkgmpaaGreatDoorZb09
import Derived.Test.YtpemeenfhkgmpaaGreatDoorZb03
import Derived.ChangeSame
import Derived.Lib.SmallJoins
import Derived.Test.YtpemeenfhkgmpaaGreatDoorCards
import Derived.Test.YtpemeenfhkgmpaaGreatDoorTie
import Derived.SevenTiedAt
import Derived.Lay
import Derived.MakeChecks
namespace Go.Proofs.YtpemeenfhkgmpaaGreatDoor
open Go.RowKit Go.ChangeShapes Go.WideShapes

variable {w0 w w' W w3 : World} {B q : Nat} {m : StM} {gs : List AcG} {va vp : Value}

variable {ads : List Addr}
theorem applyQ_rng {m : StM} {f : FX} : 0 ≤ (applyQ m f).1 ∧ (applyQ m f).1 ≤ 14 := by
  cases hr : rightF f with
  | false => rw [applyQ_bad hr]; dsimp only; omega
  | true =>
    cases hd : doS m f with
    | none => rw [applyQ_none hr hd]; dsimp only; omega
    | some m2 => rw [applyQ_some hr hd]; dsimp only; omega
set_option maxRecDepth 100000 in
set_option maxHeartbeats 16000000 in
theorem plays_any (nd : Int) (v : Value) (fs : List FX) (V : St ads w) (C : FacC ads w) (E : EP [0, 3, 4, 8, 13] ads w) (hs : SlFc v fs w) : Calls Tryz.prog 3 #[.int .i64 nd, v] w fun r w' => r = .returned (.bool true) ∧ Kp w w' := by
  obtain ⟨a, cap, rfl, _⟩ := id hs
  obtain ⟨n, hn⟩ : ∃ n, fs.length = n := ⟨_, rfl⟩
  rw [hn] at hs ⊢
  obtain ⟨N, hN⟩ : ∃ N : Int, (n : Int) = N := ⟨_, rfl⟩
  have HAL := Lib.hid (alive15_any C E)
  by_cases hl : N > 100
  · have d1 := decide_eq_true hl
    clear V C E hs
    go_enter Tryz.func3, Tryz.ntmps3
    go_wp2_with (go_at_call 8; (with_reducible refine HAL.out.mono ?_); rintro e' w0 ⟨rfl, hk0⟩; have K0 := Lib.hid hk0; clear hk0)
    go_ret
    exact ⟨rfl, K0.out⟩
  have d1 := decide_eq_false hl
  by_cases hin : inN nd
  rotate_left
  · have hnew := fun w1 (hk : Kp w w1) => SL.noNew (E.kp hk) nd hin
    have hnum := fun w1 (hk : Kp w w1) => num_errN ads w1 (V.below hk) 1 (by decide) (by decide)
    obtain ⟨er, her⟩ : ∃ x, errI ads 1 = x := ⟨_, rfl⟩
    rw [her] at hnew hnum
    have HNEW := Lib.hid hnew
    have HNUM := Lib.hid hnum
    have hsf := store_fl
    by_cases h1 : nd < 0
    · have d2 := decide_eq_true h1
      clear V C E hs hnew hnum hin her h1
      go_enter Tryz.func3, Tryz.ntmps3
      go_wp2_with (first | (go_at_call 8; (with_reducible refine HAL.out.mono ?_); rintro e' w0 ⟨rfl, hk0⟩; have K0 := Lib.hid hk0; clear hk0) | (go_at_call 9; (with_reducible refine (HNEW.out _ K0.out).mono ?_); rintro e' w1 ⟨rfl, hk1⟩; have K1 := Lib.hid (Kp.trans K0.out hk1); clear hk1) | (go_at_call 10; (with_reducible refine (HNUM.out _ K1.out).mono ?_); rintro e' w2 ⟨rfl, hk2⟩))
      go_ret
      exact ⟨rfl, Kp.trans K1.out hk2⟩
    · have d2 := decide_eq_false h1
      have d3 : decide (nd > 3) = true := decide_eq_true (by unfold inN at hin; omega)
      clear V C E hs hnew hnum hin her h1
      go_enter Tryz.func3, Tryz.ntmps3
      go_wp2_with (first | (go_at_call 8; (with_reducible refine HAL.out.mono ?_); rintro e' w0 ⟨rfl, hk0⟩; have K0 := Lib.hid hk0; clear hk0) | (go_at_call 9; (with_reducible refine (HNEW.out _ K0.out).mono ?_); rintro e' w1 ⟨rfl, hk1⟩; have K1 := Lib.hid (Kp.trans K0.out hk1); clear hk1) | (go_at_call 10; (with_reducible refine (HNUM.out _ K1.out).mono ?_); rintro e' w2 ⟨rfl, hk2⟩))
      go_ret
      exact ⟨rfl, Kp.trans K1.out hk2⟩
  have d2 : decide (nd < 0) = false := decide_eq_false (by unfold inN at hin; omega)
  have d3 : decide (nd > 3) = false := decide_eq_false (by unfold inN at hin; omega)
  have HNEW := Lib.hid (fun w1 (hk : Kp w w1) => SL.new (E.kp hk) nd hin)
  have HC := Lib.hid C
  have HE := Lib.hid E
  have HV := Lib.hid V
  have HN := Lib.hid hn
  have HS := Lib.hid hs
  have HL := Lib.hid (show n ≤ 100 by omega)
  have HNN := Lib.hid hN
  have hsf := store_fl
  have HOK0 := Lib.hid (newSt_ok hin)
  clear hin C E V hn hs hl
  go_enter Tryz.func3, Tryz.ntmps3
  go_wp2_with (first | (go_at_call 8; (with_reducible refine HAL.out.mono ?_); rintro e' w0 ⟨rfl, hk0⟩; have K0 := Lib.hid hk0; clear hk0) | (go_at_call 9; (with_reducible refine (HNEW.out _ K0.out).mono ?_); rintro e' w1 ⟨q, rfl, hg1, hk1⟩; have G1 := Lib.hid hg1; have K1 := Lib.hid (Kp.trans K0.out hk1); clear hg1 hk1))
  have KX := Lib.hid (Kp.trans K1.out (kp_alloc w1 (.cells #[.int .i64 nd, .int .i64 0, .slice none 0 0, .slice none 0 0] 34)))
  have SL0 := Lib.hid ((G1.out.base (kp_size K0.out)).kp (kp_alloc w1 (.cells #[.int .i64 nd, .int .i64 0, .slice none 0 0, .slice none 0 0] 34)))
  have SD0 := Lib.hid (SD.new (B := w.heap.size) (MapKept.heap_alloc w1 (.cells #[.int .i64 nd, .int .i64 0, .slice none 0 0, .slice none 0 0] 34)).1 (kp_size K1.out))
  go_loopw [44] (fun i wr => ∃ (j : Nat) (m : StM), j ≤ n ∧ i = .int .i64 j ∧ OkS m ∧ SL w.heap.size q m wr ∧ SD w.heap.size w1.heap.size m wr ∧ Kp w wr) (fun i _ => n - (intOf i).toNat)
  case atStart => exact ⟨0, newSt nd, Nat.zero_le _, rfl, HOK0.out, SL0.out, SD0.out, KX.out⟩
  case round =>
    obtain ⟨j, m, hj, rfl, hok, hsl, hsd, hk⟩ := hrel
    obtain ⟨kk, hkk⟩ : ∃ x : Int, (j : Int) = x := ⟨_, rfl⟩
    rw [hkk]
    have HKK := Lib.hid hkk
    have KR := Lib.hid hk
    by_cases hlt : j < n
    · have hjl : kk < N := by have := HNN.out; omega
      have hk0 : 0 ≤ kk := by omega
      have htk : kk.toNat = j := by omega
      have hN8 : N ≤ 100 := by have := HNN.out; have := HL.out; omega
      have hw1 : wrap64 (kk + 1) = kk + 1 := IntWalk.wrap64_in _ (by omega)
      have HLT := Lib.hid hlt
      have hjx : j < fs.length := by have := HN.out; omega
      obtain ⟨bb, bo, rfl, hwf, hcell⟩ := (HS.out.kp hk).at j hjx
      obtain ⟨⟨fk, fn, fs, fr, fe, fp, fq, fo, fd, fa, ft, fh, fc, fx⟩, hF⟩ : ∃ f, fs[j]'hjx = f := ⟨_, rfl⟩
      rw [hF] at hwf hcell
      rw [← htk] at hcell
      have zf0 : wr.cell? ⟨bb, bo + kk.toNat * 14, none⟩ = some (.int .i64 fk) := hcell 0 _ rfl
      have zf1 : wr.cell? ⟨bb, bo + kk.toNat * 14 + 1, none⟩ = some (.int .i64 fn) := hcell 1 _ rfl
      have zf2 : wr.cell? ⟨bb, bo + kk.toNat * 14 + 2, none⟩ = some (.int .i64 fs) := hcell 2 _ rfl
      have zf3 : wr.cell? ⟨bb, bo + kk.toNat * 14 + 3, none⟩ = some (.int .i64 fr) := hcell 3 _ rfl
      have zf4 : wr.cell? ⟨bb, bo + kk.toNat * 14 + 4, none⟩ = some (.int .i64 fe) := hcell 4 _ rfl
      have zf5 : wr.cell? ⟨bb, bo + kk.toNat * 14 + 5, none⟩ = some (.int .i64 fp) := hcell 5 _ rfl
      have zf6 : wr.cell? ⟨bb, bo + kk.toNat * 14 + 6, none⟩ = some (.int .i64 fq) := hcell 6 _ rfl
      have zf7 : wr.cell? ⟨bb, bo + kk.toNat * 14 + 7, none⟩ = some (.int .i64 fo) := hcell 7 _ rfl
      have zf8 : wr.cell? ⟨bb, bo + kk.toNat * 14 + 8, none⟩ = some (.int .i64 fd) := hcell 8 _ rfl
      have zf9 : wr.cell? ⟨bb, bo + kk.toNat * 14 + 9, none⟩ = some (.int .i64 fa) := hcell 9 _ rfl
      have zf10 : wr.cell? ⟨bb, bo + kk.toNat * 14 + 10, none⟩ = some (.int .i64 ft) := hcell 10 _ rfl
      have zf11 : wr.cell? ⟨bb, bo + kk.toNat * 14 + 11, none⟩ = some (.int .i64 fh) := hcell 11 _ rfl
      have zf12 : wr.cell? ⟨bb, bo + kk.toNat * 14 + 12, none⟩ = some (.int .i64 fc) := hcell 12 _ rfl
      have zf13 : wr.cell? ⟨bb, bo + kk.toNat * 14 + 13, none⟩ = some (.float .f64 fx) := hcell 13 _ rfl
      have kb := kp_alloc wr (.cells #[.int .i64 fk, .int .i64 fn, .int .i64 fs, .int .i64 fr, .int .i64 fe, .int .i64 fp, .int .i64 fq, .int .i64 fo, .int .i64 fd, .int .i64 fa, .int .i64 ft, .int .i64 fh, .int .i64 fc, .float .f64 fx] 39)
      have RF := Lib.hid (MapKept.heap_alloc wr (.cells #[.int .i64 fk, .int .i64 fn, .int .i64 fs, .int .i64 fr, .int .i64 fe, .int .i64 fp, .int .i64 fq, .int .i64 fo, .int .i64 fd, .int .i64 fa, .int .i64 ft, .int .i64 fh, .int .i64 fc, .float .f64 fx] 39)).1
      have hap := fun w1 (hk1 : Kp (wr.alloc (.cells #[.int .i64 fk, .int .i64 fn, .int .i64 fs, .int .i64 fr, .int .i64 fe, .int .i64 fp, .int .i64 fq, .int .i64 fo, .int .i64 fd, .int .i64 fa, .int .i64 ft, .int .i64 fh, .int .i64 fc, .float .f64 fx] 39)) w1) => SL.apply (HC.out.kp (Kp.trans hk (Kp.trans kb hk1))) (HE.out.kp (Kp.trans hk (Kp.trans kb hk1))) (hsl.kp (Kp.trans kb hk1)) hok (⟨fk, fn, fs, fr, fe, fp, fq, fo, fd, fa, ft, fh, fc, fx⟩ : FX) hwf
      have had := fun w2 (h : SD w.heap.size w1.heap.size m w2) => SD.apply h hok (⟨fk, fn, fs, fr, fe, fp, fq, fo, fd, fa, ft, fh, fc, fx⟩ : FX) hwf
      dsimp only [FX.cells] at hap had
      obtain ⟨AQ, hAQ⟩ : ∃ x, applyQ m (⟨fk, fn, fs, fr, fe, fp, fq, fo, fd, fa, ft, fh, fc, fx⟩ : FX) = x := ⟨_, rfl⟩
      have hrng := applyQ_rng (m := m) (f := (⟨fk, fn, fs, fr, fe, fp, fq, fo, fd, fa, ft, fh, fc, fx⟩ : FX))
      have hok2 := applyQ_ok (f := (⟨fk, fn, fs, fr, fe, fp, fq, fo, fd, fa, ft, fh, fc, fx⟩ : FX)) hok
      rw [hAQ] at hap had hrng hok2
      obtain ⟨ac, m2⟩ := AQ
      dsimp only at hap had hrng hok2
      have hnum := fun w1 (hk : Kp w w1) => num_errN ads w1 (HV.out.below hk) ac hrng.1 hrng.2
      obtain ⟨er, her⟩ : ∃ x, errI ads ac = x := ⟨_, rfl⟩
      rw [her] at hap hnum
      have HAP := Lib.hid hap
      have HAD := Lib.hid had
      have HNUM := Lib.hid hnum
      have HOK2 := Lib.hid hok2
      have HSD := Lib.hid (hsd.kp kb)
      have KB := Lib.hid (Kp.trans hk kb)
      clear hkk hj hlt hok hsl hsd hk htk hjx hwf hcell hF kb hap had hAQ hrng hok2 hnum her
      go_wp2_with fail
      obtain ⟨WD, hWD⟩ : ∃ x, (wr.alloc (.cells #[.int .i64 fk, .int .i64 fn, .int .i64 fs, .int .i64 fr, .int .i64 fe, .int .i64 fp, .int .i64 fq, .int .i64 fo, .int .i64 fd, .int .i64 fa, .int .i64 ft, .int .i64 fh, .int .i64 fc, .float .f64 fx] 39)).drew = x := ⟨_, rfl⟩
      have kD : Kp (wr.alloc (.cells #[.int .i64 fk, .int .i64 fn, .int .i64 fs, .int .i64 fr, .int .i64 fe, .int .i64 fp, .int .i64 fq, .int .i64 fo, .int .i64 fd, .int .i64 fa, .int .i64 ft, .int .i64 fh, .int .i64 fc, .float .f64 fx] 39)) WD := by rw [← hWD]; exact drewQ (Kp.refl _)
      have HWD := Lib.hid hWD
      clear hWD
      refine wp_region_held_drew (S := fun w' => w'.heap[wr.heap.size]? = some (.cells #[.int .i64 fk, .int .i64 fn, .int .i64 fs, .int .i64 fr, .int .i64 fe, .int .i64 fp, .int .i64 fq, .int .i64 fo, .int .i64 fd, .int .i64 fa, .int .i64 ft, .int .i64 fh, .int .i64 fc, .float .f64 fx] 39) ∧ Kp w w') (by kernel_rfl) ?_ (fun hHeld => ?_)
      · exact by rw [HWD.out]; exact ⟨kp_row kD RF.out, Kp.trans KB.out kD⟩
      rw [HWD.out] at hHeld ⊢
      refine tkW ?_ 0 ?_ ?_; rotate_left
      · intro w hSw; go_simp; try rfl
      go_simp
      refine tkW ?_ 1 ?_ ?_; rotate_left
      · intro w hSw; obtain ⟨z0, z1, z2, z3, z4, z5, z6, z7, z8, z9, z10, z11, z12, z13⟩ := cells14 hSw.1; go_simp; try rfl
      go_simp
      refine tkW ?_ 4 ?_ ?_; rotate_left
      · intro w hSw; go_simp; try rfl
      go_simp
      refine tkW ?_ 5 ?_ ?_; rotate_left
      · intro w hSw; obtain ⟨z0, z1, z2, z3, z4, z5, z6, z7, z8, z9, z10, z11, z12, z13⟩ := cells14 hSw.1; go_simp; try rfl
      go_simp
      refine wpAnyH_ready (rs := [2]) (by kernel_rfl) (by simp) ?_
      refine AllReadyH.cons rfl (fun K hK => ?_) AllReadyH.nil
      go_simp
      go_wp2_with (go_at_call 11; (with_reducible refine (HAP.out _ kD).mono ?_); rintro e' w5 ⟨rfl, s5, d5, x5, k5⟩)
      refine hK.out _ _ ?_ (fun hHeld => ?_)
      · exact ⟨x5 _ _ _ offL_fct hHeld.1, k5 _ hHeld.2 (Nat.le_refl _)⟩
      clear hK K
      refine wpAnyH_ready (rs := [3]) (by kernel_rfl) (by simp) ?_
      refine AllReadyH.cons rfl (fun K hK => ?_) AllReadyH.nil
      go_simp
      go_wp2_with (go_at_call 10; (with_reducible refine (HNUM.out _ (show Kp w _ from hHeld.2)).mono ?_); rintro e' w6 ⟨rfl, hk6⟩)
      refine hK.out _ _ ?_ (fun hHeld => ?_)
      · exact ⟨kp_row hk6 hHeld.1, Kp.trans hHeld.2 hk6⟩
      clear hK K
      refine wpAnyH_ready (rs := [6]) (by kernel_rfl) (by simp) ?_
      refine AllReadyH.cons rfl (fun K hK => ?_) AllReadyH.nil
      go_simp
      go_wp2_with (go_at_call 12; (with_reducible refine (HAD.out _ ((d5 _ _ _ (HSD.out.kp kD)).kp hk6)).mono ?_); rintro e' w7 ⟨rfl, s7, d7, x7, k7⟩)
      refine hK.out _ _ ?_ (fun hHeld => ?_)
      · exact ⟨x7 _ _ _ offD_fct hHeld.1, k7 _ hHeld.2 (Nat.le_refl _)⟩
      clear hK K
      refine tkW ?_ 7 ?_ ?_; rotate_left
      · intro w hSw; go_simp; try rfl
      go_simp
      refine tkW ?_ 8 ?_ ?_; rotate_left
      · intro w hSw; go_simp; try rfl
      go_simp
      refine tkW ?_ 9 ?_ ?_; rotate_left
      · intro w hSw; go_simp; try rfl
      go_simp
      refine tkW ?_ 10 ?_ ?_; rotate_left
      · intro w hSw; go_simp; try rfl
      go_simp
      refine wpAnyH_ready (rs := [11]) (by kernel_rfl) (by simp) ?_
      refine AllReadyH.cons rfl (fun K hK => ?_) AllReadyH.nil
      go_simp
      go_wp2_with (go_at_call 13; (with_reducible refine (SL.both (d7 _ _ _ (s5.kp hk6)) s7 HOK2.out).mono ?_); rintro e' w8 ⟨rfl, hk8⟩; have SL8 := Lib.hid ((d7 _ _ _ (s5.kp hk6)).kp hk8); have SD8 := Lib.hid (s7.kp hk8))
      refine hK.out _ _ ?_ (fun hHeld => ?_)
      · exact ⟨kp_row hk8 hHeld.1, Kp.trans hHeld.2 hk8⟩
      clear hK K
      refine tkW ?_ 12 ?_ ?_; rotate_left
      · intro w hSw; go_simp; try rfl
      go_simp
      refine tkW ?_ 13 ?_ ?_; rotate_left
      · intro w hSw; go_simp; try rfl
      go_simp
      refine wpAnyH_done (by kernel_rfl) ?_ _
      have KF := Lib.hid (show Kp w _ from hHeld.2)
      clear hHeld
      go_wp2
      go_roundw
      case rel => exact ⟨j + 1, m2, by have := HLT.out; omega, by have := HKK.out; first | rw [show ((j + 1 : Nat) : Int) = kk + 1 by omega] | rw [show ((j + 1 : Nat) : Int) = kk + 1 by omega, hw1], HOK2.out, SL8.out, SD8.out, KF.out⟩
      case measure => have := HKK.out; have := HLT.out; simp [intOf]; omega
    · have hje : ¬ kk < N := by have := HNN.out; omega
      clear hkk hj hlt hok hsl hsd hk
      go_wp2
      go_ret
      exact ⟨rfl, KR.out⟩
open Go.RowKit

theorem storePlays_walk (node : Int) (v : Value) (list : List FX) (W : World) (_kn : -9223372036854775808 ≤ node ∧ node ≤ 9223372036854775807) (k1 : SlFc v list W) (_k2 : list.length ≤ maxLen) (hL : laidMetH Tryz.prog Rows.storePlaysRow.laid W) :
    Calls Tryz.prog 3 #[.int .i64 node, v] W fun e w' => e = .returned (.bool true) ∧ Below W.heap.size W w' := by
  obtain ⟨⟨ads, V⟩, T⟩ := st_tab_of (l := Rows.storePlaysRow.laid) (by kernel_rfl) (by kernel_rfl) (by kernel_rfl) hL
  have C := facC_of ads W V T
  have E : EP [0, 3, 4, 8, 13] ads W := ep_of_st V (by decide)
  exact plays_any node v list V C E k1

open Go.ChangeShapes Go.WideShapes Go.ChangeAt Go.WideMaps Go.WideElems Go.RowKit


set_option maxRecDepth 100000 in
theorem storePlays_lifted (os : Os) (started : os.Started) (H : Type) (enc : TypeId × Value → H) :
    ReturnsInHanded {} Tryz.checked os 3 .any (fun w args => (Rows.storePlaysSpec.pre enc Tryz.prog Tryz.f3 [] false w args ∧ laidMetH Tryz.prog Rows.storePlaysRow.laid w) ∧ sizedMet enc Tryz.prog Tryz.f3 (OpenSpec.ofChange Rows.storePlaysSpec) false w args)
      (Rows.storePlaysSpec.post enc Tryz.prog Tryz.f3 false true false false) := by
  refine returnsInHanded_of_change_and (C := Tryz.checked) (X := fun w _ => laidMetH Tryz.prog Rows.storePlaysRow.laid w) (fun _ _ _ hh h => h.of_heap hh) own started (by kernel_rfl) Tryz.func3
    (ChangeSpec.witness_shaped (enc := enc) (C := Tryz.checked) (os := os) (X := fun w _ => laidMetH Tryz.prog Rows.storePlaysRow.laid w) false (World.laidAll Tryz.prog os Rows.storePlaysRow.laid) #[.int .i64 0, .slice none 0 0] 8 (World.laidAll_os _ _ _) (World.shaped_of_ZipB (by kernel_rfl) (by kernel_rfl)) (by kernel_rfl) (by kernel_rfl) (by kernel_rfl) (by rw [MakeChecks.laidMetH_plain _ _ _ (by kernel_rfl)]; exact laidMet_laidAll _ (by kernel_rfl) (by kernel_rfl))) ?_
  intro W base args ds gs before hval0 hW _ hsz hL _
  have hval : ∀ (j : Nat) t v, Tryz.f3.params[j]? = some t → args[j]? = some v → Value.okWide Tryz.prog W .any base t v := hval0
  have hW' := hW
  obtain ⟨p, q, hA0, hV, rfl, hfz, hnd⟩ := hW
  have hA : DataW.TrodAll enc Tryz.prog W 0 (fun _ => true) true Tryz.f3.params.toList args.toList ds p := hA0
  rw [Tryz.params3] at hA hval
  obtain ⟨v0, vs0, d0, ds0, p0, q0, e0, rfl, rfl, h0, r0⟩ := trodAll_cons hA
  obtain ⟨v1, vs1, d1, ds1, p1, q1, e1, rfl, rfl, h1, r1⟩ := trodAll_cons r0
  obtain ⟨rfl, rfl, rfl⟩ := trodAll_nil r1
  obtain rfl : args = #[v0, v1] := by cases args; simp_all
  obtain ⟨rfl, rfl⟩ := trodVars_none hV
  obtain ⟨node, rfl, rfl, rfl, hnode⟩ := open_int Tryz.underlying3 (hval 0 3 v0 rfl rfl) h0
  obtain ⟨list, klista, klistb⟩ := open_fcts (hval 1 22 v1 rfl rfl) h1
  clear hA0 hval0
  have knode : -9223372036854775808 ≤ node ∧ node ≤ 9223372036854775807 := by simpa [Lit.wf, IntKind.min, IntKind.max, IntKind.bits, IntKind.signed] using hnode
  refine (storePlays_walk node v1 list W knode klista klistb hL).mono fun e W' ⟨he, hw⟩ => ?_
  subst he
  exact ⟨_, rfl, law_post laidOut hW' rfl rfl rfl Tryz.underlying4 (par_ok (by kernel_rfl)) hw⟩

theorem storePlays_said : Rows.StorePlaysSaid :=
  OpenClaim.holds_of_wide 3 Tryz.f3 rfl rfl rfl rfl rfl rfl rfl ⟨rfl, rfl, rfl, rfl, rfl⟩ rfl rfl rfl rfl rfl (by kernel_rfl) Tryz.func3 (by kernel_rfl)
    (of_decide_eq_true (by kernel_rfl)) (by unfold Func.isWrapper; first | (rw [if_pos (by decide +kernel)]; kernel_rfl) | (rw [if_neg (by decide +kernel)]; exact ⟨rfl, rfl⟩))
    (fun os started H enc _ => storePlays_lifted os started H enc)

theorem storePlays_holds : Rows.StorePlaysCardSaid :=
  Claim7.holds_tied_plain_at .later [] _ _ _ _ storePlays_said (fun _ h => by cases h) (by kernel_rfl) (fun _ h => by cases h) storePlays_row_tie rfl ⟨rfl, rfl⟩ (by kernel_rfl) rfl
    (fun f fn hf hfn => by
      obtain rfl : f = 3 := Option.some.inj ((show Tryz.prog.funcNamed "liaison/liaisonlaw15.StorePlays" = some 3 by kernel_rfl).symm.trans hf) |>.symm
      obtain rfl : fn = Tryz.f3 := (Option.some.inj (Tryz.func3.symm.trans hfn)).symm
      exact ⟨by kernel_rfl, stand_ok (P := Tryz.prog) (by kernel_rfl)⟩)
    (by kernel_rfl)
end Go.Proofs.YtpemeenfhkgmpaaGreatDoor
