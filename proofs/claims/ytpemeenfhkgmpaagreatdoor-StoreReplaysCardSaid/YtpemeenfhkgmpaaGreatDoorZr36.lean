/- Parts of this proof (own work). -/
import Derived.Test.YtpemeenfhkgmpaaGreatDoorZr35
set_option maxRecDepth 100000
set_option maxHeartbeats 40000000
namespace Go.Proofs.YtpemeenfhkgmpaaGreatDoor
open Go.RowKit Go.ChangeShapes Go.WideShapes
def SlBC (v : Value) (bss : List (List Int)) (w : World) : Prop :=
 (bss = [] ∧ ∃ a cap, v = .slice a 0 cap ∧ (a = none → cap = 0)) ∨
 ∃ b off cap, 0 < bss.length ∧ v = .slice (some ⟨b, off, none⟩) bss.length cap ∧ ∀ (j : Nat) (h : j < bss.length), ∃ a c, w.cell? ⟨b, off + j, none⟩ = some (.slice a bss[j].length c) ∧ SlB (.slice a bss[j].length c) bss[j] w ∧ InB bss[j] ∧ bss[j].length ≤ c
theorem SlBC.kp {v : Value} {bss : List (List Int)} {w w' : World} (h : SlBC v bss w) (hb : Kp w w') : SlBC v bss w' := by
 rcases h with h | ⟨b, off, cap, h0, h1, h2⟩
 ·exact Or.inl h
 ·refine Or.inr ⟨b, off, cap, h0, h1, fun j hj => ?_⟩
  obtain ⟨a, c, h3, h4, h5⟩ := h2 j hj; exact ⟨a, c, kZ hb h3, h4.kp hb, h5⟩
theorem SlBC.form {v : Value} {bss : List (List Int)} {w : World} (h : SlBC v bss w) : ∃ a cap, v = .slice a bss.length cap := by
 rcases h with ⟨rfl, a, cap, rfl, _⟩ | ⟨b, off, cap, _, rfl, _⟩
 ·exact ⟨a, cap, rfl⟩
 ·exact ⟨_, cap, rfl⟩
theorem SlBC.at {a : Option Addr} {n cap : Nat} {bss : List (List Int)} {w : World} (h : SlBC (.slice a n cap) bss w) (j : Nat) (hj : j < bss.length) :
  ∃ b off, a = some ⟨b, off, none⟩ ∧ ∃ a' c, w.cell? ⟨b, off + j, none⟩ = some (.slice a' bss[j].length c) ∧ SlB (.slice a' bss[j].length c) bss[j] w ∧ InB bss[j] ∧ bss[j].length ≤ c := by
 rcases h with ⟨hz, _⟩ | ⟨b, off, cap', _, hv, hcc⟩
 ·rw [hz] at hj; cases hj
 ·injection hv with hv1 _ _
  exact ⟨b, off, hv1, hcc j hj⟩
theorem open_bytessC {H : Type} {enc : TypeId × Value → H} {P : Program} {W : World} {r : Reach} {b0 : Nat} {t e e2 : TypeId} {v : Value} {d : DataW H} {ps : List MemPlace}
  (ht : P.underlying t = some (.slice e)) (he : P.underlying e = some (.slice e2)) (he2 : P.underlying e2 = some (.int .u8)) (hc : P.cellsOf e = 1) (hc2 : P.cellsOf e2 = 1) (hval : Value.okWide P W r b0 t v)
  (h : DataW.Trod enc P W 0 (fun _ => true) true t v d ps) : ∃ bss : List (List Int), SlBC v bss W ∧ bss.length ≤ maxLen := by
 obtain ⟨a0, len0, cap0, rfl⟩ := okWide_slice ht hval; obtain ⟨fuel, hf⟩ := h
 rcases Deep.open_slice1 ht hc hf with ⟨hcs, hx⟩ | ⟨a, len, cap, m, n, V, D, Pl, hcs, _, hl, hm, hmm, hx, hcell⟩
 ·simp [Value.cells] at hcs
  obtain ⟨rfl, rfl, rfl⟩ := hcs; exact ⟨[], Or.inl ⟨rfl, none, 0, rfl, fun _ => rfl⟩, by simp⟩
 ·simp [Value.cells] at hcs
  obtain ⟨rfl, rfl, rfl⟩ := hcs; simp only [if_true] at hmm
  have hel : ∀ i, i < len0 → ∃ (bs : List Int) (a' : Option Addr) (c : Nat), V i = .slice a' bs.length c ∧ SlB (.slice a' bs.length c) bs W ∧ InB bs ∧ bs.length ≤ c := by
   intro i hi; obtain ⟨bs, a', c, h1, h2, h3, _, h5⟩ := open_byte_elem he he2 hc2 (hcell i (by omega)).2; exact ⟨bs, a', c, by simpa using h1, h2, h3, h5⟩
  let f : Nat → List Int := fun i => if h : i < len0 then (hel i h).choose else []
  have hf' : ∀ i, i < len0 → ∃ (a' : Option Addr) (c : Nat), V i = .slice a' (f i).length c ∧ SlB (.slice a' (f i).length c) (f i) W ∧ InB (f i) ∧ (f i).length ≤ c := by
   intro i hi; have e : f i = (hel i hi).choose := by show (if h : i < len0 then (hel i h).choose else []) = _; rw [dif_pos hi]
   rw [e]; exact (hel i hi).choose_spec
  refine ⟨(List.range len0).map f, ?_, by simp; omega⟩
  by_cases h0 : len0 = 0
  ·subst h0; exact Or.inl ⟨by simp, some a, cap0, rfl, fun h => by cases h⟩
  ·obtain ⟨b, off, spot⟩ := a; have hspot : spot = none := by simpa [Addr.add] using World.cell?_spot (hcell 0 (by omega)).1
   subst hspot; refine Or.inr ⟨b, off, cap0, by simp; omega, by simp, fun j hj => ?_⟩
   have hj' : j < len0 := by simpa using hj
   obtain ⟨a', c, h1, h2⟩ := hf' j hj'; refine ⟨a', c, ?_, ?_⟩
   ·rw [← add_plain, (hcell j (by omega)).1, h1]
    simp
   ·simpa using h2
variable {w0 w w' W w3 : World} {B q : Nat} {m : StM} {gs : List AcG} {va vp : Value}
variable {ads : List Addr}
def inN (nd : Int) : Prop := 0 ≤ nd ∧ nd ≤ 3
theorem gs_new {nd : Int} (h : w.heap[q]? = some (.cells #[nd, .int .i64 0, .slice none 0 0, .slice none 0 0] 81)) (hb : B ≤ q) : GS tyL B q (newSt nd) [] (.slice none 0 0) (.slice none 0 0) w where
 row := h
 bq := hb
 acts := rfl
 oa := ⟨by simp [EncG.row], .inl ⟨rfl, rfl⟩⟩
 op := ⟨by simp [EncG.row, newSt], .inl ⟨rfl, rfl⟩⟩
 og := fun g hg => by cases hg
 dis := fun i j g h hi => by simp at hi
theorem lsNew (E : EP [0, 3, 4, 8, 13] ads w) (nd : Int) : Calls Tryz.prog 9 #[.int .i64 nd] w fun r w' => (¬ inN nd ∧ r = .returned (.tuple #[.pointer none, errI ads 1]) ∧ Kp w w') ∨ (inN nd ∧ ∃ q, r = .returned (.tuple #[.pointer (some ⟨q, 0, none⟩), .nilIface]) ∧ GS tyL w.heap.size q (newSt nd) [] (.slice none 0 0) (.slice none 0 0) w' ∧ Kp w w') := by
 have ce : w.cell? ⟨0, 0, none⟩ = some (errI ads 1) := E.cell 0 (by decide); obtain ⟨er, her⟩ : ∃ x, errI ads 1 = x := ⟨_, rfl⟩
 rw [her] at ce; have HER := hD her; clear E her
 by_cases h1 : nd < 0
 ·have HB := hD (show ¬ inN nd by unfold inN; omega); have d1 := dT h1; go_enter Tryz.func9, Tryz.ntmps9; go_wp2_with fail
  obtain ⟨WD, hWD⟩ : ∃ x, w.drew = x := ⟨_, rfl⟩
  have kD : Kp w WD := by rw [← hWD]; exact dQ (Kp.refl w)
  have HWD := hD hWD; clear hWD; refine wp_region_held_drew (S := fun w' => Kp w w') (by kernel_rfl) ?_ (fun hH => ?_)
  ·exact by rw [HWD.out]; exact kD
  rw [HWD.out] at hH ⊢; refine tkW ?_ 0 ?_ ?_; rotate_left
  ·intro w hZ; have a0 := kZ hZ ce; go_simp; try rfl
  go_simp; refine tkW ?_ 1 ?_ ?_; rotate_left
  ·intro w hZ; go_simp; try rfl
  go_simp; refine tkW ?_ 2 ?_ ?_; rotate_left
  ·intro w hZ; go_simp; try rfl
  go_simp; refine wpAnyH_done (by kernel_rfl) ?_ _
  have KF := hD (show Kp w _ from hH); clear hH; go_wp2; go_ret2
  exact .inl ⟨HB.out, by rw [HER.out]; rfl, KF.out⟩
 ·have d1 := dF h1
  by_cases h2 : 4 ≤ nd
  ·have HB := hD (show ¬ inN nd by unfold inN; omega); have d2 : decide (nd ≥ 4) = true := dT h2; go_enter Tryz.func9, Tryz.ntmps9; go_wp2_with fail
   obtain ⟨WD, hWD⟩ : ∃ x, w.drew = x := ⟨_, rfl⟩
   have kD : Kp w WD := by rw [← hWD]; exact dQ (Kp.refl w)
   have HWD := hD hWD; clear hWD; refine wp_region_held_drew (S := fun w' => Kp w w') (by kernel_rfl) ?_ (fun hH => ?_)
   ·exact by rw [HWD.out]; exact kD
   rw [HWD.out] at hH ⊢; refine tkW ?_ 0 ?_ ?_; rotate_left
   ·intro w hZ; have a0 := kZ hZ ce; go_simp; try rfl
   go_simp; refine tkW ?_ 1 ?_ ?_; rotate_left
   ·intro w hZ; go_simp; try rfl
   go_simp; refine tkW ?_ 2 ?_ ?_; rotate_left
   ·intro w hZ; go_simp; try rfl
   go_simp; refine wpAnyH_done (by kernel_rfl) ?_ _
   have KF := hD (show Kp w _ from hH); clear hH; go_wp2; go_ret2
   exact .inl ⟨HB.out, by rw [HER.out]; rfl, KF.out⟩
  ·have d2 : decide (nd ≥ 4) = false := dF h2; have HB := hD (show inN nd by unfold inN; omega); have rz := (mH w (.cells #[nd, .int .i64 0, .slice none 0 0, .slice none 0 0] 81))
   have FIN := hD (gs_new (B := w.heap.size) rz (Nat.le_refl _)); clear rz ce; go_enter Tryz.func9, Tryz.ntmps9; go_wp2; go_ret2
   exact .inr ⟨HB.out, _, rfl, FIN.out, kA _ _⟩
def rowsRun : StM → List (List Int) → Option StM
 | m, [] => some m
 | m, b :: l => if (decG b).1 = 0 ∧ (applyQ m (decG b).2).1 = 0 then rowsRun (applyQ m (decG b).2).2 l else none
theorem rowsRun_app : ∀ (A B : List (List Int)) (m : StM), rowsRun m (A ++ B) = (rowsRun m A).bind fun m2 => rowsRun m2 B
 | [], _, _ => rfl
 | b :: A, B, m => by
  have ih := fun m2 => rowsRun_app A B m2
  show (if _ then rowsRun _ (A ++ B) else none) = (if _ then rowsRun _ A else none).bind _
  split
  ·exact ih _
  ·rfl
theorem lsReplay (C : FacC ads w) (E : EP [0, 3, 4, 8, 13] ads w) (nd : Int) (a : Option Addr) (n cap : Nat) (bss : List (List Int)) (hn : bss.length = n) (hl : n ≤ 1000) (h1 : ∀ b ∈ bss, b.length ≤ 1000) (hs : SlBC (.slice a n cap) bss w) : Calls Tryz.prog 18 #[.int .i64 nd, .slice a n cap] w fun r w' => (¬ inN nd ∧ r = .returned (.tuple #[.pointer none, errI ads 1]) ∧ Kp w w') ∨ (inN nd ∧ ((rowsRun (newSt nd) bss = none ∧ r = .returned (.tuple #[.pointer none, errI ads 5]) ∧ Kp w w') ∨ ∃ m, rowsRun (newSt nd) bss = some m ∧ OkS m ∧ ∃ q, r = .returned (.tuple #[.pointer (some ⟨q, 0, none⟩), .nilIface]) ∧ (∃ gs va vp, GS tyL w.heap.size q m gs va vp w') ∧ Kp w w')) := by
 have hnew := fun w1 (hk : Kp w w1) => lsNew (E.kp hk) nd
 have ce : w.cell? ⟨4, 0, none⟩ = some (errI ads 5) := E.cell 4 (by decide); obtain ⟨er, her⟩ : ∃ x, errI ads 5 = x := ⟨_, rfl⟩
 rw [her] at ce; have HER := hD her; have CE := hD ce; clear her ce
 by_cases hin : inN nd
 rotate_left
 ·obtain ⟨p1, hp1⟩ := errI_some14 ads 1 (by decide); have hnew := fun w1 (hk : Kp w w1) => (hnew w1 hk).mono (R' := fun r w' => r = .returned (.tuple #[.pointer none, .iface 240 (.pointer p1)]) ∧ Kp w1 w') (by
   rintro e w2 (⟨_, rfl, hk2⟩ | ⟨h, _⟩)
   ·rw [hp1]; exact ⟨rfl, hk2⟩
   ·exact absurd h hin)
  have HNEW := hD hnew; have HIN := hD hin; have HP1 := hD hp1; clear hnew hin hp1 C E hn hl h1 hs; go_enter Tryz.func18, Tryz.ntmps18; go_wp2_with (go_at_call 9; (with_reducible refine (HNEW.out _ (Kp.refl w)).mono ?_); rintro e' w1 ⟨rfl, hk1⟩; have KQ := hD hk1; clear hk1)
  go_ret2
  exact .inl ⟨HIN.out, by rw [HP1.out]; rfl, by first | exact KQ.out | exact dQ KQ.out⟩
 have hnew := fun w1 (hk : Kp w w1) => (hnew w1 hk).mono (R' := fun r w' => ∃ q, r = .returned (.tuple #[.pointer (some ⟨q, 0, none⟩), .nilIface]) ∧ GS tyL w1.heap.size q (newSt nd) [] (.slice none 0 0) (.slice none 0 0) w' ∧ Kp w1 w') (by
  rintro e w2 (⟨h, _⟩ | ⟨_, h⟩)
  ·exact absurd hin h
  ·exact h)
 have HNEW := hD hnew; have HIN := hD hin; have HC := hD C; have HE := hD E; have HN := hD hn; have HL := hD hl; have H1 := hD h1; have HS := hD hs; have hsf := sF; have HOK0 := hD (newSt_ok hin); obtain ⟨N, hN⟩ : ∃ N : Int, (n : Int) = N := ⟨_, rfl⟩
 have HNN := hD hN; clear hnew hin C E hn hl h1 hs; go_enter Tryz.func18, Tryz.ntmps18; go_wp2_with (go_at_call 9; (with_reducible refine (HNEW.out _ (Kp.refl w)).mono ?_); rintro e' w1 ⟨q, rfl, hg1, hk1⟩; have G1 := hD hg1; have K1 := hD hk1; clear hg1 hk1)
 go_loopw [22] (fun i wr => ∃ (j : Nat) (m : StM) (gs : List AcG) (va vp : Value), j ≤ n ∧ i = .int .i64 j ∧ rowsRun (newSt nd) (bss.take j) = some m ∧ OkS m ∧ GS tyL w.heap.size q m gs va vp wr ∧ Kp w wr) (fun i _ => n - (intOf i).toNat)
 case atStart => exact ⟨0, newSt nd, [], _, _, Nat.zero_le _, rfl, rfl, HOK0.out, G1.out, K1.out⟩
 case round =>
  obtain ⟨j, m, gs, va, vp, hj, rfl, hrun, hok, hg, hk⟩ := hrel; obtain ⟨kk, hkk⟩ : ∃ x : Int, (j : Int) = x := ⟨_, rfl⟩
  rw [hkk]; have HKK := hD hkk; have KR := hD hk; have HRUN := hD hrun; have HOK := hD hok; have HG := hD hg
  by_cases hlt : j < n
  ·have hjl : kk < N := by have := HNN.out; omega
   have hk0 : 0 ≤ kk := by omega
   have htk : kk.toNat = j := by omega
   have hN8 : N ≤ 1000 := by have := HNN.out; have := HL.out; omega
   have hw1 : wrap64 (kk + 1) = kk + 1 := IntWalk.wrap64_in _ (by omega); have HLT := hD hlt; have hjx : j < bss.length := by have := HN.out; omega
   obtain ⟨bb, bo, rfl, aj, cj, hcell, hslb, hinb, hcap⟩ := (HS.out.kp hk).at j hjx; have hspl : bss = bss.take j ++ bss[j] :: bss.drop (j + 1) := by rw [← List.drop_eq_getElem_cons hjx, List.take_append_drop]
   have hts : bss.take (j + 1) = bss.take j ++ [bss[j]] := by rw [← List.take_succ_eq_append_getElem hjx]
   have hbl : bss[j].length ≤ 1000 := H1.out _ (List.getElem_mem hjx); obtain ⟨DR, hDR⟩ : ∃ x, bss.drop (j + 1) = x := ⟨_, rfl⟩
   rw [hDR] at hspl; obtain ⟨BJ, hBJ⟩ : ∃ x, bss[j] = x := ⟨_, rfl⟩
   rw [hBJ] at hspl hts hbl hcell hslb hinb hcap; have HSPL := hD hspl; have HTS := hD hts; obtain ⟨lb, hlb⟩ : ∃ x, BJ.length = x := ⟨_, rfl⟩
   rw [hlb] at hcell hslb hbl hcap; have hdec := HC.out.dec wr hk aj cj BJ lb hlb hbl hinb hcap hslb; obtain ⟨⟨fk, fn, fs, fr, fe, fp, fq, fo, fd, fa, ft, fh, fc, fx⟩, hF⟩ : ∃ f, (decG BJ).2 = f := ⟨_, rfl⟩
   have hwf : FX.wf (⟨fk, fn, fs, fr, fe, fp, fq, fo, fd, fa, ft, fh, fc, fx⟩ : FX) := by rw [← hF]; exact decG_wf
   obtain ⟨cd, hcd⟩ : ∃ c, (decG BJ).1 = c := ⟨_, rfl⟩
   rw [hF, hcd] at hdec; dsimp only [FX.cells] at hdec; rw [← htk] at hcell; have hap := fun w1 (hk1 : Kp wr w1) => lsApply_any (HC.out.kp (kT hk hk1)) (HE.out.kp (kT hk hk1)) (hg.kp hk1) hok (⟨fk, fn, fs, fr, fe, fp, fq, fo, fd, fa, ft, fh, fc, fx⟩ : FX) hwf
   dsimp only [FX.cells] at hap; obtain ⟨AQ, hAQ⟩ : ∃ x, applyQ m (⟨fk, fn, fs, fr, fe, fp, fq, fo, fd, fa, ft, fh, fc, fx⟩ : FX) = x := ⟨_, rfl⟩
   rw [hAQ] at hap; obtain ⟨ac, m2⟩ := AQ; dsimp only at hap; have HAQ := hD (show applyQ m (decG BJ).2 = (ac, m2) by rw [hF]; exact hAQ); have HCD := hD hcd; have HOK2 := hD (show OkS m2 by have := applyQ_ok (f := (⟨fk, fn, fs, fr, fe, fp, fq, fo, fd, fa, ft, fh, fc, fx⟩ : FX)) hok; rw [hAQ] at this; exact this); have hOw : ∀ b, Ow q gs va vp b → w.heap.size ≤ b := fun b hb => (hg.mem b hb).1
   have HOW := hD hOw
   by_cases hc0 : cd = 0
   rotate_left
   ·have HNO := hD (show rowsRun (newSt nd) bss = none by rw [HSPL.out, rowsRun_app, HRUN.out]; show rowsRun m (BJ :: _) = none; unfold rowsRun; rw [if_neg (fun h => hc0 (by rw [← hcd]; exact h.1))]); obtain ⟨pe, hpe⟩ := errI_some14 ads cd hc0; rw [hpe] at hdec; have HDEC := hD hdec; clear hkk hj hlt hk hrun hok hg htk hjx hslb hinb hcap hspl hts hbl hDR hBJ hlb hdec hF hwf hcd hap hAQ hOw hc0 hpe; go_wp2_with (go_at_call 49; (with_reducible refine HDEC.out.mono ?_); rintro e' w3 ⟨rfl, hk3⟩; obtain ⟨u0, u1, u2, u3, u4, u5, u6, u7, u8, u9, u10, u11, u12, u13⟩ := cZ (mH w3 (.cells #[fk, fn, fs, fr, fe, fp, fq, fo, fd, fa, ft, fh, fc, .float .f64 fx] 39)); have K3 := hD (kT hk3 (kA w3 (.cells #[fk, fn, fs, fr, fe, fp, fq, fo, fd, fa, ft, fh, fc, .float .f64 fx] 39))); clear hk3)
    have KQ := hD (kT KR.out K3.out); obtain ⟨WD, hWD⟩ : ∃ x, (w3.alloc (.cells #[fk, fn, fs, fr, fe, fp, fq, fo, fd, fa, ft, fh, fc, .float .f64 fx] 39)).drew = x := ⟨_, rfl⟩
    have kD : Kp w WD := by rw [← hWD]; exact dQ KQ.out
    have HWD := hD hWD; clear hWD; refine wp_region_held_drew (S := fun w' => Kp w w') (by kernel_rfl) ?_ (fun hH => ?_)
    ·exact by rw [HWD.out]; exact kD
    rw [HWD.out] at hH ⊢; refine tkW ?_ 0 ?_ ?_; rotate_left
    ·intro w hZ; have a0 := kZ hZ CE.out; go_simp; try rfl
    go_simp; refine tkW ?_ 1 ?_ ?_; rotate_left
    ·intro w hZ; go_simp; try rfl
    go_simp; refine tkW ?_ 2 ?_ ?_; rotate_left
    ·intro w hZ; go_simp; try rfl
    go_simp; refine wpAnyH_done (by kernel_rfl) ?_ _
    have KF := hD (show Kp w _ from hH); clear hH; go_wp2; go_ret2
    exact .inr ⟨HIN.out, .inl ⟨HNO.out, by rw [HER.out]; rfl, KF.out⟩⟩
   subst hc0; rw [eN] at hdec; have HDEC := hD hdec
   by_cases ha0 : ac = 0
   rotate_left
   ·have HNO := hD (show rowsRun (newSt nd) bss = none by rw [HSPL.out, rowsRun_app, HRUN.out]; show rowsRun m (BJ :: _) = none; unfold rowsRun; rw [if_neg (fun h => ha0 (by have h2 := h.2; rw [HAQ.out] at h2; exact h2))]); obtain ⟨pe, hpe⟩ := errI_some14 ads ac ha0; rw [hpe] at hap; have HAP := hD hap; clear hkk hj hlt hk hrun hok hg htk hjx hslb hinb hcap hspl hts hbl hDR hBJ hlb hdec hF hwf hcd hap hAQ hOw ha0 hpe; go_wp2_with (first | (go_at_call 49; (with_reducible refine HDEC.out.mono ?_); rintro e' w3 ⟨rfl, hk3⟩; obtain ⟨u0, u1, u2, u3, u4, u5, u6, u7, u8, u9, u10, u11, u12, u13⟩ := cZ (mH w3 (.cells #[fk, fn, fs, fr, fe, fp, fq, fo, fd, fa, ft, fh, fc, .float .f64 fx] 39)); have K3 := hD (kT hk3 (kA w3 (.cells #[fk, fn, fs, fr, fe, fp, fq, fo, fd, fa, ft, fh, fc, .float .f64 fx] 39))); clear hk3) | (go_at_call 11; (with_reducible refine (HAP.out _ K3.out).mono ?_); rintro e' w5 ⟨rfl, gs2, va2, vp2, hg, ha⟩; have G5 := hD hg; have A5 := hD ha; clear hg ha))
    have KQ := hD (A5.out.kp (kT KR.out K3.out) HOW.out); obtain ⟨WD, hWD⟩ : ∃ x, (w5).drew = x := ⟨_, rfl⟩
    have kD : Kp w WD := by rw [← hWD]; exact dQ KQ.out
    have HWD := hD hWD; clear hWD; refine wp_region_held_drew (S := fun w' => Kp w w') (by kernel_rfl) ?_ (fun hH => ?_)
    ·exact by rw [HWD.out]; exact kD
    rw [HWD.out] at hH ⊢; refine tkW ?_ 0 ?_ ?_; rotate_left
    ·intro w hZ; have a0 := kZ hZ CE.out; go_simp; try rfl
    go_simp; refine tkW ?_ 1 ?_ ?_; rotate_left
    ·intro w hZ; go_simp; try rfl
    go_simp; refine tkW ?_ 2 ?_ ?_; rotate_left
    ·intro w hZ; go_simp; try rfl
    go_simp; refine wpAnyH_done (by kernel_rfl) ?_ _
    have KF := hD (show Kp w _ from hH); clear hH; go_wp2; go_ret2
    exact .inr ⟨HIN.out, .inl ⟨HNO.out, by rw [HER.out]; rfl, KF.out⟩⟩
   subst ha0; rw [eN] at hap; have HAP := hD hap; clear hkk hj hlt hk hrun hok hg htk hjx hslb hinb hcap hspl hts hbl hDR hBJ hlb hdec hF hwf hcd hap hAQ hOw; go_wp2_with (first | (go_at_call 49; (with_reducible refine HDEC.out.mono ?_); rintro e' w3 ⟨rfl, hk3⟩; obtain ⟨u0, u1, u2, u3, u4, u5, u6, u7, u8, u9, u10, u11, u12, u13⟩ := cZ (mH w3 (.cells #[fk, fn, fs, fr, fe, fp, fq, fo, fd, fa, ft, fh, fc, .float .f64 fx] 39)); have K3 := hD (kT hk3 (kA w3 (.cells #[fk, fn, fs, fr, fe, fp, fq, fo, fd, fa, ft, fh, fc, .float .f64 fx] 39))); clear hk3) | (go_at_call 11; (with_reducible refine (HAP.out _ K3.out).mono ?_); rintro e' w5 ⟨rfl, gs2, va2, vp2, hg, ha⟩; have G5 := hD hg; have A5 := hD ha; clear hg ha))
   go_roundw
   case rel => exact ⟨j + 1, m2, gs2, va2, vp2, by have := HLT.out; omega, by have := HKK.out; first | rw [show ((j + 1 : Nat) : Int) = kk + 1 by omega] | rw [show ((j + 1 : Nat) : Int) = kk + 1 by omega, hw1], by
    rw [HTS.out, rowsRun_app, HRUN.out]
    show rowsRun m [BJ] = some m2
    unfold rowsRun; rw [if_pos ⟨HCD.out, by rw [HAQ.out]⟩, HAQ.out]
    rfl, HOK2.out, G5.out, A5.out.kp (kT KR.out K3.out) HOW.out⟩
   case measure => have := HKK.out; have := HLT.out; simp [intOf]; omega
  ·have hje : ¬ kk < N := by have := HNN.out; omega
   have hfin : bss.take j = bss := by rw [show j = n by omega, ← HN.out, List.take_length]
   rw [hfin] at hrun; have HRUN := hD hrun; clear hkk hj hlt hk hrun hok hg hfin; go_wp2; go_ret2
   exact .inr ⟨HIN.out, .inr ⟨m, HRUN.out, HOK.out, q, rfl, ⟨gs, va, vp, HG.out⟩, KR.out⟩⟩
def alF : List FX := [(⟨1, 1, 0, 0, 0, 0, 0, 1, 0, 0, 0, 0, 0, 4621256167635550208⟩ : FX), (⟨2, 1, 0, 0, 0, 0, 1, 0, 0, 0, 0, 0, 0, 0⟩ : FX), (⟨3, 1, 0, 0, 0, 0, 0, 0, 0, 0, 5, 0, 0, 0⟩ : FX)]
def alM : Nat → StM
 | 0 => newSt 1
 | n + 1 => match alF[n]? with
  | some f => (applyQ (alM n) f).2
  | none => alM n
theorem al_0 : (applyQ (alM 0) (⟨1, 1, 0, 0, 0, 0, 0, 1, 0, 0, 0, 0, 0, 4621256167635550208⟩ : FX)).1 = 0 := by decide +kernel
theorem al_1 : (applyQ (alM 1) (⟨2, 1, 0, 0, 0, 0, 1, 0, 0, 0, 0, 0, 0, 0⟩ : FX)).1 = 0 := by decide +kernel
theorem al_2 : (applyQ (alM 2) (⟨3, 1, 0, 0, 0, 0, 0, 0, 0, 0, 5, 0, 0, 0⟩ : FX)).1 = 0 := by decide +kernel
theorem alM_step : ∀ j (h : j < alF.length), applyQ (alM j) (alF[j]'h) = (0, alM (j + 1)) := by
 intro j h; have h' : j < 3 := h
 rcases (by omega : j = 0 ∨ j = 1 ∨ j = 2) with rfl | rfl | rfl
 ·exact Prod.ext al_0 rfl
 ·exact Prod.ext al_1 rfl
 ·exact Prod.ext al_2 rfl
theorem alM_ok : ∀ j, j ≤ 3 → OkS (alM j)
 | 0, _ => newSt_ok (by omega)
 | n + 1, h => by
  have h1 := alM_ok n (by omega); have hl : n < alF.length := by show n < 3; omega
  have h2 := applyQ_ok (f := alF[n]'hl) h1; have h3 := congrArg Prod.snd (alM_step n hl); exact (show (applyQ (alM n) (alF[n]'hl)).2 = alM (n + 1) from h3) ▸ h2
theorem alF_wf : ∀ f ∈ alF, f.wf := by
 intro f hf; simp only [alF, List.mem_cons, List.not_mem_nil, or_false] at hf
 rcases hf with rfl | rfl | rfl <;> (unfold FX.wf; decide)
theorem alM_find : findS (alM 3).acts 1 0 = some 0 := by decide +kernel
theorem alM_act : ∃ a : AcM, (alM 3).acts[0]? = some a ∧ ∃ g1 g2 z1 z2 z4, a.regs = [⟨g1, g2, ⟨z1, z2, 5, z4⟩⟩] := ⟨_, rfl, _, _, _, _, _, rfl⟩
theorem ow_not {T : TyQ} {B q b : Nat} {m : StM} {gs : List AcG} {va vp : Value} {w : World} {cs : Array Value} {t : TypeId} (h : GS T B q m gs va vp w) (r : w.heap[b]? = some (.cells cs t (0, 0))) (h1 : t ≠ T.st) (h2 : t ≠ T.ac) (h3 : t ≠ T.pt) (h4 : t ≠ T.rg) : ¬ Ow q gs va vp b := by
 rintro (hb | hb | hb | ⟨g, hg, hb⟩)
 ·exact row_neQ r h.row h1 hb
 ·exact nQ h.oa r h2 hb.symm
 ·exact nQ h.op r h3 hb.symm
 ·exact nQ (h.og g hg) r h4 hb.symm
theorem own_asdQ {T : TyQ} {B B' q k n : Nat} {m : StM} {gs : List AcG} {va vp : Value} {O' : Nat → Prop} {w w' : World} {t : TypeId} {v : Value} {us : List Value} (h : GS T B q m gs va vp w) (o : w.ownsRow B' t k v n us) (h1 : t ≠ T.st) (h2 : t ≠ T.ac) (h3 : t ≠ T.pt) (h4 : t ≠ T.rg) (a : Asd (Ow q gs va vp) O' w w') : w'.ownsRow B' t k v n us :=
 sG o fun b hb => by
  obtain ⟨c, hc⟩ := own_kindQ o b hb; exact a.block b (o.lt b hb).2 (ow_not h hc h1 h2 h3 h4)
theorem own_al (B : Nat) (hb : B ≤ w.heap.size) : (w.alloc (.cells #[.int .i64 1, .int .i64 1, .int .i64 0, .int .i64 0, .int .i64 0, .int .i64 0, .int .i64 0, .int .i64 1, .int .i64 0, .int .i64 0, .int .i64 0, .int .i64 0, .int .i64 0, .float .f64 4621256167635550208, .int .i64 2, .int .i64 1, .int .i64 0, .int .i64 0, .int .i64 0, .int .i64 0, .int .i64 1, .int .i64 0, .int .i64 0, .int .i64 0, .int .i64 0, .int .i64 0, .int .i64 0, .float .f64 0, .int .i64 3, .int .i64 1, .int .i64 0, .int .i64 0, .int .i64 0, .int .i64 0, .int .i64 0, .int .i64 0, .int .i64 0, .int .i64 0, .int .i64 5, .int .i64 0, .int .i64 0, .float .f64 0] 39)).ownsRow B 39 14 (.slice (some ⟨w.heap.size, 0, none⟩) 3 3) 3 (fcE.row alF) := by
 have := World.ownsRow_lit (base := B) (e := 39) (size := 14) w #[.int .i64 1, .int .i64 1, .int .i64 0, .int .i64 0, .int .i64 0, .int .i64 0, .int .i64 0, .int .i64 1, .int .i64 0, .int .i64 0, .int .i64 0, .int .i64 0, .int .i64 0, .float .f64 4621256167635550208, .int .i64 2, .int .i64 1, .int .i64 0, .int .i64 0, .int .i64 0, .int .i64 0, .int .i64 1, .int .i64 0, .int .i64 0, .int .i64 0, .int .i64 0, .int .i64 0, .int .i64 0, .float .f64 0, .int .i64 3, .int .i64 1, .int .i64 0, .int .i64 0, .int .i64 0, .int .i64 0, .int .i64 0, .int .i64 0, .int .i64 0, .int .i64 0, .int .i64 5, .int .i64 0, .int .i64 0, .float .f64 0] 3 hb (by decide) rfl; rw [show fcE.row alF = (#[.int .i64 1, .int .i64 1, .int .i64 0, .int .i64 0, .int .i64 0, .int .i64 0, .int .i64 0, .int .i64 1, .int .i64 0, .int .i64 0, .int .i64 0, .int .i64 0, .int .i64 0, .float .f64 4621256167635550208, .int .i64 2, .int .i64 1, .int .i64 0, .int .i64 0, .int .i64 0, .int .i64 0, .int .i64 1, .int .i64 0, .int .i64 0, .int .i64 0, .int .i64 0, .int .i64 0, .int .i64 0, .float .f64 0, .int .i64 3, .int .i64 1, .int .i64 0, .int .i64 0, .int .i64 0, .int .i64 0, .int .i64 0, .int .i64 0, .int .i64 0, .int .i64 0, .int .i64 5, .int .i64 0, .int .i64 0, .float .f64 0]).toList by unfold EncG.row alF; simp [fcE, FX.cells]]
 exact this
theorem alive15_any (C : FacC ads w) (E : EP [0, 3, 4, 8, 13] ads w) : Calls Tryz.prog 8 #[] w fun r w' => r = .returned (.bool true) ∧ Kp w w' := by
 have hnew := fun w1 (hk : Kp w w1) => (lsNew (E.kp hk) 1).mono (R' := fun r w' => ∃ q, r = .returned (.tuple #[.pointer (some ⟨q, 0, none⟩), .nilIface]) ∧ GS tyL w1.heap.size q (newSt 1) [] (.slice none 0 0) (.slice none 0 0) w' ∧ Kp w1 w') (by
  rintro e w2 (⟨h, _⟩ | ⟨_, h⟩)
  ·exact absurd (by unfold inN; omega) h
  ·exact h)
 have HNEW := hD hnew; have HC := hD C; have HE := hD E; have hsf := sF; clear hnew C E; go_enter Tryz.func8, Tryz.ntmps8; go_wp2_with (go_at_call 9; (with_reducible refine (HNEW.out _ (Kp.refl w)).mono ?_); rintro e' w1 ⟨q, rfl, hg1, hk1⟩; have G1 := hD hg1; have K1 := hD hk1; have A1 := hD (nX0 w1 (.cells #[.int .i64 1, .int .i64 0] 36) (.cells #[.int .i64 1, .int .i64 1, .int .i64 0, .int .i64 0, .int .i64 0, .int .i64 0, .int .i64 0, .int .i64 1, .int .i64 0, .int .i64 0, .int .i64 0, .int .i64 0, .int .i64 0, .float .f64 4621256167635550208, .int .i64 2, .int .i64 1, .int .i64 0, .int .i64 0, .int .i64 0, .int .i64 0, .int .i64 1, .int .i64 0, .int .i64 0, .int .i64 0, .int .i64 0, .int .i64 0, .int .i64 0, .float .f64 0, .int .i64 3, .int .i64 1, .int .i64 0, .int .i64 0, .int .i64 0, .int .i64 0, .int .i64 0, .int .i64 0, .int .i64 0, .int .i64 0, .int .i64 5, .int .i64 0, .int .i64 0, .float .f64 0] 39)); obtain ⟨b0, b1⟩ := cells_2S (mH w1 (.cells #[.int .i64 1, .int .i64 0] 36)); clear hg1 hk1)
 have kx : Kp w ((w1.alloc (.cells #[.int .i64 1, .int .i64 0] 36)).alloc (.cells #[.int .i64 1, .int .i64 1, .int .i64 0, .int .i64 0, .int .i64 0, .int .i64 0, .int .i64 0, .int .i64 1, .int .i64 0, .int .i64 0, .int .i64 0, .int .i64 0, .int .i64 0, .float .f64 4621256167635550208, .int .i64 2, .int .i64 1, .int .i64 0, .int .i64 0, .int .i64 0, .int .i64 0, .int .i64 1, .int .i64 0, .int .i64 0, .int .i64 0, .int .i64 0, .int .i64 0, .int .i64 0, .float .f64 0, .int .i64 3, .int .i64 1, .int .i64 0, .int .i64 0, .int .i64 0, .int .i64 0, .int .i64 0, .int .i64 0, .int .i64 0, .int .i64 0, .int .i64 5, .int .i64 0, .int .i64 0, .float .f64 0] 39)) := kT K1.out (kT (kA _ _) (kA _ _)); have hO := own_al (w := w1.alloc (.cells #[.int .i64 1, .int .i64 0] 36)) w.heap.size (kS (kT K1.out (kA _ _))); rw [show (w1.alloc (.cells #[.int .i64 1, .int .i64 0] 36)).heap.size = w1.heap.size + 1 by simp] at hO
 have hg := G1.out.kp (kT (kA w1 (.cells #[.int .i64 1, .int .i64 0] 36)) (kA _ (.cells #[.int .i64 1, .int .i64 1, .int .i64 0, .int .i64 0, .int .i64 0, .int .i64 0, .int .i64 0, .int .i64 1, .int .i64 0, .int .i64 0, .int .i64 0, .int .i64 0, .int .i64 0, .float .f64 4621256167635550208, .int .i64 2, .int .i64 1, .int .i64 0, .int .i64 0, .int .i64 0, .int .i64 0, .int .i64 1, .int .i64 0, .int .i64 0, .int .i64 0, .int .i64 0, .int .i64 0, .int .i64 0, .float .f64 0, .int .i64 3, .int .i64 1, .int .i64 0, .int .i64 0, .int .i64 0, .int .i64 0, .int .i64 0, .int .i64 0, .int .i64 0, .int .i64 0, .int .i64 5, .int .i64 0, .int .i64 0, .float .f64 0] 39))); have KX := hD kx; have HO := hD hO; have HG0 := hD hg; clear kx hO hg; go_loopw [27] (fun i wr => ∃ (j : Nat) (gs : List AcG) (va vp : Value), j ≤ 3 ∧ i = .int .i64 j ∧ GS tyL w.heap.size q (alM j) gs va vp wr ∧ Kp w wr ∧ (wr.ownsRow w.heap.size 39 14 (.slice (some ⟨w1.heap.size + 1, 0, none⟩) 3 3) 3 (fcE.row alF)) ∧ wr.heap[w1.heap.size]? = some (.cells #[.int .i64 1, .int .i64 0] 36)) (fun i _ => 3 - (intOf i).toNat)
 case atStart => exact ⟨0, [], _, _, Nat.zero_le _, rfl, HG0.out, KX.out, HO.out, A1.out⟩
 case round =>
  obtain ⟨j, gs, va, vp, hj, rfl, hg, hk, ho, hb⟩ := hrel; obtain ⟨kk, hkk⟩ : ∃ x : Int, (j : Int) = x := ⟨_, rfl⟩
  rw [hkk]; have HKK := hD hkk; have KR := hD hk; have OR := hD ho; have RB := hD hb; have HG := hD hg
  by_cases hlt : j < 3
  ·have hjl : kk < 3 := by omega
   have hk0 : 0 ≤ kk := by omega
   have htk : kk.toNat = j := by omega
   have hw1 : wrap64 (kk + 1) = kk + 1 := IntWalk.wrap64_in _ (by omega); have HLT := hD hlt; obtain ⟨ga, cga, ega, h1ga, h2ga, h3ga, h4ga, hcga⟩ := cQ (E := fcE) ho (show alF.length = 3 from rfl) hlt; have hlt' : j < alF.length := hlt; have ega := congrArg (fun v => match v with | Value.slice a _ _ => a | _ => none) ega; dsimp only at ega; have ega := Option.some.inj ega; have ega := congrArg Addr.block ega; dsimp only at ega; subst ega; obtain ⟨⟨fk, fn, fs, fr, fe, fp, fq, fo, fd, fa, ft, fh, fc, fx⟩, hyga⟩ : ∃ r, alF[j]'hlt' = r := ⟨_, rfl⟩
   rw [hyga, show fcE.k = 14 from rfl, ← htk] at hcga; have zf0 : wr.cell? ⟨w1.heap.size + 1, kk.toNat * 14, none⟩ = some (.int .i64 fk) := hcga 0 _ (by decide) rfl; have zf1 : wr.cell? ⟨w1.heap.size + 1, kk.toNat * 14 + 1, none⟩ = some (.int .i64 fn) := hcga 1 _ (by decide) rfl; have zf2 : wr.cell? ⟨w1.heap.size + 1, kk.toNat * 14 + 2, none⟩ = some (.int .i64 fs) := hcga 2 _ (by decide) rfl; have zf3 : wr.cell? ⟨w1.heap.size + 1, kk.toNat * 14 + 3, none⟩ = some (.int .i64 fr) := hcga 3 _ (by decide) rfl; have zf4 : wr.cell? ⟨w1.heap.size + 1, kk.toNat * 14 + 4, none⟩ = some (.int .i64 fe) := hcga 4 _ (by decide) rfl; have zf5 : wr.cell? ⟨w1.heap.size + 1, kk.toNat * 14 + 5, none⟩ = some (.int .i64 fp) := hcga 5 _ (by decide) rfl; have zf6 : wr.cell? ⟨w1.heap.size + 1, kk.toNat * 14 + 6, none⟩ = some (.int .i64 fq) := hcga 6 _ (by decide) rfl; have zf7 : wr.cell? ⟨w1.heap.size + 1, kk.toNat * 14 + 7, none⟩ = some (.int .i64 fo) := hcga 7 _ (by decide) rfl
   have zf8 : wr.cell? ⟨w1.heap.size + 1, kk.toNat * 14 + 8, none⟩ = some (.int .i64 fd) := hcga 8 _ (by decide) rfl; have zf9 : wr.cell? ⟨w1.heap.size + 1, kk.toNat * 14 + 9, none⟩ = some (.int .i64 fa) := hcga 9 _ (by decide) rfl; have zf10 : wr.cell? ⟨w1.heap.size + 1, kk.toNat * 14 + 10, none⟩ = some (.int .i64 ft) := hcga 10 _ (by decide) rfl; have zf11 : wr.cell? ⟨w1.heap.size + 1, kk.toNat * 14 + 11, none⟩ = some (.int .i64 fh) := hcga 11 _ (by decide) rfl; have zf12 : wr.cell? ⟨w1.heap.size + 1, kk.toNat * 14 + 12, none⟩ = some (.int .i64 fc) := hcga 12 _ (by decide) rfl; have zf13 : wr.cell? ⟨w1.heap.size + 1, kk.toNat * 14 + 13, none⟩ = some (.float .f64 fx) := hcga 13 _ (by decide) rfl; obtain ⟨u0, u1, u2, u3, u4, u5, u6, u7, u8, u9, u10, u11, u12, u13⟩ := cZ (mH wr (.cells #[fk, fn, fs, fr, fe, fp, fq, fo, fd, fa, ft, fh, fc, .float .f64 fx] 39)); have hwf : FX.wf (⟨fk, fn, fs, fr, fe, fp, fq, fo, fd, fa, ft, fh, fc, fx⟩ : FX) := by rw [← hyga]; exact alF_wf _ (List.getElem_mem hlt')
   have hst := alM_step j hlt'; rw [hyga] at hst; have hap := fun w2 (hk1 : Kp wr w2) => lsApply_any (HC.out.kp (kT hk hk1)) (HE.out.kp (kT hk hk1)) (hg.kp hk1) (alM_ok j (by omega)) (⟨fk, fn, fs, fr, fe, fp, fq, fo, fd, fa, ft, fh, fc, fx⟩ : FX) hwf
   rw [hst] at hap; dsimp only [FX.cells] at hap; rw [eN] at hap; have HAP := hD hap; have HOW := hD (show ∀ b, Ow q gs va vp b → w.heap.size ≤ b from fun b hb => (hg.mem b hb).1); have hlt2 := hlt; clear hlt2 hlt' hkk hj hlt hg hk ho hb htk h1ga h2ga h3ga h4ga hcga hyga hwf hst hap; go_wp2_with (go_at_call 11; (with_reducible refine (HAP.out _ (kA wr (.cells #[fk, fn, fs, fr, fe, fp, fq, fo, fd, fa, ft, fh, fc, .float .f64 fx] 39))).mono ?_); rintro e' w5 ⟨rfl, gs2, va2, vp2, hg, ha⟩; have G5 := hD hg; have A5 := hD ha; clear hg ha)
   have KB := hD (kA wr (.cells #[fk, fn, fs, fr, fe, fp, fq, fo, fd, fa, ft, fh, fc, .float .f64 fx] 39)); go_roundw
   case rel => exact ⟨j + 1, gs2, va2, vp2, by have := HLT.out; omega, by have := HKK.out; first | rw [show ((j + 1 : Nat) : Int) = kk + 1 by omega] | rw [show ((j + 1 : Nat) : Int) = kk + 1 by omega, hw1], G5.out, A5.out.kp (kT KR.out KB.out) HOW.out, own_asdQ (HG.out.kp KB.out) (oK OR.out KB.out) (by decide) (by decide) (by decide) (by decide) A5.out, (A5.out.block _ (oZ (rZ KB.out RB.out)) (ow_not (HG.out.kp KB.out) (rZ KB.out RB.out) (by decide) (by decide) (by decide) (by decide))).trans (rZ KB.out RB.out)⟩
   case measure => have := HKK.out; have := HLT.out; simp [intOf]; omega
  ·have hje : ¬ kk < 3 := by omega
   have h3 : j = 3 := by omega
   rw [h3] at hg; have h8 : gs.length ≤ 8 := by rw [hg.len]; exact (alM_ok 3 (by omega)).l8
   have h6 : ∀ a ∈ (alM 3).acts, a.regs.length ≤ 6 := fun a ha => ((alM_ok 3 (by omega)).a a ha).l
   have HF := hD (fun w2 (hk1 : Kp wr w2) => stFind (hg.kp hk1) h8 h6 1 0); obtain ⟨b2, b3⟩ := cells_2S hb; clear hkk hj hlt hk ho hb h3 hg h8 h6; go_wp2_with (go_at_call 22; (with_reducible refine (HF.out _ (Kp.refl wr)).mono ?_); rintro e' w3 ⟨v, rfl, ⟨xa, xb, xk, hv, hx, hO⟩, hk3⟩; rw [alM_find] at hx ⊢; obtain ⟨ya, hy, g1, g2, z1, z2, z4, hre⟩ := alM_act; obtain rfl := Option.some.inj (hy.symm.trans hx); obtain ⟨⟨xn, xs, xo, xd, xx⟩, xp, xc, xr⟩ := ya; dsimp only at hre; subst hre; unfold acV at hv; dsimp only [List.length_cons, List.length_nil] at hv; subst hv; obtain ⟨gr, ck, exb, hck, hgrB, hgrl, hfzr, hcr⟩ := cQ (E := rgE) (n := 1) hO rfl (by omega : 0 < 1); have exb := congrArg (fun v => match v with | Value.slice a _ _ => a | _ => none) exb; dsimp only at exb; subst exb; have c4 : w3.cell? ⟨gr, 4, none⟩ = some (.int .i64 5) := hcr 4 _ (by decide) rfl; have KQ := hD (kT KR.out (kT hk3 (kA w3 (.cells #[xn, xs, xo, xd, .float .f64 xx, xp, xc, .slice (some ⟨gr, 0, none⟩) 1 xk] 65))));  obtain ⟨d0, d1, d2, d3, d4, d5, d6, d7⟩ := c8X (mH w3 (.cells #[xn, xs, xo, xd, .float .f64 xx, xp, xc, .slice (some ⟨gr, 0, none⟩) 1 xk] 65)); have c4 := kZ (kA w3 (.cells #[xn, xs, xo, xd, .float .f64 xx, xp, xc, .slice (some ⟨gr, 0, none⟩) 1 xk] 65)) c4; clear hcr hfzr hck hgrB hgrl hO hx hy hk3)
   go_ret; exact ⟨rfl, KQ.out⟩
end Go.Proofs.YtpemeenfhkgmpaaGreatDoor
