/- Parts of this proof (own work). -/
import Derived.Test.YtpemeenfhkgmpaaGreatDoorZf36
import Derived.Test.YtpemeenfhkgmpaaGreatDoorZf34
set_option maxRecDepth 100000
set_option maxHeartbeats 40000000
namespace Go.Proofs.YtpemeenfhkgmpaaGreatDoor
open Go.RowKit Go.ChangeShapes Go.WideShapes
variable {w0 w w' W w3 : World} {B q : Nat} {m : StM} {gs : List AcG} {va vp : Value}
variable {ads : List Addr}
theorem eq_nilF (w : World) : (binOp .eql 1 .nilFunc .nilFunc).run Tryz.prog w = .ok (.bool true) w := by kernel_rfl
theorem eq_funF (f : FuncId) (caps : Array Value) (w : World) : (binOp .eql 1 (.func (.func f) #[] caps) .nilFunc).run Tryz.prog w = .ok (.bool false) w := by kernel_rfl
def FI (f : FuncId) : Prop := f = 107 ∨ f = 111 ∨ f = 149 ∨ f = 114 ∨ f = 116 ∨ f = 119 ∨ f = 120
theorem lsChange_any (E : EP [0, 3, 4, 8, 13] ads w) (Hs : GS tyL B q m gs va vp w) (ok : OkS m) (fk : Int) (fn fs fr fe fp fq fo fd fa ft fh fc : Int) (fx : Nat) (hR : rightF (⟨fk, fn, fs, fr, fe, fp, fq, fo, fd, fa, ft, fh, fc, fx⟩ : FX) = true) : Calls Tryz.prog 28 #[.pointer (some ⟨q, 0, none⟩), .agg #[fk, fn, fs, fr, fe, fp, fq, fo, fd, fa, ft, fh, fc, fx]] w fun r w' => (doS m (⟨fk, fn, fs, fr, fe, fp, fq, fo, fd, fa, ft, fh, fc, fx⟩ : FX) = none ∧ r = .returned .nilFunc ∧ Kp w w') ∨ (∃ m2, doS m (⟨fk, fn, fs, fr, fe, fp, fq, fo, fd, fa, ft, fh, fc, fx⟩ : FX) = some m2 ∧ ∃ fi caps, FI fi ∧ r = .returned (.func (.func fi) #[] caps) ∧ Kp w w' ∧ Calls Tryz.prog fi caps w' fun r w3 => r = .returned (.tuple #[]) ∧ ∃ gs' va' vp', GS tyL B q m2 gs' va' vp' w3 ∧ Asd (Ow q gs va vp) (Ow q gs' va' vp') w' w3) := by
 have hk := kind_of hR; dsimp only at hk; have k1 := kA w (.cells #[fk, fn, fs, fr, fe, fp, fq, fo, fd, fa, ft, fh, fc, fx] 39); obtain ⟨f0, f1, f2, f3, f4, f5, f6, f7, f8, f9, f10, f11, f12, f13⟩ := cZ (mH w (.cells #[fk, fn, fs, fr, fe, fp, fq, fo, fd, fa, ft, fh, fc, fx] 39)); obtain ⟨W, hW⟩ : ∃ W, w.alloc (.cells #[fk, fn, fs, fr, fe, fp, fq, fo, fd, fa, ft, fh, fc, fx] 39) = W := ⟨_, rfl⟩
 rw [hW] at k1 f0 f1 f2 f3 f4 f5 f6 f7 f8 f9 f10 f11 f12 f13; obtain ⟨K1, HS, HE, HOK, HR⟩ := hD5 k1 Hs E ok hR; have hk : fk = 1 ∨ fk = 2 ∨ fk = 3 ∨ fk = 4 ∨ fk = 5 ∨ fk = 6 ∨ fk = 7 ∨ fk = 8 := by omega
 clear E Hs ok hR k1
 rcases hk with rfl | rfl | rfl | rfl | rfl | rfl | rfl | rfl <;> (
  go_enter Tryz.func28, Tryz.ntmps28; go_wp2_with (first | (go_at_call 65; (with_reducible refine (lsOpened (HE.out.kp K1.out) (HS.out.kp K1.out) HOK.out fn fs fr fe fp fq fo fd fa ft fh fc fx HR.out).mono ?_); rintro e' w2 hd; rcases hd with ⟨hd, rfl, hk⟩ | ⟨m2, hd, caps, rfl, hk, hc⟩) | (go_at_call 66; (with_reducible refine (lsEnrolled (HE.out.kp K1.out) (HS.out.kp K1.out) HOK.out fn fs fr fe fp fq fo fd fa ft fh fc fx HR.out).mono ?_); rintro e' w2 hd; rcases hd with ⟨hd, rfl, hk⟩ | ⟨m2, hd, caps, rfl, hk, hc⟩) | (go_at_call 67; (with_reducible refine (lsSeated (HE.out.kp K1.out) (HS.out.kp K1.out) HOK.out fn fs fr fe fp fq fo fd fa ft fh fc fx HR.out).mono ?_); rintro e' w2 hd; rcases hd with ⟨hd, rfl, hk⟩ | ⟨m2, hd, caps, rfl, hk, hc⟩) | (go_at_call 68; (with_reducible refine (lsDecided (HE.out.kp K1.out) (HS.out.kp K1.out) HOK.out fn fs fr fe fp fq fo fd fa ft fh fc fx HR.out).mono ?_); rintro e' w2 hd; rcases hd with ⟨hd, rfl, hk⟩ | ⟨m2, hd, caps, rfl, hk, hc⟩) | (go_at_call 69; (with_reducible refine (lsForgot (HE.out.kp K1.out) (HS.out.kp K1.out) HOK.out fn fs fr fe fp fq fo fd fa ft fh fc fx HR.out).mono ?_); rintro e' w2 hd; rcases hd with ⟨hd, rfl, hk⟩ | ⟨m2, hd, caps, rfl, hk, hc⟩) | (go_at_call 70; (with_reducible refine (lsJoined (HE.out.kp K1.out) (HS.out.kp K1.out) HOK.out fn fs fr fe fp fq fo fd fa ft fh fc fx HR.out).mono ?_); rintro e' w2 hd; rcases hd with ⟨hd, rfl, hk⟩ | ⟨m2, hd, caps, rfl, hk, hc⟩) | (go_at_call 71; (with_reducible refine (lsPlaced (HE.out.kp K1.out) (HS.out.kp K1.out) HOK.out fn fs fr fe fp fq fo fd fa ft fh fc fx HR.out).mono ?_); rintro e' w2 hd; rcases hd with ⟨hd, rfl, hk⟩ | ⟨m2, hd, caps, rfl, hk, hc⟩) | (go_at_call 72; (with_reducible refine (lsTurned (HE.out.kp K1.out) (HS.out.kp K1.out) HOK.out fn fs fr fe fp fq fo fd fa ft fh fc fx HR.out).mono ?_); rintro e' w2 hd; rcases hd with ⟨hd, rfl, hk⟩ | ⟨m2, hd, caps, rfl, hk, hc⟩))
  ·go_ret; exact .inl ⟨hd, rfl, kT K1.out hk⟩
  ·go_ret; exact .inr ⟨m2, hd, _, caps, by unfold FI; simp, rfl, kT K1.out hk, hc⟩)
theorem lsApply_no (C : FacC ads w) (E : EP [0, 3, 4, 8, 13] ads w) (Hs : GS tyL B q m gs va vp w) (f : FX) (hwf : f.wf) (hR : rightF f = false) : Calls Tryz.prog 11 #[.pointer (some ⟨q, 0, none⟩), .agg f.cells] w fun r w' => r = .returned (errI ads (applyQ m f).1) ∧ ∃ gs' va' vp', GS tyL B q (applyQ m f).2 gs' va' vp' w' ∧ Asd (Ow q gs va vp) (Ow q gs' va' vp') w w' := by
 have hri := fun w1 (hk : Kp w w1) => C.right w1 hk f hwf
 rw [applyQ_bad hR]; rw [hR] at hri; have ce : w.cell? ⟨3, 0, none⟩ = some (errI ads 4) := E.cell 3 (by decide); obtain ⟨er, her⟩ : ∃ x, errI ads 4 = x := ⟨_, rfl⟩
 rw [show ((4, m) : Int × StM).1 = 4 from rfl, her]; rw [her] at ce; obtain ⟨fk, fn, fs, fr, fe, fp, fq, fo, fd, fa, ft, fh, fc, fx⟩ := f; dsimp only [FX.cells] at hri ⊢; obtain ⟨HRI, HS⟩ := hD2 hri Hs; have k1 := kA w (.cells #[fk, fn, fs, fr, fe, fp, fq, fo, fd, fa, ft, fh, fc, fx] 39); obtain ⟨f0, f1, f2, f3, f4, f5, f6, f7, f8, f9, f10, f11, f12, f13⟩ := cZ (mH w (.cells #[fk, fn, fs, fr, fe, fp, fq, fo, fd, fa, ft, fh, fc, fx] 39)); obtain ⟨W, hW⟩ : ∃ W, w.alloc (.cells #[fk, fn, fs, fr, fe, fp, fq, fo, fd, fa, ft, fh, fc, fx] 39) = W := ⟨_, rfl⟩
 rw [hW] at k1 f0 f1 f2 f3 f4 f5 f6 f7 f8 f9 f10 f11 f12 f13; obtain ⟨K1, CE⟩ := hD2 k1 ce; clear C E Hs hwf hR hri k1 ce her; go_enter Tryz.func11, Tryz.ntmps11; go_wp2_with (go_at_call 27; (with_reducible refine (HRI.out _ K1.out).mono ?_); rintro e' w1 ⟨rfl, hk1⟩; have ce := kZ (kT K1.out hk1) CE.out; have K2 := hD (kT K1.out hk1); clear hk1)
 go_ret; exact ⟨rfl, gs, va, vp, HS.out.kp K2.out, Asd.of_kp _ K2.out⟩
theorem lsApply_any (C : FacC ads w) (E : EP [0, 3, 4, 8, 13] ads w) (Hs : GS tyL B q m gs va vp w) (ok : OkS m) (f : FX) (hwf : f.wf) : Calls Tryz.prog 11 #[.pointer (some ⟨q, 0, none⟩), .agg f.cells] w fun r w' => r = .returned (errI ads (applyQ m f).1) ∧ ∃ gs' va' vp', GS tyL B q (applyQ m f).2 gs' va' vp' w' ∧ Asd (Ow q gs va vp) (Ow q gs' va' vp') w w' := by
 cases hR : rightF f with
 | false => exact lsApply_no C E Hs f hwf hR
 | true =>
 have hri := fun w1 (hk : Kp w w1) => C.right w1 hk f hwf
 have hno : doS m f = none → applyQ m f = (9, m) := fun h => aZ hR h
 have hyes : ∀ m2, doS m f = some m2 → applyQ m f = (0, m2) := fun m2 h => aS hR h
 obtain ⟨AQ, hAQ⟩ : ∃ x, applyQ m f = x := ⟨_, rfl⟩
 rw [hAQ] at hno hyes ⊢; rw [hR] at hri; obtain ⟨fk, fn, fs, fr, fe, fp, fq, fo, fd, fa, ft, fh, fc, fx⟩ := f; dsimp only [FX.cells] at hri ⊢; have HRI := hD hri; have ce : w.cell? ⟨8, 0, none⟩ = some (errI ads 9) := E.cell 8 (by decide); have HCH := hD (fun w1 (hk : Kp w w1) => lsChange_any (E.kp hk) (Hs.kp hk) ok fk fn fs fr fe fp fq fo fd fa ft fh fc fx hR); obtain ⟨HNO, HYES⟩ := hD2 hno hyes; have k1 := kA w (.cells #[fk, fn, fs, fr, fe, fp, fq, fo, fd, fa, ft, fh, fc, fx] 39); obtain ⟨f0, f1, f2, f3, f4, f5, f6, f7, f8, f9, f10, f11, f12, f13⟩ := cZ (mH w (.cells #[fk, fn, fs, fr, fe, fp, fq, fo, fd, fa, ft, fh, fc, fx] 39)); obtain ⟨W, hW⟩ : ∃ W, w.alloc (.cells #[fk, fn, fs, fr, fe, fp, fq, fo, fd, fa, ft, fh, fc, fx] 39) = W := ⟨_, rfl⟩
 rw [hW] at k1 f0 f1 f2 f3 f4 f5 f6 f7 f8 f9 f10 f11 f12 f13; obtain ⟨K1, HS⟩ := hD2 k1 Hs; obtain ⟨er, her⟩ : ∃ x, errI ads 9 = x := ⟨_, rfl⟩
 rw [her] at ce; obtain ⟨HER, CE⟩ := hD2 her ce; have hnn := eq_nilF; have hnf := eq_funF; clear C E Hs ok hwf hR hri hAQ hno hyes k1 her ce; go_enter Tryz.func11, Tryz.ntmps11; go_wp2_with (first | (go_at_call 27; (with_reducible refine (HRI.out _ K1.out).mono ?_); rintro e' w1 ⟨rfl, hk1⟩; have K2 := hD (kT K1.out hk1); obtain ⟨f0, f1, f2, f3, f4, f5, f6, f7, f8, f9, f10, f11, f12, f13⟩ := kZ14 hk1 f0 f1 f2 f3 f4 f5 f6 f7 f8 f9 f10 f11 f12 f13; clear hk1) | (go_at_call 28; (with_reducible refine (HCH.out _ K2.out).mono ?_); rintro e' w2 hd; rcases hd with ⟨hd, rfl, hk⟩ | ⟨m2, hd, fi, caps, rfl | rfl | rfl | rfl | rfl | rfl | rfl, rfl, hk, hc⟩ <;> (have K3 := hD (kT K2.out hk); have ce := kZ K3.out CE.out; have HD := hD hd; clear hd hk)))
 ·go_wp2; go_ret; rw [HNO.out HD.out]; exact ⟨congrArg Ending.returned HER.out.symm, gs, va, vp, HS.out.kp K3.out, Asd.of_kp _ K3.out⟩
 all_goals
  have HC := hD hc; clear hc; go_wp2_with (first | (go_at_call 107; (with_reducible refine HC.out.mono ?_); rintro e' w5 ⟨rfl, gs2, va2, vp2, hg, ha⟩; obtain ⟨G5, A5⟩ := hD2 hg ha; clear hg ha) | (go_at_call 111; (with_reducible refine HC.out.mono ?_); rintro e' w5 ⟨rfl, gs2, va2, vp2, hg, ha⟩; obtain ⟨G5, A5⟩ := hD2 hg ha; clear hg ha) | (go_at_call 149; (with_reducible refine HC.out.mono ?_); rintro e' w5 ⟨rfl, gs2, va2, vp2, hg, ha⟩; obtain ⟨G5, A5⟩ := hD2 hg ha; clear hg ha) | (go_at_call 114; (with_reducible refine HC.out.mono ?_); rintro e' w5 ⟨rfl, gs2, va2, vp2, hg, ha⟩; obtain ⟨G5, A5⟩ := hD2 hg ha; clear hg ha) | (go_at_call 116; (with_reducible refine HC.out.mono ?_); rintro e' w5 ⟨rfl, gs2, va2, vp2, hg, ha⟩; obtain ⟨G5, A5⟩ := hD2 hg ha; clear hg ha) | (go_at_call 119; (with_reducible refine HC.out.mono ?_); rintro e' w5 ⟨rfl, gs2, va2, vp2, hg, ha⟩; obtain ⟨G5, A5⟩ := hD2 hg ha; clear hg ha) | (go_at_call 120; (with_reducible refine HC.out.mono ?_); rintro e' w5 ⟨rfl, gs2, va2, vp2, hg, ha⟩; obtain ⟨G5, A5⟩ := hD2 hg ha; clear hg ha))
  go_ret; rw [HYES.out m2 HD.out]; exact ⟨rfl, gs2, va2, vp2, G5.out, (Asd.of_kp _ K3.out).trans A5.out⟩
def SlBC (v : Value) (bss : List (List Int)) (w : World) : Prop :=
 (bss = [] ∧ ∃ a cap, v = .slice a 0 cap ∧ (a = none → cap = 0)) ∨
 ∃ b off cap, 0 < bss.length ∧ v = .slice (some ⟨b, off, none⟩) bss.length cap ∧ ∀ (j : Nat) (h : j < bss.length), ∃ a c, w.cell? ⟨b, off + j, none⟩ = some (.slice a bss[j].length c) ∧ SlB (.slice a bss[j].length c) bss[j] w ∧ InB bss[j] ∧ bss[j].length ≤ c
theorem SlBC.kp {v : Value} {bss : List (List Int)} {w w' : World} (h : SlBC v bss w) (hb : Kp w w') : SlBC v bss w' := by
 rcases h with h | ⟨b, off, cap, h0, h1, h2⟩
 ·exact Or.inl h
 ·refine Or.inr ⟨b, off, cap, h0, h1, fun j hj => ?_⟩
  obtain ⟨a, c, h3, h4, h5⟩ := h2 j hj; exact ⟨a, c, kZ hb h3, h4.kp hb, h5⟩
theorem SlBC.at {a : Option Addr} {n cap : Nat} {bss : List (List Int)} {w : World} (h : SlBC (.slice a n cap) bss w) (j : Nat) (hj : j < bss.length) :
  ∃ b off, a = some ⟨b, off, none⟩ ∧ ∃ a' c, w.cell? ⟨b, off + j, none⟩ = some (.slice a' bss[j].length c) ∧ SlB (.slice a' bss[j].length c) bss[j] w ∧ InB bss[j] ∧ bss[j].length ≤ c := by
 rcases h with ⟨hz, _⟩ | ⟨b, off, cap', _, hv, hcc⟩
 ·rw [hz] at hj; cases hj
 ·injection hv with hv1 _ _
  exact ⟨b, off, hv1, hcc j hj⟩
theorem lsSame {B' q' : Nat} {m' : StM} {gs' : List AcG} {va' vp' : Value} (C : FacC ads w) (H : GS tyL B q m gs va vp w) (ok : OkS m) (H' : GS tyL B' q' m' gs' va' vp' w) (ok' : OkS m') : Calls Tryz.prog 19 #[.pointer (some ⟨q, 0, none⟩), .pointer (some ⟨q', 0, none⟩)] w fun r w' => r = .returned (.bool (decide (m.node = m'.node) && sameL (factsS m) (factsS m'))) ∧ Kp w w' := by
 have hf1 := fun w1 (hk : Kp w w1) => lsFacts (H.kp hk) ok
 have hf2 := fun w1 (hk : Kp w w1) => lsFacts (H'.kp hk) ok'
 have hw1 := factsS_wf ok; have hw2 := factsS_wf ok'; have hle : (factsS m).length ≤ 1000 := by have := factsS_le ok; omega
 have e0 : w.cell? ⟨q, 0, none⟩ = some (.int .i64 m.node) := cU (i := 0) H.row rfl; have e1 : w.cell? ⟨q', 0, none⟩ = some (.int .i64 m'.node) := cU (i := 0) H'.row rfl; obtain ⟨L1, hL1⟩ : ∃ x, factsS m = x := ⟨_, rfl⟩
 obtain ⟨L2, hL2⟩ : ∃ x, factsS m' = x := ⟨_, rfl⟩
 obtain ⟨n1, hn1⟩ : ∃ x, m.node = x := ⟨_, rfl⟩
 obtain ⟨n2, hn2⟩ : ∃ x, m'.node = x := ⟨_, rfl⟩
 rw [hL1] at hf1 hw1 hle ⊢; rw [hL2] at hf2 hw2 ⊢; rw [hn1] at e0 ⊢; rw [hn2] at e1 ⊢; obtain ⟨HF1, HF2, HW1, HW2, HLE, HC⟩ := hD6 hf1 hf2 hw1 hw2 hle C; clear C H ok H' ok' hf1 hf2 hw1 hw2 hle hL1 hL2 hn1 hn2
 by_cases hnn : n1 = n2
 ·have g1 : (n1 == n2) = true := beq_iff_eq.2 hnn; have g2 : decide (n1 = n2) = true := dT hnn; rw [g2, Bool.true_and]; clear hnn; go_enter Tryz.func19, Tryz.ntmps19; go_wp2_with fail
  obtain ⟨WD, hWD⟩ : ∃ x, w.drew = x := ⟨_, rfl⟩
  have kD : Kp w WD := by rw [← hWD]; exact dQ (Kp.refl w)
  have HWD := hD hWD; clear hWD; refine rgW (fun w' => Kp w w') ?_ fun hH => ?_
  ·exact by rw [HWD.out]; exact kD
  rw [HWD.out] at hH ⊢; refine tkP 0 ?_
  go_simp; refine tkP 1 ?_
  go_simp; refine tkP 2 ?_
  go_simp; refine tkP 3 ?_ (y := by intro w hZ; obtain ⟨a0, a1⟩ := kZ2 hZ e0 e1; go_simp; try rfl)
  go_simp; refine tkP 4 ?_
  go_simp; refine tkP 5 ?_
  go_simp; refine tkP 6 ?_
  go_simp; refine tkP 7 ?_ (y := by intro w hZ; obtain ⟨a0, a1⟩ := kZ2 hZ e0 e1; go_simp; try rfl)
  go_simp; refine tkP 8 ?_
  go_simp; refine tkP 9 ?_
  go_simp; refine tkP 10 ?_
  go_simp; refine tkP 12 ?_
  go_simp; refine rdW 11 fun K hK => ?_
  go_simp; go_wp2_with (go_at_call 14; (with_reducible refine (HF1.out _ (show Kp w _ from hH)).mono ?_); rintro e' w3 ⟨v1, rfl, o1, hk3⟩)
  refine hK.out _ _ (kT hH hk3) fun hH => ?_
  clear hK K; refine rdW 13 fun K hK => ?_
  go_simp; go_wp2_with (go_at_call 14; (with_reducible refine (HF2.out _ (show Kp w _ from hH)).mono ?_); rintro e' w4 ⟨v2, rfl, o2, hk4⟩)
  refine hK.out _ _ (kT hH hk4) fun hH => ?_
  clear hK K; refine rdW 14 fun K hK => ?_
  go_simp; go_wp2_with (go_at_call 50; (with_reducible refine (lsEqF (HC.out.kp (show Kp w _ from hH)) L1 L2 HW1.out HW2.out (oK o1 hk4) o2 HLE.out).mono ?_); rintro e' w5 ⟨rfl, hk5⟩)
  refine hK.out _ _ (kT hH hk5) fun hH => ?_
  clear hK K; refine tkP 15 ?_
  go_simp; refine tkP 16 ?_
  go_simp; refine dnW ?_ _
  have KF := hD (show Kp w _ from hH); clear hH; go_wp2; go_ret; exact ⟨rfl, KF.out⟩
 ·have g1 : (n1 == n2) = false := by simpa using hnn
  have g2 : decide (n1 = n2) = false := dF hnn; rw [g2, Bool.false_and]; clear hnn; go_enter Tryz.func19, Tryz.ntmps19; go_wp2_with fail
  obtain ⟨WD, hWD⟩ : ∃ x, w.drew = x := ⟨_, rfl⟩
  have kD : Kp w WD := by rw [← hWD]; exact dQ (Kp.refl w)
  have HWD := hD hWD; clear hWD; refine rgW (fun w' => Kp w w') ?_ fun hH => ?_
  ·exact by rw [HWD.out]; exact kD
  rw [HWD.out] at hH ⊢; refine tkP 0 ?_
  go_simp; refine tkP 1 ?_
  go_simp; refine tkP 2 ?_
  go_simp; refine tkP 3 ?_ (y := by intro w hZ; obtain ⟨a0, a1⟩ := kZ2 hZ e0 e1; go_simp; try rfl)
  go_simp; refine tkP 4 ?_
  go_simp; refine tkP 5 ?_
  go_simp; refine tkP 6 ?_
  go_simp; refine tkP 7 ?_ (y := by intro w hZ; obtain ⟨a0, a1⟩ := kZ2 hZ e0 e1; go_simp; try rfl)
  go_simp; refine tkP 8 ?_
  go_simp; refine tkP 9 ?_
  go_simp; refine skW 10 ?_
  go_simp; refine skW 11 ?_
  go_simp; refine skW 12 ?_
  go_simp; refine skW 13 ?_
  go_simp; refine skW 14 ?_
  go_simp; refine tkP 15 ?_
  go_simp; refine tkP 16 ?_
  go_simp; refine dnW ?_ _
  have KF := hD (show Kp w _ from hH); clear hH; go_wp2; go_ret; exact ⟨rfl, KF.out⟩
def inN (nd : Int) : Prop := 0 ≤ nd ∧ nd ≤ 3
theorem gs_new {nd : Int} (h : w.heap[q]? = some (.cells #[nd, (0:Int), .slice none 0 0, .slice none 0 0] 81)) (hb : B ≤ q) : GS tyL B q (newSt nd) [] (.slice none 0 0) (.slice none 0 0) w where
 row := h
 bq := hb
 acts := rfl
 oa := ⟨by simp [EncG.row], .inl ⟨rfl, rfl⟩⟩
 op := ⟨by simp [EncG.row, newSt], .inl ⟨rfl, rfl⟩⟩
 og := fun g hg => by cases hg
 dis := fun i j g h hi => by simp at hi
theorem lsNew (E : EP [0, 3, 4, 8, 13] ads w) (nd : Int) : Calls Tryz.prog 9 #[.int .i64 nd] w fun r w' => (¬ inN nd ∧ r = .returned (.tuple #[.pointer none, errI ads 1]) ∧ Kp w w') ∨ (inN nd ∧ ∃ q, r = .returned (.tuple #[.pointer (some ⟨q, 0, none⟩), .nilIface]) ∧ GS tyL w.heap.size q (newSt nd) [] (.slice none 0 0) (.slice none 0 0) w' ∧ Kp w w') := by
 have ce : w.cell? ⟨0, 0, none⟩ = some (errI ads 1) := E.cell 0 (by decide); obtain ⟨er, her⟩ : ∃ x, errI ads 1 = x := ⟨_, rfl⟩
 rw [her] at ce; have HER := hD her; clear E her
 by_cases h1 : nd < 0
 ·have HB := hD (show ¬ inN nd by unfold inN; omega); have d1 := dT h1; go_enter Tryz.func9, Tryz.ntmps9; go_wp2_with fail
  obtain ⟨WD, hWD⟩ : ∃ x, w.drew = x := ⟨_, rfl⟩
  have kD : Kp w WD := by rw [← hWD]; exact dQ (Kp.refl w)
  have HWD := hD hWD; clear hWD; refine rgW (fun w' => Kp w w') ?_ fun hH => ?_
  ·exact by rw [HWD.out]; exact kD
  rw [HWD.out] at hH ⊢; refine tkP 0 ?_ (y := by intro w hZ; have a0 := kZ hZ ce; go_simp; try rfl)
  go_simp; refine tkP 1 ?_
  go_simp; refine tkP 2 ?_
  go_simp; refine dnW ?_ _
  have KF := hD (show Kp w _ from hH); clear hH; go_wp2; go_ret2
  exact .inl ⟨HB.out, by rw [HER.out]; rfl, KF.out⟩
 ·have d1 := dF h1
  by_cases h2 : 4 ≤ nd
  ·have HB := hD (show ¬ inN nd by unfold inN; omega); have d2 : decide (nd ≥ 4) = true := dT h2; go_enter Tryz.func9, Tryz.ntmps9; go_wp2_with fail
   obtain ⟨WD, hWD⟩ : ∃ x, w.drew = x := ⟨_, rfl⟩
   have kD : Kp w WD := by rw [← hWD]; exact dQ (Kp.refl w)
   have HWD := hD hWD; clear hWD; refine rgW (fun w' => Kp w w') ?_ fun hH => ?_
   ·exact by rw [HWD.out]; exact kD
   rw [HWD.out] at hH ⊢; refine tkP 0 ?_ (y := by intro w hZ; have a0 := kZ hZ ce; go_simp; try rfl)
   go_simp; refine tkP 1 ?_
   go_simp; refine tkP 2 ?_
   go_simp; refine dnW ?_ _
   have KF := hD (show Kp w _ from hH); clear hH; go_wp2; go_ret2
   exact .inl ⟨HB.out, by rw [HER.out]; rfl, KF.out⟩
  ·have d2 : decide (nd ≥ 4) = false := dF h2; have HB := hD (show inN nd by unfold inN; omega); have rz := (mH w (.cells #[nd, (0:Int), .slice none 0 0, .slice none 0 0] 81))
   have FIN := hD (gs_new (B := w.heap.size) rz (Nat.le_refl _)); clear rz ce; go_enter Tryz.func9, Tryz.ntmps9; go_wp2; go_ret2
   exact .inr ⟨HB.out, _, rfl, FIN.out, kA _ _⟩
def rowsRun : StM → List (List Int) → Option StM
 | m, [] => some m
 | m, b :: l => if (decG b).1 = 0 ∧ (applyQ m (decG b).2).1 = 0 then rowsRun (applyQ m (decG b).2).2 l else none
theorem rowsRun_app : ∀ (A B : List (List Int)) (m : StM), rowsRun m (A ++ B) = (rowsRun m A).bind fun m2 => rowsRun m2 B
 | [], _, _ => rfl
 | b :: A, B, m => by
  have ih := fun m2 => rowsRun_app A B m2
  show (if _ then rowsRun _ (A ++ B) else none) = (if _ then rowsRun _ A else none).bind _
  split
  ·exact ih _
  ·rfl
theorem lsReplay (C : FacC ads w) (E : EP [0, 3, 4, 8, 13] ads w) (nd : Int) (a : Option Addr) (n cap : Nat) (bss : List (List Int)) (hn : bss.length = n) (hl : n ≤ 1000) (h1 : ∀ b ∈ bss, b.length ≤ 1000) (hs : SlBC (.slice a n cap) bss w) : Calls Tryz.prog 18 #[.int .i64 nd, .slice a n cap] w fun r w' => (¬ inN nd ∧ r = .returned (.tuple #[.pointer none, errI ads 1]) ∧ Kp w w') ∨ (inN nd ∧ ((rowsRun (newSt nd) bss = none ∧ r = .returned (.tuple #[.pointer none, errI ads 5]) ∧ Kp w w') ∨ ∃ m, rowsRun (newSt nd) bss = some m ∧ OkS m ∧ ∃ q, r = .returned (.tuple #[.pointer (some ⟨q, 0, none⟩), .nilIface]) ∧ (∃ gs va vp, GS tyL w.heap.size q m gs va vp w') ∧ Kp w w')) := by
 have hnew := fun w1 (hk : Kp w w1) => lsNew (E.kp hk) nd
 have ce : w.cell? ⟨4, 0, none⟩ = some (errI ads 5) := E.cell 4 (by decide); obtain ⟨er, her⟩ : ∃ x, errI ads 5 = x := ⟨_, rfl⟩
 rw [her] at ce; obtain ⟨HER, CE⟩ := hD2 her ce; clear her ce
 by_cases hin : inN nd
 rotate_left
 ·obtain ⟨p1, hp1⟩ := errI_some14 ads 1 (by decide); have hnew := fun w1 (hk : Kp w w1) => (hnew w1 hk).mono (R' := fun r w' => r = .returned (.tuple #[.pointer none, .iface 240 (.pointer p1)]) ∧ Kp w1 w') (by
   rintro e w2 (⟨_, rfl, hk2⟩ | ⟨h, _⟩)
   ·rw [hp1]; exact ⟨rfl, hk2⟩
   ·exact absurd h hin)
  obtain ⟨HNEW, HIN, HP1⟩ := hD3 hnew hin hp1; clear hnew hin hp1 C E hn hl h1 hs; go_enter Tryz.func18, Tryz.ntmps18; go_wp2_with (go_at_call 9; (with_reducible refine (HNEW.out _ (Kp.refl w)).mono ?_); rintro e' w1 ⟨rfl, hk1⟩; have KQ := hD hk1; clear hk1)
  go_ret2
  exact .inl ⟨HIN.out, by rw [HP1.out]; rfl, by first | exact KQ.out | exact dQ KQ.out⟩
 have hnew := fun w1 (hk : Kp w w1) => (hnew w1 hk).mono (R' := fun r w' => ∃ q, r = .returned (.tuple #[.pointer (some ⟨q, 0, none⟩), .nilIface]) ∧ GS tyL w1.heap.size q (newSt nd) [] (.slice none 0 0) (.slice none 0 0) w' ∧ Kp w1 w') (by
  rintro e w2 (⟨h, _⟩ | ⟨_, h⟩)
  ·exact absurd hin h
  ·exact h)
 obtain ⟨HNEW, HIN, HC, HE, HN, HL, H1, HS⟩ := hD8 hnew hin C E hn hl h1 hs; have hsf := sF; have HOK0 := hD (newSt_ok hin); obtain ⟨N, hN⟩ : ∃ N : Int, (n : Int) = N := ⟨_, rfl⟩
 have HNN := hD hN; clear hnew hin C E hn hl h1 hs; go_enter Tryz.func18, Tryz.ntmps18; go_wp2_with (go_at_call 9; (with_reducible refine (HNEW.out _ (Kp.refl w)).mono ?_); rintro e' w1 ⟨q, rfl, hg1, hk1⟩; obtain ⟨G1, K1⟩ := hD2 hg1 hk1; clear hg1 hk1)
 go_loopw [22] (fun i wr => ∃ (j : Nat) (m : StM) (gs : List AcG) (va vp : Value), j ≤ n ∧ i = .int .i64 j ∧ rowsRun (newSt nd) (bss.take j) = some m ∧ OkS m ∧ GS tyL w.heap.size q m gs va vp wr ∧ Kp w wr) (fun i _ => n - (intOf i).toNat)
 case atStart => exact ⟨0, newSt nd, [], _, _, Nat.zero_le _, rfl, rfl, HOK0.out, G1.out, K1.out⟩
 case round =>
  obtain ⟨j, m, gs, va, vp, hj, rfl, hrun, hok, hg, hk⟩ := hrel; obtain ⟨kk, hkk⟩ : ∃ x : Int, (j : Int) = x := ⟨_, rfl⟩
  rw [hkk]; obtain ⟨HKK, KR, HRUN, HOK, HG⟩ := hD5 hkk hk hrun hok hg
  by_cases hlt : j < n
  ·have hjl : kk < N := by have := HNN.out; omega
   have hk0 : 0 ≤ kk := by omega
   have htk : kk.toNat = j := by omega
   have hN8 : N ≤ 1000 := by have := HNN.out; have := HL.out; omega
   have hw1 : wrap64 (kk + 1) = kk + 1 := IntWalk.wrap64_in _ (by omega); have HLT := hD hlt; have hjx : j < bss.length := by have := HN.out; omega
   obtain ⟨bb, bo, rfl, aj, cj, hcell, hslb, hinb, hcap⟩ := (HS.out.kp hk).at j hjx; have hspl : bss = bss.take j ++ bss[j] :: bss.drop (j + 1) := by rw [← List.drop_eq_getElem_cons hjx, List.take_append_drop]
   have hts : bss.take (j + 1) = bss.take j ++ [bss[j]] := by rw [← List.take_succ_eq_append_getElem hjx]
   have hbl : bss[j].length ≤ 1000 := H1.out _ (List.getElem_mem hjx); obtain ⟨DR, hDR⟩ : ∃ x, bss.drop (j + 1) = x := ⟨_, rfl⟩
   rw [hDR] at hspl; obtain ⟨BJ, hBJ⟩ : ∃ x, bss[j] = x := ⟨_, rfl⟩
   rw [hBJ] at hspl hts hbl hcell hslb hinb hcap; obtain ⟨HSPL, HTS⟩ := hD2 hspl hts; obtain ⟨lb, hlb⟩ : ∃ x, BJ.length = x := ⟨_, rfl⟩
   rw [hlb] at hcell hslb hbl hcap; have hdec := HC.out.dec wr hk aj cj BJ lb hlb hbl hinb hcap hslb; obtain ⟨⟨fk, fn, fs, fr, fe, fp, fq, fo, fd, fa, ft, fh, fc, fx⟩, hF⟩ : ∃ f, (decG BJ).2 = f := ⟨_, rfl⟩
   have hwf : FX.wf (⟨fk, fn, fs, fr, fe, fp, fq, fo, fd, fa, ft, fh, fc, fx⟩ : FX) := by rw [← hF]; exact decG_wf
   obtain ⟨cd, hcd⟩ : ∃ c, (decG BJ).1 = c := ⟨_, rfl⟩
   rw [hF, hcd] at hdec; dsimp only [FX.cells] at hdec; rw [← htk] at hcell; have hap := fun w1 (hk1 : Kp wr w1) => lsApply_any (HC.out.kp (kT hk hk1)) (HE.out.kp (kT hk hk1)) (hg.kp hk1) hok (⟨fk, fn, fs, fr, fe, fp, fq, fo, fd, fa, ft, fh, fc, fx⟩ : FX) hwf
   dsimp only [FX.cells] at hap; obtain ⟨AQ, hAQ⟩ : ∃ x, applyQ m (⟨fk, fn, fs, fr, fe, fp, fq, fo, fd, fa, ft, fh, fc, fx⟩ : FX) = x := ⟨_, rfl⟩
   rw [hAQ] at hap; obtain ⟨ac, m2⟩ := AQ; dsimp only at hap; have HAQ := hD (show applyQ m (decG BJ).2 = (ac, m2) by rw [hF]; exact hAQ); have HCD := hD hcd; have HOK2 := hD (show OkS m2 by have := applyQ_ok (f := (⟨fk, fn, fs, fr, fe, fp, fq, fo, fd, fa, ft, fh, fc, fx⟩ : FX)) hok; rw [hAQ] at this; exact this); have hOw : ∀ b, Ow q gs va vp b → w.heap.size ≤ b := fun b hb => (hg.mem b hb).1
   have HOW := hD hOw
   by_cases hc0 : cd = 0
   rotate_left
   ·have HNO := hD (show rowsRun (newSt nd) bss = none by rw [HSPL.out, rowsRun_app, HRUN.out]; show rowsRun m (BJ :: _) = none; unfold rowsRun; rw [if_neg (fun h => hc0 (by rw [← hcd]; exact h.1))]); obtain ⟨pe, hpe⟩ := errI_some14 ads cd hc0; rw [hpe] at hdec; have HDEC := hD hdec; clear hkk hj hlt hk hrun hok hg htk hjx hslb hinb hcap hspl hts hbl hDR hBJ hlb hdec hF hwf hcd hap hAQ hOw hc0 hpe; go_wp2_with (go_at_call 49; (with_reducible refine HDEC.out.mono ?_); rintro e' w3 ⟨rfl, hk3⟩; obtain ⟨u0, u1, u2, u3, u4, u5, u6, u7, u8, u9, u10, u11, u12, u13⟩ := cZ (mH w3 (.cells #[fk, fn, fs, fr, fe, fp, fq, fo, fd, fa, ft, fh, fc, fx] 39)); have K3 := hD (kT hk3 (kA w3 (.cells #[fk, fn, fs, fr, fe, fp, fq, fo, fd, fa, ft, fh, fc, fx] 39))); clear hk3)
    have KQ := hD (kT KR.out K3.out); obtain ⟨WD, hWD⟩ : ∃ x, (w3.alloc (.cells #[fk, fn, fs, fr, fe, fp, fq, fo, fd, fa, ft, fh, fc, fx] 39)).drew = x := ⟨_, rfl⟩
    have kD : Kp w WD := by rw [← hWD]; exact dQ KQ.out
    have HWD := hD hWD; clear hWD; refine rgW (fun w' => Kp w w') ?_ fun hH => ?_
    ·exact by rw [HWD.out]; exact kD
    rw [HWD.out] at hH ⊢; refine tkP 0 ?_ (y := by intro w hZ; have a0 := kZ hZ CE.out; go_simp; try rfl)
    go_simp; refine tkP 1 ?_
    go_simp; refine tkP 2 ?_
    go_simp; refine dnW ?_ _
    have KF := hD (show Kp w _ from hH); clear hH; go_wp2; go_ret2
    exact .inr ⟨HIN.out, .inl ⟨HNO.out, by rw [HER.out]; rfl, KF.out⟩⟩
   subst hc0; rw [eN] at hdec; have HDEC := hD hdec
   by_cases ha0 : ac = 0
   rotate_left
   ·have HNO := hD (show rowsRun (newSt nd) bss = none by rw [HSPL.out, rowsRun_app, HRUN.out]; show rowsRun m (BJ :: _) = none; unfold rowsRun; rw [if_neg (fun h => ha0 (by have h2 := h.2; rw [HAQ.out] at h2; exact h2))]); obtain ⟨pe, hpe⟩ := errI_some14 ads ac ha0; rw [hpe] at hap; have HAP := hD hap; clear hkk hj hlt hk hrun hok hg htk hjx hslb hinb hcap hspl hts hbl hDR hBJ hlb hdec hF hwf hcd hap hAQ hOw ha0 hpe; go_wp2_with (first | (go_at_call 49; (with_reducible refine HDEC.out.mono ?_); rintro e' w3 ⟨rfl, hk3⟩; obtain ⟨u0, u1, u2, u3, u4, u5, u6, u7, u8, u9, u10, u11, u12, u13⟩ := cZ (mH w3 (.cells #[fk, fn, fs, fr, fe, fp, fq, fo, fd, fa, ft, fh, fc, fx] 39)); have K3 := hD (kT hk3 (kA w3 (.cells #[fk, fn, fs, fr, fe, fp, fq, fo, fd, fa, ft, fh, fc, fx] 39))); clear hk3) | (go_at_call 11; (with_reducible refine (HAP.out _ K3.out).mono ?_); rintro e' w5 ⟨rfl, gs2, va2, vp2, hg, ha⟩; obtain ⟨G5, A5⟩ := hD2 hg ha; clear hg ha))
    have KQ := hD (A5.out.kp (kT KR.out K3.out) HOW.out); obtain ⟨WD, hWD⟩ : ∃ x, (w5).drew = x := ⟨_, rfl⟩
    have kD : Kp w WD := by rw [← hWD]; exact dQ KQ.out
    have HWD := hD hWD; clear hWD; refine rgW (fun w' => Kp w w') ?_ fun hH => ?_
    ·exact by rw [HWD.out]; exact kD
    rw [HWD.out] at hH ⊢; refine tkP 0 ?_ (y := by intro w hZ; have a0 := kZ hZ CE.out; go_simp; try rfl)
    go_simp; refine tkP 1 ?_
    go_simp; refine tkP 2 ?_
    go_simp; refine dnW ?_ _
    have KF := hD (show Kp w _ from hH); clear hH; go_wp2; go_ret2
    exact .inr ⟨HIN.out, .inl ⟨HNO.out, by rw [HER.out]; rfl, KF.out⟩⟩
   subst ha0; rw [eN] at hap; have HAP := hD hap; clear hkk hj hlt hk hrun hok hg htk hjx hslb hinb hcap hspl hts hbl hDR hBJ hlb hdec hF hwf hcd hap hAQ hOw; go_wp2_with (first | (go_at_call 49; (with_reducible refine HDEC.out.mono ?_); rintro e' w3 ⟨rfl, hk3⟩; obtain ⟨u0, u1, u2, u3, u4, u5, u6, u7, u8, u9, u10, u11, u12, u13⟩ := cZ (mH w3 (.cells #[fk, fn, fs, fr, fe, fp, fq, fo, fd, fa, ft, fh, fc, fx] 39)); have K3 := hD (kT hk3 (kA w3 (.cells #[fk, fn, fs, fr, fe, fp, fq, fo, fd, fa, ft, fh, fc, fx] 39))); clear hk3) | (go_at_call 11; (with_reducible refine (HAP.out _ K3.out).mono ?_); rintro e' w5 ⟨rfl, gs2, va2, vp2, hg, ha⟩; obtain ⟨G5, A5⟩ := hD2 hg ha; clear hg ha))
   go_roundw
   case rel => exact ⟨j + 1, m2, gs2, va2, vp2, by have := HLT.out; omega, by have := HKK.out; first | rw [show ((j + 1 : Nat) : Int) = kk + 1 by omega] | rw [show ((j + 1 : Nat) : Int) = kk + 1 by omega, hw1], by
    rw [HTS.out, rowsRun_app, HRUN.out]
    show rowsRun m [BJ] = some m2
    unfold rowsRun; rw [if_pos ⟨HCD.out, by rw [HAQ.out]⟩, HAQ.out]
    rfl, HOK2.out, G5.out, A5.out.kp (kT KR.out K3.out) HOW.out⟩
   case measure => have := HKK.out; have := HLT.out; simp [intOf]; omega
  ·have hje : ¬ kk < N := by have := HNN.out; omega
   have hfin : bss.take j = bss := by rw [show j = n by omega, ← HN.out, List.take_length]
   rw [hfin] at hrun; have HRUN := hD hrun; clear hkk hj hlt hk hrun hok hg hfin; go_wp2; go_ret2
   exact .inr ⟨HIN.out, .inr ⟨m, HRUN.out, HOK.out, q, rfl, ⟨gs, va, vp, HG.out⟩, KR.out⟩⟩
end Go.Proofs.YtpemeenfhkgmpaaGreatDoor
