/- Parts of this proof (own work). -/
import Derived.Test.YtlmlmhmhgdjhnaaGreatDoorZa26
import Derived.Test.YtlmlmhmhgdjhnaaGreatDoorZa24
set_option maxRecDepth 100000
set_option maxHeartbeats 40000000
namespace Go.Proofs.YtlmlmhmhgdjhnaaGreatDoor
open Go.RowKit Go.ChangeShapes Go.WideShapes
variable {w0 w w' W w3 : World} {B q : Nat} {m : StM} {gs : List AcG} {va vp : Value}
variable {ads : List Addr}
theorem eq_nilF (w : World) : (binOp .eql 1 .nilFunc .nilFunc).run Tryz.prog w = .ok (.bool true) w := by kernel_rfl
theorem eq_funF (f : FuncId) (caps : Array Value) (w : World) : (binOp .eql 1 (.func (.func f) #[] caps) .nilFunc).run Tryz.prog w = .ok (.bool false) w := by kernel_rfl
def FI (f : FuncId) : Prop := f = 181 ∨ f = 184 ∨ f = 207 ∨ f = 187 ∨ f = 189 ∨ f = 192 ∨ f = 193
theorem lsChange_any (E : EP [0, 3, 4, 8, 13] ads w) (Hs : GS tyL B q m gs va vp w) (ok : OkS m) (fk : Int) (fn fs fr fe fp fq fo fd fa ft fh fc : Int) (fx : Nat) (hR : rightF (⟨fk, fn, fs, fr, fe, fp, fq, fo, fd, fa, ft, fh, fc, fx⟩ : FX) = true) : Calls Tryz.prog 86 #[.pointer (some ⟨q, 0, none⟩), .agg #[fk, fn, fs, fr, fe, fp, fq, fo, fd, fa, ft, fh, fc, fx]] w fun r w' => (doS m (⟨fk, fn, fs, fr, fe, fp, fq, fo, fd, fa, ft, fh, fc, fx⟩ : FX) = none ∧ r = .returned .nilFunc ∧ Kp w w') ∨ (∃ m2, doS m (⟨fk, fn, fs, fr, fe, fp, fq, fo, fd, fa, ft, fh, fc, fx⟩ : FX) = some m2 ∧ ∃ fi caps, FI fi ∧ r = .returned (.func (.func fi) #[] caps) ∧ Kp w w' ∧ Calls Tryz.prog fi caps w' fun r w3 => r = .returned (.tuple #[]) ∧ ∃ gs' va' vp', GS tyL B q m2 gs' va' vp' w3 ∧ Asd (Ow q gs va vp) (Ow q gs' va' vp') w' w3) := by
 have hk := kind_of hR; dsimp only at hk; have k1 := kA w (.cells #[fk, fn, fs, fr, fe, fp, fq, fo, fd, fa, ft, fh, fc, fx] 87); obtain ⟨f0, f1, f2, f3, f4, f5, f6, f7, f8, f9, f10, f11, f12, f13⟩ := cZ (mH w (.cells #[fk, fn, fs, fr, fe, fp, fq, fo, fd, fa, ft, fh, fc, fx] 87)); obtain ⟨W, hW⟩ : ∃ W, w.alloc (.cells #[fk, fn, fs, fr, fe, fp, fq, fo, fd, fa, ft, fh, fc, fx] 87) = W := ⟨_, rfl⟩
 rw [hW] at k1 f0 f1 f2 f3 f4 f5 f6 f7 f8 f9 f10 f11 f12 f13; obtain ⟨K1, HS, HE, HOK, HR⟩ := hD5 k1 Hs E ok hR; have hk : fk = 1 ∨ fk = 2 ∨ fk = 3 ∨ fk = 4 ∨ fk = 5 ∨ fk = 6 ∨ fk = 7 ∨ fk = 8 := by omega
 clear E Hs ok hR k1
 rcases hk with rfl | rfl | rfl | rfl | rfl | rfl | rfl | rfl <;> (
  go_enter Tryz.func86, Tryz.ntmps86; go_wp2_with (first | (go_at_call 144; (with_reducible refine (lsOpened (HE.out.kp K1.out) (HS.out.kp K1.out) HOK.out fn fs fr fe fp fq fo fd fa ft fh fc fx HR.out).mono ?_); rintro e' w2 hd; rcases hd with ⟨hd, rfl, hk⟩ | ⟨m2, hd, caps, rfl, hk, hc⟩) | (go_at_call 145; (with_reducible refine (lsEnrolled (HE.out.kp K1.out) (HS.out.kp K1.out) HOK.out fn fs fr fe fp fq fo fd fa ft fh fc fx HR.out).mono ?_); rintro e' w2 hd; rcases hd with ⟨hd, rfl, hk⟩ | ⟨m2, hd, caps, rfl, hk, hc⟩) | (go_at_call 146; (with_reducible refine (lsSeated (HE.out.kp K1.out) (HS.out.kp K1.out) HOK.out fn fs fr fe fp fq fo fd fa ft fh fc fx HR.out).mono ?_); rintro e' w2 hd; rcases hd with ⟨hd, rfl, hk⟩ | ⟨m2, hd, caps, rfl, hk, hc⟩) | (go_at_call 147; (with_reducible refine (lsDecided (HE.out.kp K1.out) (HS.out.kp K1.out) HOK.out fn fs fr fe fp fq fo fd fa ft fh fc fx HR.out).mono ?_); rintro e' w2 hd; rcases hd with ⟨hd, rfl, hk⟩ | ⟨m2, hd, caps, rfl, hk, hc⟩) | (go_at_call 148; (with_reducible refine (lsForgot (HE.out.kp K1.out) (HS.out.kp K1.out) HOK.out fn fs fr fe fp fq fo fd fa ft fh fc fx HR.out).mono ?_); rintro e' w2 hd; rcases hd with ⟨hd, rfl, hk⟩ | ⟨m2, hd, caps, rfl, hk, hc⟩) | (go_at_call 149; (with_reducible refine (lsJoined (HE.out.kp K1.out) (HS.out.kp K1.out) HOK.out fn fs fr fe fp fq fo fd fa ft fh fc fx HR.out).mono ?_); rintro e' w2 hd; rcases hd with ⟨hd, rfl, hk⟩ | ⟨m2, hd, caps, rfl, hk, hc⟩) | (go_at_call 150; (with_reducible refine (lsPlaced (HE.out.kp K1.out) (HS.out.kp K1.out) HOK.out fn fs fr fe fp fq fo fd fa ft fh fc fx HR.out).mono ?_); rintro e' w2 hd; rcases hd with ⟨hd, rfl, hk⟩ | ⟨m2, hd, caps, rfl, hk, hc⟩) | (go_at_call 151; (with_reducible refine (lsTurned (HE.out.kp K1.out) (HS.out.kp K1.out) HOK.out fn fs fr fe fp fq fo fd fa ft fh fc fx HR.out).mono ?_); rintro e' w2 hd; rcases hd with ⟨hd, rfl, hk⟩ | ⟨m2, hd, caps, rfl, hk, hc⟩))
  ·go_ret; exact .inl ⟨hd, rfl, kT K1.out hk⟩
  ·go_ret; exact .inr ⟨m2, hd, _, caps, by unfold FI; simp, rfl, kT K1.out hk, hc⟩)
theorem lsApply_no (C : FacC ads w) (E : EP [0, 3, 4, 8, 13] ads w) (Hs : GS tyL B q m gs va vp w) (f : FX) (hwf : f.wf) (hR : rightF f = false) : Calls Tryz.prog 34 #[.pointer (some ⟨q, 0, none⟩), .agg f.cells] w fun r w' => r = .returned (errI ads (applyQ m f).1) ∧ ∃ gs' va' vp', GS tyL B q (applyQ m f).2 gs' va' vp' w' ∧ Asd (Ow q gs va vp) (Ow q gs' va' vp') w w' := by
 have hri := fun w1 (hk : Kp w w1) => C.right w1 hk f hwf
 rw [applyQ_bad hR]; rw [hR] at hri; have ce : w.cell? ⟨3, 0, none⟩ = some (errI ads 4) := E.cell 3 (by decide); obtain ⟨er, her⟩ : ∃ x, errI ads 4 = x := ⟨_, rfl⟩
 rw [show ((4, m) : Int × StM).1 = 4 from rfl, her]; rw [her] at ce; obtain ⟨fk, fn, fs, fr, fe, fp, fq, fo, fd, fa, ft, fh, fc, fx⟩ := f; dsimp only [FX.cells] at hri ⊢; obtain ⟨HRI, HS⟩ := hD2 hri Hs; have k1 := kA w (.cells #[fk, fn, fs, fr, fe, fp, fq, fo, fd, fa, ft, fh, fc, fx] 87); obtain ⟨f0, f1, f2, f3, f4, f5, f6, f7, f8, f9, f10, f11, f12, f13⟩ := cZ (mH w (.cells #[fk, fn, fs, fr, fe, fp, fq, fo, fd, fa, ft, fh, fc, fx] 87)); obtain ⟨W, hW⟩ : ∃ W, w.alloc (.cells #[fk, fn, fs, fr, fe, fp, fq, fo, fd, fa, ft, fh, fc, fx] 87) = W := ⟨_, rfl⟩
 rw [hW] at k1 f0 f1 f2 f3 f4 f5 f6 f7 f8 f9 f10 f11 f12 f13; obtain ⟨K1, CE⟩ := hD2 k1 ce; clear C E Hs hwf hR hri k1 ce her; go_enter Tryz.func34, Tryz.ntmps34; go_wp2_with (go_at_call 85; (with_reducible refine (HRI.out _ K1.out).mono ?_); rintro e' w1 ⟨rfl, hk1⟩; have ce := kZ (kT K1.out hk1) CE.out; have K2 := hD (kT K1.out hk1); clear hk1)
 go_ret; exact ⟨rfl, gs, va, vp, HS.out.kp K2.out, Asd.of_kp _ K2.out⟩
theorem lsApply_any (C : FacC ads w) (E : EP [0, 3, 4, 8, 13] ads w) (Hs : GS tyL B q m gs va vp w) (ok : OkS m) (f : FX) (hwf : f.wf) : Calls Tryz.prog 34 #[.pointer (some ⟨q, 0, none⟩), .agg f.cells] w fun r w' => r = .returned (errI ads (applyQ m f).1) ∧ ∃ gs' va' vp', GS tyL B q (applyQ m f).2 gs' va' vp' w' ∧ Asd (Ow q gs va vp) (Ow q gs' va' vp') w w' := by
 cases hR : rightF f with
 | false => exact lsApply_no C E Hs f hwf hR
 | true =>
 have hri := fun w1 (hk : Kp w w1) => C.right w1 hk f hwf
 have hno : doS m f = none → applyQ m f = (9, m) := fun h => aZ hR h
 have hyes : ∀ m2, doS m f = some m2 → applyQ m f = (0, m2) := fun m2 h => aS hR h
 obtain ⟨AQ, hAQ⟩ : ∃ x, applyQ m f = x := ⟨_, rfl⟩
 rw [hAQ] at hno hyes ⊢; rw [hR] at hri; obtain ⟨fk, fn, fs, fr, fe, fp, fq, fo, fd, fa, ft, fh, fc, fx⟩ := f; dsimp only [FX.cells] at hri ⊢; have HRI := hD hri; have ce : w.cell? ⟨8, 0, none⟩ = some (errI ads 9) := E.cell 8 (by decide); have HCH := hD (fun w1 (hk : Kp w w1) => lsChange_any (E.kp hk) (Hs.kp hk) ok fk fn fs fr fe fp fq fo fd fa ft fh fc fx hR); obtain ⟨HNO, HYES⟩ := hD2 hno hyes; have k1 := kA w (.cells #[fk, fn, fs, fr, fe, fp, fq, fo, fd, fa, ft, fh, fc, fx] 87); obtain ⟨f0, f1, f2, f3, f4, f5, f6, f7, f8, f9, f10, f11, f12, f13⟩ := cZ (mH w (.cells #[fk, fn, fs, fr, fe, fp, fq, fo, fd, fa, ft, fh, fc, fx] 87)); obtain ⟨W, hW⟩ : ∃ W, w.alloc (.cells #[fk, fn, fs, fr, fe, fp, fq, fo, fd, fa, ft, fh, fc, fx] 87) = W := ⟨_, rfl⟩
 rw [hW] at k1 f0 f1 f2 f3 f4 f5 f6 f7 f8 f9 f10 f11 f12 f13; obtain ⟨K1, HS⟩ := hD2 k1 Hs; obtain ⟨er, her⟩ : ∃ x, errI ads 9 = x := ⟨_, rfl⟩
 rw [her] at ce; obtain ⟨HER, CE⟩ := hD2 her ce; have hnn := eq_nilF; have hnf := eq_funF; clear C E Hs ok hwf hR hri hAQ hno hyes k1 her ce; go_enter Tryz.func34, Tryz.ntmps34; go_wp2_with (first | (go_at_call 85; (with_reducible refine (HRI.out _ K1.out).mono ?_); rintro e' w1 ⟨rfl, hk1⟩; have K2 := hD (kT K1.out hk1); obtain ⟨f0, f1, f2, f3, f4, f5, f6, f7, f8, f9, f10, f11, f12, f13⟩ := kZ14 hk1 f0 f1 f2 f3 f4 f5 f6 f7 f8 f9 f10 f11 f12 f13; clear hk1) | (go_at_call 86; (with_reducible refine (HCH.out _ K2.out).mono ?_); rintro e' w2 hd; rcases hd with ⟨hd, rfl, hk⟩ | ⟨m2, hd, fi, caps, rfl | rfl | rfl | rfl | rfl | rfl | rfl, rfl, hk, hc⟩ <;> (have K3 := hD (kT K2.out hk); have ce := kZ K3.out CE.out; have HD := hD hd; clear hd hk)))
 ·go_wp2; go_ret; rw [HNO.out HD.out]; exact ⟨congrArg Ending.returned HER.out.symm, gs, va, vp, HS.out.kp K3.out, Asd.of_kp _ K3.out⟩
 all_goals
  have HC := hD hc; clear hc; go_wp2_with (first | (go_at_call 181; (with_reducible refine HC.out.mono ?_); rintro e' w5 ⟨rfl, gs2, va2, vp2, hg, ha⟩; obtain ⟨G5, A5⟩ := hD2 hg ha; clear hg ha) | (go_at_call 184; (with_reducible refine HC.out.mono ?_); rintro e' w5 ⟨rfl, gs2, va2, vp2, hg, ha⟩; obtain ⟨G5, A5⟩ := hD2 hg ha; clear hg ha) | (go_at_call 207; (with_reducible refine HC.out.mono ?_); rintro e' w5 ⟨rfl, gs2, va2, vp2, hg, ha⟩; obtain ⟨G5, A5⟩ := hD2 hg ha; clear hg ha) | (go_at_call 187; (with_reducible refine HC.out.mono ?_); rintro e' w5 ⟨rfl, gs2, va2, vp2, hg, ha⟩; obtain ⟨G5, A5⟩ := hD2 hg ha; clear hg ha) | (go_at_call 189; (with_reducible refine HC.out.mono ?_); rintro e' w5 ⟨rfl, gs2, va2, vp2, hg, ha⟩; obtain ⟨G5, A5⟩ := hD2 hg ha; clear hg ha) | (go_at_call 192; (with_reducible refine HC.out.mono ?_); rintro e' w5 ⟨rfl, gs2, va2, vp2, hg, ha⟩; obtain ⟨G5, A5⟩ := hD2 hg ha; clear hg ha) | (go_at_call 193; (with_reducible refine HC.out.mono ?_); rintro e' w5 ⟨rfl, gs2, va2, vp2, hg, ha⟩; obtain ⟨G5, A5⟩ := hD2 hg ha; clear hg ha))
  go_ret; rw [HYES.out m2 HD.out]; exact ⟨rfl, gs2, va2, vp2, G5.out, (Asd.of_kp _ K3.out).trans A5.out⟩
def inN (nd : Int) : Prop := 0 ≤ nd ∧ nd ≤ 3
theorem gs_new {nd : Int} (h : w.heap[q]? = some (.cells #[nd, (0:Int), .slice none 0 0, .slice none 0 0] 166)) (hb : B ≤ q) : GS tyL B q (newSt nd) [] (.slice none 0 0) (.slice none 0 0) w where
 row := h
 bq := hb
 acts := rfl
 oa := ⟨by simp [EncG.row], .inl ⟨rfl, rfl⟩⟩
 op := ⟨by simp [EncG.row, newSt], .inl ⟨rfl, rfl⟩⟩
 og := fun g hg => by cases hg
 dis := fun i j g h hi => by simp at hi
theorem lsNew (E : EP [0, 3, 4, 8, 13] ads w) (nd : Int) : Calls Tryz.prog 33 #[.int .i64 nd] w fun r w' => (¬ inN nd ∧ r = .returned (.tuple #[.pointer none, errI ads 1]) ∧ Kp w w') ∨ (inN nd ∧ ∃ q, r = .returned (.tuple #[.pointer (some ⟨q, 0, none⟩), .nilIface]) ∧ GS tyL w.heap.size q (newSt nd) [] (.slice none 0 0) (.slice none 0 0) w' ∧ Kp w w') := by
 have ce : w.cell? ⟨0, 0, none⟩ = some (errI ads 1) := E.cell 0 (by decide); obtain ⟨er, her⟩ : ∃ x, errI ads 1 = x := ⟨_, rfl⟩
 rw [her] at ce; have HER := hD her; clear E her
 by_cases h1 : nd < 0
 ·have HB := hD (show ¬ inN nd by unfold inN; omega); have d1 := dT h1; go_enter Tryz.func33, Tryz.ntmps33; go_wp2_with fail
  obtain ⟨WD, hWD⟩ : ∃ x, w.drew = x := ⟨_, rfl⟩
  have kD : Kp w WD := by rw [← hWD]; exact dQ (Kp.refl w)
  have HWD := hD hWD; clear hWD; refine rgW (fun w' => Kp w w') ?_ fun hH => ?_
  ·exact by rw [HWD.out]; exact kD
  rw [HWD.out] at hH ⊢; refine tkP 0 ?_ (y := by intro w hZ; have a0 := kZ hZ ce; go_simp; try rfl)
  go_simp; refine tkP 1 ?_
  go_simp; refine tkP 2 ?_
  go_simp; refine dnW ?_ _
  have KF := hD (show Kp w _ from hH); clear hH; go_wp2; go_ret2
  exact .inl ⟨HB.out, by rw [HER.out]; rfl, KF.out⟩
 ·have d1 := dF h1
  by_cases h2 : 4 ≤ nd
  ·have HB := hD (show ¬ inN nd by unfold inN; omega); have d2 : decide (nd ≥ 4) = true := dT h2; go_enter Tryz.func33, Tryz.ntmps33; go_wp2_with fail
   obtain ⟨WD, hWD⟩ : ∃ x, w.drew = x := ⟨_, rfl⟩
   have kD : Kp w WD := by rw [← hWD]; exact dQ (Kp.refl w)
   have HWD := hD hWD; clear hWD; refine rgW (fun w' => Kp w w') ?_ fun hH => ?_
   ·exact by rw [HWD.out]; exact kD
   rw [HWD.out] at hH ⊢; refine tkP 0 ?_ (y := by intro w hZ; have a0 := kZ hZ ce; go_simp; try rfl)
   go_simp; refine tkP 1 ?_
   go_simp; refine tkP 2 ?_
   go_simp; refine dnW ?_ _
   have KF := hD (show Kp w _ from hH); clear hH; go_wp2; go_ret2
   exact .inl ⟨HB.out, by rw [HER.out]; rfl, KF.out⟩
  ·have d2 : decide (nd ≥ 4) = false := dF h2; have HB := hD (show inN nd by unfold inN; omega); have rz := (mH w (.cells #[nd, (0:Int), .slice none 0 0, .slice none 0 0] 166))
   have FIN := hD (gs_new (B := w.heap.size) rz (Nat.le_refl _)); clear rz ce; go_enter Tryz.func33, Tryz.ntmps33; go_wp2; go_ret2
   exact .inr ⟨HB.out, _, rfl, FIN.out, kA _ _⟩
theorem ow_not {T : TyQ} {B q b : Nat} {m : StM} {gs : List AcG} {va vp : Value} {w : World} {cs : Array Value} {t : TypeId} (h : GS T B q m gs va vp w) (r : w.heap[b]? = some (.cells cs t (0, 0))) (h1 : t ≠ T.st) (h2 : t ≠ T.ac) (h3 : t ≠ T.pt) (h4 : t ≠ T.rg) : ¬ Ow q gs va vp b := by
 rintro (hb | hb | hb | ⟨g, hg, hb⟩)
 ·exact row_neQ r h.row h1 hb
 ·exact nQ h.oa r h2 hb.symm
 ·exact nQ h.op r h3 hb.symm
 ·exact nQ (h.og g hg) r h4 hb.symm
def RuL (B : Nat) (v : Value) (rs : List RuM) (w : World) : Prop :=
 ∃ (b : Nat) (vs : List Value), v = .slice (some ⟨b, 0, none⟩) rs.length rs.length ∧ b ≠ B ∧ vs.length = rs.length ∧ (∃ t fr, w.heap[b]? = some (.cells vs.toArray t fr)) ∧ ∀ (j : Nat) (u : Value) (r : RuM), vs[j]? = some u → rs[j]? = some r → RuV B w u r
theorem RuL.xb {B : Nat} {v : Value} {rs : List RuM} {w w' : World} (h : RuL B v rs w) (hk : Xb B w w') : RuL B v rs w' := by
 obtain ⟨b, vs, h1, h2, h3, ⟨t, fr, h4⟩, h5⟩ := h; exact ⟨b, vs, h1, h2, h3, ⟨t, fr, hk.row h2 h4⟩, fun j u r hu hr => (h5 j u r hu hr).xb hk⟩
theorem rules_1 (B : Nat) (w : World) (hB : B < w.heap.size) : Calls Tryz.prog 142 #[.int .i64 1] w fun e w' => ∃ v, e = .returned v ∧ RuL B v (rulesM 1) w' ∧ Kp w w' := by
 have HS0 := hD hB; clear hB; go_enter Tryz.func142, Tryz.ntmps142; go_wp2_with (first
  | (go_at_call 176; (with_reducible refine (rA 4 4 0 5 rfl (by omega) B _ HS0.out).mono ?_); rintro e w1 ⟨v1, rfl, hv1, hk1⟩; obtain ⟨p1, q1, r1, rfl, hn1⟩ := hv1; obtain ⟨HV1, HK1⟩ := hD2 hn1 hk1; have HS1 := hD (Nat.lt_of_lt_of_le HS0.out hk1.size); clear hn1 hk1)
  | (go_at_call 176; (with_reducible refine (rA 6 6 0 7 rfl (by omega) B _ HS1.out).mono ?_); rintro e w2 ⟨v2, rfl, hv2, hk2⟩; obtain ⟨p2, q2, r2, rfl, hn2⟩ := hv2; obtain ⟨HV2, HK2⟩ := hD2 hn2 hk2; have HS2 := hD (Nat.lt_of_lt_of_le HS1.out hk2.size); clear hn2 hk2)
  | (go_at_call 176; (with_reducible refine (rA 7 7 1 2 rfl (by omega) B _ HS2.out).mono ?_); rintro e w3 ⟨v3, rfl, hv3, hk3⟩; obtain ⟨p3, q3, r3, rfl, hn3⟩ := hv3; obtain ⟨HV3, HK3⟩ := hD2 hn3 hk3; have HS3 := hD (Nat.lt_of_lt_of_le HS2.out hk3.size); clear hn3 hk3)
  | (go_at_call 176; (with_reducible refine (rA 10 10 0 8 rfl (by omega) B _ HS3.out).mono ?_); rintro e w4 ⟨v4, rfl, hv4, hk4⟩; obtain ⟨p4, q4, r4, rfl, hn4⟩ := hv4; obtain ⟨HV4, HK4⟩ := hD2 hn4 hk4; have HS4 := hD (Nat.lt_of_lt_of_le HS3.out hk4.size); clear hn4 hk4))
 go_ret; have KA := kA w4 (.cells #[.func (.func 177) #[] #[], .func (.func 203) #[] #[.pointer (some ⟨p4, 0, none⟩), .pointer (some ⟨q4, 0, none⟩), .pointer (some ⟨r4, 0, none⟩)]] 213); have hs := HS4.out; refine ⟨_, rfl, ⟨w4.heap.size, [.func (.func 177) #[] #[], .func (.func 203) #[] #[.pointer (some ⟨p4, 0, none⟩), .pointer (some ⟨q4, 0, none⟩), .pointer (some ⟨r4, 0, none⟩)]], rfl, by omega, rfl, ⟨_, _, (mH w4 _)⟩, ?_⟩, kT (kT (kT (kT (HK1.out) HK2.out) HK3.out) HK4.out) KA⟩
 intro j u r hu hr
 match j, u, r, hu, hr with
 | 0, u, r, hu, hr =>
  obtain rfl : .func (.func 177) #[] #[] = u := by simpa using hu
  obtain rfl : .ctx = r := by simpa [rulesM] using hr
  exact rfl
 | 1, u, r, hu, hr =>
  obtain rfl : .func (.func 203) #[] #[.pointer (some ⟨p4, 0, none⟩), .pointer (some ⟨q4, 0, none⟩), .pointer (some ⟨r4, 0, none⟩)] = u := by simpa using hu
  obtain rfl : (.rg 10 0 8) = r := by simpa [rulesM] using hr
  exact RuV.xb (show RuV B w4 _ (.rg _ _ _) from ⟨p4, q4, r4, rfl, HV4.out⟩) (Xb.of_kp (KA))
 | j + 2, u, r, hu, hr => simp at hu
theorem rules_2 (B : Nat) (w : World) (hB : B < w.heap.size) : Calls Tryz.prog 142 #[.int .i64 2] w fun e w' => ∃ v, e = .returned v ∧ RuL B v (rulesM 2) w' ∧ Kp w w' := by
 have HS0 := hD hB; clear hB; go_enter Tryz.func142, Tryz.ntmps142; go_wp2_with (first
  | (go_at_call 176; (with_reducible refine (rA 4 4 0 5 rfl (by omega) B _ HS0.out).mono ?_); rintro e w1 ⟨v1, rfl, hv1, hk1⟩; obtain ⟨p1, q1, r1, rfl, hn1⟩ := hv1; obtain ⟨HV1, HK1⟩ := hD2 hn1 hk1; have HS1 := hD (Nat.lt_of_lt_of_le HS0.out hk1.size); clear hn1 hk1)
  | (go_at_call 176; (with_reducible refine (rA 6 6 0 7 rfl (by omega) B _ HS1.out).mono ?_); rintro e w2 ⟨v2, rfl, hv2, hk2⟩; obtain ⟨p2, q2, r2, rfl, hn2⟩ := hv2; obtain ⟨HV2, HK2⟩ := hD2 hn2 hk2; have HS2 := hD (Nat.lt_of_lt_of_le HS1.out hk2.size); clear hn2 hk2)
  | (go_at_call 176; (with_reducible refine (rA 7 7 1 2 rfl (by omega) B _ HS2.out).mono ?_); rintro e w3 ⟨v3, rfl, hv3, hk3⟩; obtain ⟨p3, q3, r3, rfl, hn3⟩ := hv3; obtain ⟨HV3, HK3⟩ := hD2 hn3 hk3; have HS3 := hD (Nat.lt_of_lt_of_le HS2.out hk3.size); clear hn3 hk3)
  | (go_at_call 176; (with_reducible refine (rA 5 5 0 3 rfl (by omega) B _ HS3.out).mono ?_); rintro e w4 ⟨v4, rfl, hv4, hk4⟩; obtain ⟨p4, q4, r4, rfl, hn4⟩ := hv4; obtain ⟨HV4, HK4⟩ := hD2 hn4 hk4; have HS4 := hD (Nat.lt_of_lt_of_le HS3.out hk4.size); clear hn4 hk4))
 go_ret; have KA := kA w4 (.cells #[.func (.func 178) #[] #[], .func (.func 203) #[] #[.pointer (some ⟨p1, 0, none⟩), .pointer (some ⟨q1, 0, none⟩), .pointer (some ⟨r1, 0, none⟩)], .func (.func 203) #[] #[.pointer (some ⟨p4, 0, none⟩), .pointer (some ⟨q4, 0, none⟩), .pointer (some ⟨r4, 0, none⟩)], .func (.func 203) #[] #[.pointer (some ⟨p2, 0, none⟩), .pointer (some ⟨q2, 0, none⟩), .pointer (some ⟨r2, 0, none⟩)], .func (.func 203) #[] #[.pointer (some ⟨p3, 0, none⟩), .pointer (some ⟨q3, 0, none⟩), .pointer (some ⟨r3, 0, none⟩)]] 213); have hs := HS4.out; refine ⟨_, rfl, ⟨w4.heap.size, [.func (.func 178) #[] #[], .func (.func 203) #[] #[.pointer (some ⟨p1, 0, none⟩), .pointer (some ⟨q1, 0, none⟩), .pointer (some ⟨r1, 0, none⟩)], .func (.func 203) #[] #[.pointer (some ⟨p4, 0, none⟩), .pointer (some ⟨q4, 0, none⟩), .pointer (some ⟨r4, 0, none⟩)], .func (.func 203) #[] #[.pointer (some ⟨p2, 0, none⟩), .pointer (some ⟨q2, 0, none⟩), .pointer (some ⟨r2, 0, none⟩)], .func (.func 203) #[] #[.pointer (some ⟨p3, 0, none⟩), .pointer (some ⟨q3, 0, none⟩), .pointer (some ⟨r3, 0, none⟩)]], rfl, by omega, rfl, ⟨_, _, (mH w4 _)⟩, ?_⟩, kT (kT (kT (kT (HK1.out) HK2.out) HK3.out) HK4.out) KA⟩
 intro j u r hu hr
 match j, u, r, hu, hr with
 | 0, u, r, hu, hr =>
  obtain rfl : .func (.func 178) #[] #[] = u := by simpa using hu
  obtain rfl : .act = r := by simpa [rulesM] using hr
  exact rfl
 | 1, u, r, hu, hr =>
  obtain rfl : .func (.func 203) #[] #[.pointer (some ⟨p1, 0, none⟩), .pointer (some ⟨q1, 0, none⟩), .pointer (some ⟨r1, 0, none⟩)] = u := by simpa using hu
  obtain rfl : (.rg 4 0 5) = r := by simpa [rulesM] using hr
  exact RuV.xb (show RuV B w1 _ (.rg _ _ _) from ⟨p1, q1, r1, rfl, HV1.out⟩) (Xb.of_kp (kT (kT (kT (HK2.out) (HK3.out)) (HK4.out)) (KA)))
 | 2, u, r, hu, hr =>
  obtain rfl : .func (.func 203) #[] #[.pointer (some ⟨p4, 0, none⟩), .pointer (some ⟨q4, 0, none⟩), .pointer (some ⟨r4, 0, none⟩)] = u := by simpa using hu
  obtain rfl : (.rg 5 0 3) = r := by simpa [rulesM] using hr
  exact RuV.xb (show RuV B w4 _ (.rg _ _ _) from ⟨p4, q4, r4, rfl, HV4.out⟩) (Xb.of_kp (KA))
 | 3, u, r, hu, hr =>
  obtain rfl : .func (.func 203) #[] #[.pointer (some ⟨p2, 0, none⟩), .pointer (some ⟨q2, 0, none⟩), .pointer (some ⟨r2, 0, none⟩)] = u := by simpa using hu
  obtain rfl : (.rg 6 0 7) = r := by simpa [rulesM] using hr
  exact RuV.xb (show RuV B w2 _ (.rg _ _ _) from ⟨p2, q2, r2, rfl, HV2.out⟩) (Xb.of_kp (kT (kT (HK3.out) (HK4.out)) (KA)))
 | 4, u, r, hu, hr =>
  obtain rfl : .func (.func 203) #[] #[.pointer (some ⟨p3, 0, none⟩), .pointer (some ⟨q3, 0, none⟩), .pointer (some ⟨r3, 0, none⟩)] = u := by simpa using hu
  obtain rfl : (.rg 7 1 2) = r := by simpa [rulesM] using hr
  exact RuV.xb (show RuV B w3 _ (.rg _ _ _) from ⟨p3, q3, r3, rfl, HV3.out⟩) (Xb.of_kp (kT (HK4.out) (KA)))
 | j + 5, u, r, hu, hr => simp at hu
theorem rules_3 (B : Nat) (w : World) (hB : B < w.heap.size) : Calls Tryz.prog 142 #[.int .i64 3] w fun e w' => ∃ v, e = .returned v ∧ RuL B v (rulesM 3) w' ∧ Kp w w' := by
 have HS0 := hD hB; clear hB; go_enter Tryz.func142, Tryz.ntmps142; go_wp2_with (first
  | (go_at_call 176; (with_reducible refine (rA 4 4 0 5 rfl (by omega) B _ HS0.out).mono ?_); rintro e w1 ⟨v1, rfl, hv1, hk1⟩; obtain ⟨p1, q1, r1, rfl, hn1⟩ := hv1; obtain ⟨HV1, HK1⟩ := hD2 hn1 hk1; have HS1 := hD (Nat.lt_of_lt_of_le HS0.out hk1.size); clear hn1 hk1)
  | (go_at_call 176; (with_reducible refine (rA 6 6 0 7 rfl (by omega) B _ HS1.out).mono ?_); rintro e w2 ⟨v2, rfl, hv2, hk2⟩; obtain ⟨p2, q2, r2, rfl, hn2⟩ := hv2; obtain ⟨HV2, HK2⟩ := hD2 hn2 hk2; have HS2 := hD (Nat.lt_of_lt_of_le HS1.out hk2.size); clear hn2 hk2)
  | (go_at_call 176; (with_reducible refine (rA 7 7 1 2 rfl (by omega) B _ HS2.out).mono ?_); rintro e w3 ⟨v3, rfl, hv3, hk3⟩; obtain ⟨p3, q3, r3, rfl, hn3⟩ := hv3; obtain ⟨HV3, HK3⟩ := hD2 hn3 hk3; have HS3 := hD (Nat.lt_of_lt_of_le HS2.out hk3.size); clear hn3 hk3))
 go_ret; have KA := kA w3 (.cells #[.func (.func 178) #[] #[], .func (.func 203) #[] #[.pointer (some ⟨p1, 0, none⟩), .pointer (some ⟨q1, 0, none⟩), .pointer (some ⟨r1, 0, none⟩)], .func (.func 179) #[] #[]] 213); have hs := HS3.out; refine ⟨_, rfl, ⟨w3.heap.size, [.func (.func 178) #[] #[], .func (.func 203) #[] #[.pointer (some ⟨p1, 0, none⟩), .pointer (some ⟨q1, 0, none⟩), .pointer (some ⟨r1, 0, none⟩)], .func (.func 179) #[] #[]], rfl, by omega, rfl, ⟨_, _, (mH w3 _)⟩, ?_⟩, kT (kT (kT (HK1.out) HK2.out) HK3.out) KA⟩
 intro j u r hu hr
 match j, u, r, hu, hr with
 | 0, u, r, hu, hr =>
  obtain rfl : .func (.func 178) #[] #[] = u := by simpa using hu
  obtain rfl : .act = r := by simpa [rulesM] using hr
  exact rfl
 | 1, u, r, hu, hr =>
  obtain rfl : .func (.func 203) #[] #[.pointer (some ⟨p1, 0, none⟩), .pointer (some ⟨q1, 0, none⟩), .pointer (some ⟨r1, 0, none⟩)] = u := by simpa using hu
  obtain rfl : (.rg 4 0 5) = r := by simpa [rulesM] using hr
  exact RuV.xb (show RuV B w1 _ (.rg _ _ _) from ⟨p1, q1, r1, rfl, HV1.out⟩) (Xb.of_kp (kT (kT (HK2.out) (HK3.out)) (KA)))
 | 2, u, r, hu, hr =>
  obtain rfl : .func (.func 179) #[] #[] = u := by simpa using hu
  obtain rfl : .seat = r := by simpa [rulesM] using hr
  exact rfl
 | j + 3, u, r, hu, hr => simp at hu
theorem rules_4 (B : Nat) (w : World) (hB : B < w.heap.size) : Calls Tryz.prog 142 #[.int .i64 4] w fun e w' => ∃ v, e = .returned v ∧ RuL B v (rulesM 4) w' ∧ Kp w w' := by
 have HS0 := hD hB; clear hB; go_enter Tryz.func142, Tryz.ntmps142; go_wp2_with (first
  | (go_at_call 176; (with_reducible refine (rA 4 4 0 5 rfl (by omega) B _ HS0.out).mono ?_); rintro e w1 ⟨v1, rfl, hv1, hk1⟩; obtain ⟨p1, q1, r1, rfl, hn1⟩ := hv1; obtain ⟨HV1, HK1⟩ := hD2 hn1 hk1; have HS1 := hD (Nat.lt_of_lt_of_le HS0.out hk1.size); clear hn1 hk1)
  | (go_at_call 176; (with_reducible refine (rA 6 6 0 7 rfl (by omega) B _ HS1.out).mono ?_); rintro e w2 ⟨v2, rfl, hv2, hk2⟩; obtain ⟨p2, q2, r2, rfl, hn2⟩ := hv2; obtain ⟨HV2, HK2⟩ := hD2 hn2 hk2; have HS2 := hD (Nat.lt_of_lt_of_le HS1.out hk2.size); clear hn2 hk2)
  | (go_at_call 176; (with_reducible refine (rA 7 7 1 2 rfl (by omega) B _ HS2.out).mono ?_); rintro e w3 ⟨v3, rfl, hv3, hk3⟩; obtain ⟨p3, q3, r3, rfl, hn3⟩ := hv3; obtain ⟨HV3, HK3⟩ := hD2 hn3 hk3; have HS3 := hD (Nat.lt_of_lt_of_le HS2.out hk3.size); clear hn3 hk3)
  | (go_at_call 176; (with_reducible refine (rA 13 13 1 2 rfl (by omega) B _ HS3.out).mono ?_); rintro e w4 ⟨v4, rfl, hv4, hk4⟩; obtain ⟨p4, q4, r4, rfl, hn4⟩ := hv4; obtain ⟨HV4, HK4⟩ := hD2 hn4 hk4; have HS4 := hD (Nat.lt_of_lt_of_le HS3.out hk4.size); clear hn4 hk4))
 go_ret; have KA := kA w4 (.cells #[.func (.func 178) #[] #[], .func (.func 203) #[] #[.pointer (some ⟨p4, 0, none⟩), .pointer (some ⟨q4, 0, none⟩), .pointer (some ⟨r4, 0, none⟩)]] 213); have hs := HS4.out; refine ⟨_, rfl, ⟨w4.heap.size, [.func (.func 178) #[] #[], .func (.func 203) #[] #[.pointer (some ⟨p4, 0, none⟩), .pointer (some ⟨q4, 0, none⟩), .pointer (some ⟨r4, 0, none⟩)]], rfl, by omega, rfl, ⟨_, _, (mH w4 _)⟩, ?_⟩, kT (kT (kT (kT (HK1.out) HK2.out) HK3.out) HK4.out) KA⟩
 intro j u r hu hr
 match j, u, r, hu, hr with
 | 0, u, r, hu, hr =>
  obtain rfl : .func (.func 178) #[] #[] = u := by simpa using hu
  obtain rfl : .act = r := by simpa [rulesM] using hr
  exact rfl
 | 1, u, r, hu, hr =>
  obtain rfl : .func (.func 203) #[] #[.pointer (some ⟨p4, 0, none⟩), .pointer (some ⟨q4, 0, none⟩), .pointer (some ⟨r4, 0, none⟩)] = u := by simpa using hu
  obtain rfl : (.rg 13 1 2) = r := by simpa [rulesM] using hr
  exact RuV.xb (show RuV B w4 _ (.rg _ _ _) from ⟨p4, q4, r4, rfl, HV4.out⟩) (Xb.of_kp (KA))
 | j + 2, u, r, hu, hr => simp at hu
theorem rules_5 (B : Nat) (w : World) (hB : B < w.heap.size) : Calls Tryz.prog 142 #[.int .i64 5] w fun e w' => ∃ v, e = .returned v ∧ RuL B v (rulesM 5) w' ∧ Kp w w' := by
 have HS0 := hD hB; clear hB; go_enter Tryz.func142, Tryz.ntmps142; go_wp2_with (first
  | (go_at_call 176; (with_reducible refine (rA 4 4 0 5 rfl (by omega) B _ HS0.out).mono ?_); rintro e w1 ⟨v1, rfl, hv1, hk1⟩; obtain ⟨p1, q1, r1, rfl, hn1⟩ := hv1; obtain ⟨HV1, HK1⟩ := hD2 hn1 hk1; have HS1 := hD (Nat.lt_of_lt_of_le HS0.out hk1.size); clear hn1 hk1)
  | (go_at_call 176; (with_reducible refine (rA 6 6 0 7 rfl (by omega) B _ HS1.out).mono ?_); rintro e w2 ⟨v2, rfl, hv2, hk2⟩; obtain ⟨p2, q2, r2, rfl, hn2⟩ := hv2; obtain ⟨HV2, HK2⟩ := hD2 hn2 hk2; have HS2 := hD (Nat.lt_of_lt_of_le HS1.out hk2.size); clear hn2 hk2)
  | (go_at_call 176; (with_reducible refine (rA 7 7 1 2 rfl (by omega) B _ HS2.out).mono ?_); rintro e w3 ⟨v3, rfl, hv3, hk3⟩; obtain ⟨p3, q3, r3, rfl, hn3⟩ := hv3; obtain ⟨HV3, HK3⟩ := hD2 hn3 hk3; have HS3 := hD (Nat.lt_of_lt_of_le HS2.out hk3.size); clear hn3 hk3))
 go_ret; have KA := kA w3 (.cells #[.func (.func 178) #[] #[]] 213); have hs := HS3.out; refine ⟨_, rfl, ⟨w3.heap.size, [.func (.func 178) #[] #[]], rfl, by omega, rfl, ⟨_, _, (mH w3 _)⟩, ?_⟩, kT (kT (kT (HK1.out) HK2.out) HK3.out) KA⟩
 intro j u r hu hr
 match j, u, r, hu, hr with
 | 0, u, r, hu, hr =>
  obtain rfl : .func (.func 178) #[] #[] = u := by simpa using hu
  obtain rfl : .act = r := by simpa [rulesM] using hr
  exact rfl
 | j + 1, u, r, hu, hr => simp at hu
theorem rules_6 (B : Nat) (w : World) (hB : B < w.heap.size) : Calls Tryz.prog 142 #[.int .i64 6] w fun e w' => ∃ v, e = .returned v ∧ RuL B v (rulesM 6) w' ∧ Kp w w' := by
 have HS0 := hD hB; clear hB; go_enter Tryz.func142, Tryz.ntmps142; go_wp2_with (first
  | (go_at_call 176; (with_reducible refine (rA 4 4 0 5 rfl (by omega) B _ HS0.out).mono ?_); rintro e w1 ⟨v1, rfl, hv1, hk1⟩; obtain ⟨p1, q1, r1, rfl, hn1⟩ := hv1; obtain ⟨HV1, HK1⟩ := hD2 hn1 hk1; have HS1 := hD (Nat.lt_of_lt_of_le HS0.out hk1.size); clear hn1 hk1)
  | (go_at_call 176; (with_reducible refine (rA 6 6 0 7 rfl (by omega) B _ HS1.out).mono ?_); rintro e w2 ⟨v2, rfl, hv2, hk2⟩; obtain ⟨p2, q2, r2, rfl, hn2⟩ := hv2; obtain ⟨HV2, HK2⟩ := hD2 hn2 hk2; have HS2 := hD (Nat.lt_of_lt_of_le HS1.out hk2.size); clear hn2 hk2)
  | (go_at_call 176; (with_reducible refine (rA 7 7 1 2 rfl (by omega) B _ HS2.out).mono ?_); rintro e w3 ⟨v3, rfl, hv3, hk3⟩; obtain ⟨p3, q3, r3, rfl, hn3⟩ := hv3; obtain ⟨HV3, HK3⟩ := hD2 hn3 hk3; have HS3 := hD (Nat.lt_of_lt_of_le HS2.out hk3.size); clear hn3 hk3))
 go_ret; have KA := kA w3 (.cells #[.func (.func 203) #[] #[.pointer (some ⟨p2, 0, none⟩), .pointer (some ⟨q2, 0, none⟩), .pointer (some ⟨r2, 0, none⟩)], .func (.func 178) #[] #[], .func (.func 203) #[] #[.pointer (some ⟨p3, 0, none⟩), .pointer (some ⟨q3, 0, none⟩), .pointer (some ⟨r3, 0, none⟩)]] 213); have hs := HS3.out; refine ⟨_, rfl, ⟨w3.heap.size, [.func (.func 203) #[] #[.pointer (some ⟨p2, 0, none⟩), .pointer (some ⟨q2, 0, none⟩), .pointer (some ⟨r2, 0, none⟩)], .func (.func 178) #[] #[], .func (.func 203) #[] #[.pointer (some ⟨p3, 0, none⟩), .pointer (some ⟨q3, 0, none⟩), .pointer (some ⟨r3, 0, none⟩)]], rfl, by omega, rfl, ⟨_, _, (mH w3 _)⟩, ?_⟩, kT (kT (kT (HK1.out) HK2.out) HK3.out) KA⟩
 intro j u r hu hr
 match j, u, r, hu, hr with
 | 0, u, r, hu, hr =>
  obtain rfl : .func (.func 203) #[] #[.pointer (some ⟨p2, 0, none⟩), .pointer (some ⟨q2, 0, none⟩), .pointer (some ⟨r2, 0, none⟩)] = u := by simpa using hu
  obtain rfl : (.rg 6 0 7) = r := by simpa [rulesM] using hr
  exact RuV.xb (show RuV B w2 _ (.rg _ _ _) from ⟨p2, q2, r2, rfl, HV2.out⟩) (Xb.of_kp (kT (HK3.out) (KA)))
 | 1, u, r, hu, hr =>
  obtain rfl : .func (.func 178) #[] #[] = u := by simpa using hu
  obtain rfl : .act = r := by simpa [rulesM] using hr
  exact rfl
 | 2, u, r, hu, hr =>
  obtain rfl : .func (.func 203) #[] #[.pointer (some ⟨p3, 0, none⟩), .pointer (some ⟨q3, 0, none⟩), .pointer (some ⟨r3, 0, none⟩)] = u := by simpa using hu
  obtain rfl : (.rg 7 1 2) = r := by simpa [rulesM] using hr
  exact RuV.xb (show RuV B w3 _ (.rg _ _ _) from ⟨p3, q3, r3, rfl, HV3.out⟩) (Xb.of_kp (KA))
 | j + 3, u, r, hu, hr => simp at hu
theorem rules_7 (B : Nat) (w : World) (hB : B < w.heap.size) : Calls Tryz.prog 142 #[.int .i64 7] w fun e w' => ∃ v, e = .returned v ∧ RuL B v (rulesM 7) w' ∧ Kp w w' := by
 have HS0 := hD hB; clear hB; go_enter Tryz.func142, Tryz.ntmps142; go_wp2_with (first
  | (go_at_call 176; (with_reducible refine (rA 4 4 0 5 rfl (by omega) B _ HS0.out).mono ?_); rintro e w1 ⟨v1, rfl, hv1, hk1⟩; obtain ⟨p1, q1, r1, rfl, hn1⟩ := hv1; obtain ⟨HV1, HK1⟩ := hD2 hn1 hk1; have HS1 := hD (Nat.lt_of_lt_of_le HS0.out hk1.size); clear hn1 hk1)
  | (go_at_call 176; (with_reducible refine (rA 6 6 0 7 rfl (by omega) B _ HS1.out).mono ?_); rintro e w2 ⟨v2, rfl, hv2, hk2⟩; obtain ⟨p2, q2, r2, rfl, hn2⟩ := hv2; obtain ⟨HV2, HK2⟩ := hD2 hn2 hk2; have HS2 := hD (Nat.lt_of_lt_of_le HS1.out hk2.size); clear hn2 hk2)
  | (go_at_call 176; (with_reducible refine (rA 7 7 1 2 rfl (by omega) B _ HS2.out).mono ?_); rintro e w3 ⟨v3, rfl, hv3, hk3⟩; obtain ⟨p3, q3, r3, rfl, hn3⟩ := hv3; obtain ⟨HV3, HK3⟩ := hD2 hn3 hk3; have HS3 := hD (Nat.lt_of_lt_of_le HS2.out hk3.size); clear hn3 hk3))
 go_ret; have KA := kA w3 (.cells #[.func (.func 203) #[] #[.pointer (some ⟨p2, 0, none⟩), .pointer (some ⟨q2, 0, none⟩), .pointer (some ⟨r2, 0, none⟩)], .func (.func 203) #[] #[.pointer (some ⟨p1, 0, none⟩), .pointer (some ⟨q1, 0, none⟩), .pointer (some ⟨r1, 0, none⟩)]] 213); have hs := HS3.out; refine ⟨_, rfl, ⟨w3.heap.size, [.func (.func 203) #[] #[.pointer (some ⟨p2, 0, none⟩), .pointer (some ⟨q2, 0, none⟩), .pointer (some ⟨r2, 0, none⟩)], .func (.func 203) #[] #[.pointer (some ⟨p1, 0, none⟩), .pointer (some ⟨q1, 0, none⟩), .pointer (some ⟨r1, 0, none⟩)]], rfl, by omega, rfl, ⟨_, _, (mH w3 _)⟩, ?_⟩, kT (kT (kT (HK1.out) HK2.out) HK3.out) KA⟩
 intro j u r hu hr
 match j, u, r, hu, hr with
 | 0, u, r, hu, hr =>
  obtain rfl : .func (.func 203) #[] #[.pointer (some ⟨p2, 0, none⟩), .pointer (some ⟨q2, 0, none⟩), .pointer (some ⟨r2, 0, none⟩)] = u := by simpa using hu
  obtain rfl : (.rg 6 0 7) = r := by simpa [rulesM] using hr
  exact RuV.xb (show RuV B w2 _ (.rg _ _ _) from ⟨p2, q2, r2, rfl, HV2.out⟩) (Xb.of_kp (kT (HK3.out) (KA)))
 | 1, u, r, hu, hr =>
  obtain rfl : .func (.func 203) #[] #[.pointer (some ⟨p1, 0, none⟩), .pointer (some ⟨q1, 0, none⟩), .pointer (some ⟨r1, 0, none⟩)] = u := by simpa using hu
  obtain rfl : (.rg 4 0 5) = r := by simpa [rulesM] using hr
  exact RuV.xb (show RuV B w1 _ (.rg _ _ _) from ⟨p1, q1, r1, rfl, HV1.out⟩) (Xb.of_kp (kT (kT (HK2.out) (HK3.out)) (KA)))
 | j + 2, u, r, hu, hr => simp at hu
theorem rules_8 (B : Nat) (w : World) (hB : B < w.heap.size) : Calls Tryz.prog 142 #[.int .i64 8] w fun e w' => ∃ v, e = .returned v ∧ RuL B v (rulesM 8) w' ∧ Kp w w' := by
 have HS0 := hD hB; clear hB; go_enter Tryz.func142, Tryz.ntmps142; go_wp2_with (first
  | (go_at_call 176; (with_reducible refine (rA 4 4 0 5 rfl (by omega) B _ HS0.out).mono ?_); rintro e w1 ⟨v1, rfl, hv1, hk1⟩; obtain ⟨p1, q1, r1, rfl, hn1⟩ := hv1; obtain ⟨HV1, HK1⟩ := hD2 hn1 hk1; have HS1 := hD (Nat.lt_of_lt_of_le HS0.out hk1.size); clear hn1 hk1)
  | (go_at_call 176; (with_reducible refine (rA 6 6 0 7 rfl (by omega) B _ HS1.out).mono ?_); rintro e w2 ⟨v2, rfl, hv2, hk2⟩; obtain ⟨p2, q2, r2, rfl, hn2⟩ := hv2; obtain ⟨HV2, HK2⟩ := hD2 hn2 hk2; have HS2 := hD (Nat.lt_of_lt_of_le HS1.out hk2.size); clear hn2 hk2)
  | (go_at_call 176; (with_reducible refine (rA 7 7 1 2 rfl (by omega) B _ HS2.out).mono ?_); rintro e w3 ⟨v3, rfl, hv3, hk3⟩; obtain ⟨p3, q3, r3, rfl, hn3⟩ := hv3; obtain ⟨HV3, HK3⟩ := hD2 hn3 hk3; have HS3 := hD (Nat.lt_of_lt_of_le HS2.out hk3.size); clear hn3 hk3))
 go_ret; have KA := kA w3 (.cells #[.func (.func 203) #[] #[.pointer (some ⟨p2, 0, none⟩), .pointer (some ⟨q2, 0, none⟩), .pointer (some ⟨r2, 0, none⟩)], .func (.func 179) #[] #[]] 213); have hs := HS3.out; refine ⟨_, rfl, ⟨w3.heap.size, [.func (.func 203) #[] #[.pointer (some ⟨p2, 0, none⟩), .pointer (some ⟨q2, 0, none⟩), .pointer (some ⟨r2, 0, none⟩)], .func (.func 179) #[] #[]], rfl, by omega, rfl, ⟨_, _, (mH w3 _)⟩, ?_⟩, kT (kT (kT (HK1.out) HK2.out) HK3.out) KA⟩
 intro j u r hu hr
 match j, u, r, hu, hr with
 | 0, u, r, hu, hr =>
  obtain rfl : .func (.func 203) #[] #[.pointer (some ⟨p2, 0, none⟩), .pointer (some ⟨q2, 0, none⟩), .pointer (some ⟨r2, 0, none⟩)] = u := by simpa using hu
  obtain rfl : (.rg 6 0 7) = r := by simpa [rulesM] using hr
  exact RuV.xb (show RuV B w2 _ (.rg _ _ _) from ⟨p2, q2, r2, rfl, HV2.out⟩) (Xb.of_kp (kT (HK3.out) (KA)))
 | 1, u, r, hu, hr =>
  obtain rfl : .func (.func 179) #[] #[] = u := by simpa using hu
  obtain rfl : .seat = r := by simpa [rulesM] using hr
  exact rfl
 | j + 2, u, r, hu, hr => simp at hu
theorem fct_fields : Tryz.prog.underlying 87 = some (.struct (Tryz.prog.fieldsOf 87)) := by
 unfold Program.fieldsOf; rw [Tryz.underlying87]
def feqF (x y : Nat) : Bool := FloatKind.f64.format.order x y == some .eq
theorem feqF_00 : feqF 0 0 = true := by decide
theorem run_equalIn_f64 (d : Nat) (t : TypeId) (x y : Nat) (w : World) (h : Tryz.prog.underlying t = some (.float .f64)) : (Op.equalIn (d + 1) t (.float .f64 x) (.float .f64 y)).run Tryz.prog w = .ok (feqF x y) w := by
 simp [Op.equalIn, run_underlying h, go_sem, feqF, Op.floatEq]
theorem fct_eq (a b : FX) (w : World) : (Op.equalIn 10000 87 (.agg a.cells) (.agg b.cells)).run Tryz.prog w = .ok (decide (a.nums = b.nums) && feqF a.x b.x) w := by
 obtain ⟨k, n, s, r, u, p, q, o, d, a, t, hh, c, x⟩ := a; obtain ⟨k', n', s', r', u', p', q', o', d', a', t', hh', c', x'⟩ := b; have hm : Tryz.prog.stoodInHeld 87 = false := by kernel_rfl
 have ha : Tryz.prog.stoodInHeld 25 = false := by kernel_rfl
 have hq := run_equalIn_f64 9998 23 x x' w Tryz.underlying23; obtain ⟨fq, hfq⟩ : ∃ y, feqF x x' = y := ⟨_, rfl⟩
 rw [hfq] at hq; dsimp only [FX.cells, FX.nums]; rw [hfq]; rw [show (10000 : Nat) = 9998 + 1 + 1 from rfl, run_equalIn_agg w (9998 + 1) 87 _ _ fct_fields hm]
 simp [Program.fieldsOf, Tryz.underlying87, Tryz.underlying25, Op.eqFields, part, go_sem]
 by_cases h0 : k = k'
 rotate_left
 ·simp [h0]
 subst h0
 by_cases h1 : n = n'
 rotate_left
 ·simp [h1]
 subst h1
 by_cases h2 : s = s'
 rotate_left
 ·simp [h2]
 subst h2
 by_cases h3 : r = r'
 rotate_left
 ·simp [h3]
 subst h3
 by_cases h4 : u = u'
 rotate_left
 ·simp [h4]
 subst h4
 by_cases h5 : p = p'
 rotate_left
 ·simp [h5]
 subst h5
 by_cases h6 : q = q'
 rotate_left
 ·simp [h6]
 subst h6
 by_cases h7 : o = o'
 rotate_left
 ·simp [h7]
 subst h7
 by_cases h8 : d = d'
 rotate_left
 ·simp [h8]
 subst h8
 by_cases h9 : a = a'
 rotate_left
 ·simp [h9]
 subst h9
 by_cases h10 : t = t'
 rotate_left
 ·simp [h10]
 subst h10
 by_cases h11 : hh = hh'
 rotate_left
 ·simp [h11]
 subst h11
 by_cases h12 : c = c'
 rotate_left
 ·simp [h12]
 subst h12
 simp [hq]
 cases fq <;> rfl
theorem fct_eql (a b : FX) (w : World) : (binOp .eql 87 (.agg a.cells) (.agg b.cells)).run Tryz.prog w = .ok (.bool (decide (a.nums = b.nums) && feqF a.x b.x)) w := by
 rw [run_eql_struct, fct_eq]; rfl
theorem fct_guard (op : BinOp) (x y : Operand) (a b : FX) (w : World) : (eqGuard op 87 x y (.agg a.cells) (.agg b.cells)).run Tryz.prog w = .ok () w := run_eqGuard_agg w op 87 x y _ _ (by kernel_rfl)
end Go.Proofs.YtlmlmhmhgdjhnaaGreatDoor
