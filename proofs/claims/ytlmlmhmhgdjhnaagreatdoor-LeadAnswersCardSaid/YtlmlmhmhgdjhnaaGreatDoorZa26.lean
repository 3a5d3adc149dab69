/- Parts of this proof (own work). -/
import Derived.Test.YtlmlmhmhgdjhnaaGreatDoorZa25
set_option maxRecDepth 100000
set_option maxHeartbeats 40000000
namespace Go.Proofs.YtlmlmhmhgdjhnaaGreatDoor
open Go.RowKit Go.ChangeShapes Go.WideShapes
variable {w0 w w' W w3 : World} {B q : Nat} {m : StM} {gs : List AcG} {va vp : Value}
variable {ads : List Addr}
theorem lsDecided (E : EP [0, 3, 4, 8, 13] ads w) (Hs : GS tyL B q m gs va vp w) (ok : OkS m) (fn fs fr fe fp fq fo fd fa ft fh fc : Int) (fx : Nat) (hR : rightF (⟨4, fn, fs, fr, fe, fp, fq, fo, fd, fa, ft, fh, fc, fx⟩ : FX) = true) : Calls Tryz.prog 147 #[.pointer (some ⟨q, 0, none⟩), .agg #[(4:Int), fn, fs, fr, fe, fp, fq, fo, fd, fa, ft, fh, fc, fx]] w fun r w' => (doS m (⟨4, fn, fs, fr, fe, fp, fq, fo, fd, fa, ft, fh, fc, fx⟩ : FX) = none ∧ r = .returned .nilFunc ∧ Kp w w') ∨ (∃ m2, doS m (⟨4, fn, fs, fr, fe, fp, fq, fo, fd, fa, ft, fh, fc, fx⟩ : FX) = some m2 ∧ ∃ caps, r = .returned (.func (.func 187) #[] caps) ∧ Kp w w' ∧ Calls Tryz.prog 187 caps w' fun r w3 => r = .returned (.tuple #[]) ∧ ∃ gs' va' vp', GS tyL B q m2 gs' va' vp' w3 ∧ Asd (Ow q gs va vp) (Ow q gs' va' vp') w' w3) := by
 have _u := And.intro (And.intro E Hs) (And.intro ok hR); clear _u; obtain ⟨a0, c0, eva⟩ := Hs.vForm; obtain ⟨b0, d0, evp⟩ := Hs.pForm; obtain ⟨len, hl⟩ : ∃ x, gs.length = x := ⟨_, rfl⟩
 obtain ⟨np, hnp⟩ : ∃ x, m.parts.length = x := ⟨_, rfl⟩
 have hlA : m.acts.length = len := by rw [← hl]; exact Hs.len.symm
 have l8 : len ≤ 8 := by have := ok.l8; omega
 have p8 : np ≤ 8 := by have := ok.p8; omega
 have h6 : ∀ a ∈ m.acts, a.regs.length ≤ 6 := fun a ha => (ok.a a ha).l
 have hpar : ∀ a ∈ m.acts, 0 ≤ a.par ∧ a.par ≤ 8 := fun a ha => ⟨(ok.a a ha).p0, (ok.a a ha).p8⟩
 have k1 : Kp w (w.alloc (.cells #[(4:Int), fn, fs, fr, fe, fp, fq, fo, fd, fa, ft, fh, fc, fx] 87)) := kA _ _; have rf := (mH w (.cells #[(4:Int), fn, fs, fr, fe, fp, fq, fo, fd, fa, ft, fh, fc, fx] 87))
 obtain ⟨W, hW⟩ : ∃ W, (w.alloc (.cells #[(4:Int), fn, fs, fr, fe, fp, fq, fo, fd, fa, ft, fh, fc, fx] 87)) = W := ⟨_, rfl⟩
 rw [hW] at k1 rf; obtain ⟨f0, f1, f2, f3, f4, f5, f6, f7, f8, f9, f10, f11, f12, f13⟩ := cZ rf; have e0 : W.cell? ⟨q, 0, none⟩ = some (.int .i64 m.node) := kZ k1 (cU (i := 0) Hs.row rfl); have e1 : W.cell? ⟨q, 1, none⟩ = some (.int .i64 m.next) := kZ k1 (cU (i := 1) Hs.row rfl); have e2 : W.cell? ⟨q, 2, none⟩ = some (.slice a0 len c0) := by rw [← hl, ← eva]; exact kZ k1 (cU (i := 2) Hs.row rfl)
 have e3 : W.cell? ⟨q, 3, none⟩ = some (.slice b0 np d0) := by rw [← hnp, ← evp]; exact kZ k1 (cU (i := 3) Hs.row rfl)
 obtain ⟨L, hL⟩ : ∃ L : Int, (len : Int) = L := ⟨_, rfl⟩
 obtain ⟨NP, hNP⟩ : ∃ N : Int, (np : Int) = N := ⟨_, rfl⟩
 obtain ⟨HS, OK, HE, EVA, EVP, HL, HLA, HNP⟩ := hD8 Hs ok E eva evp hl hlA hnp; obtain ⟨HLL, HNN⟩ := hD2 hL hNP; have L8 := hD (And.intro l8 p8); obtain ⟨H6, HPA, K1, RF⟩ := hD4 h6 hpar k1 rf; have hac := lsActivity (Hs.kp k1) (by rw [hl]; exact l8) 4 fn fs fr fe fp fq fo fd fa ft fh fc fx; have HAC := hD hac; clear hac
 cases hI : findS m.acts fn fs with
 | none =>
  have HI := hD hI; have HDO := hD (doS_act0 (f := (⟨4, fn, fs, fr, fe, fp, fq, fo, fd, fa, ft, fh, fc, fx⟩ : FX)) (by simp) hI); clear hI E Hs ok hR eva evp hl hnp hlA l8 p8 h6 hpar k1 rf; go_enter Tryz.func147, Tryz.ntmps147; go_wp2_with (go_at_call 182; (with_reducible refine HAC.out.mono ?_); rintro e' w2 ⟨p, rfl, hn, -, hk⟩; obtain rfl := hn HI.out; have c5 : (w2.alloc (.cells #[.pointer none] 247)).cell? ⟨w2.heap.size, 0, none⟩ = some (.pointer none) := cU (i := 0) (mH w2 _) rfl; have kk := kT hk (kA w2 (.cells #[.pointer none] 247)); obtain ⟨f0, f1, f2, f3, f4, f5, f6, f7, f8, f9, f10, f11, f12, f13⟩ := kZ14 kk f0 f1 f2 f3 f4 f5 f6 f7 f8 f9 f10 f11 f12 f13; have K2 := hD kk; clear hk kk hn)
  go_ret; exact .inl ⟨HDO.out, rfl, kT K1.out K2.out⟩
 | some i =>
  obtain ⟨a, ha, hn1, hs1⟩ := fS hI; have hoa := ok.a a (List.mem_of_getElem? ha); have hdo1 := doS_act1 (f := (⟨4, fn, fs, fr, fe, fp, fq, fo, fd, fa, ft, fh, fc, fx⟩ : FX)) (by simp) hI ha; obtain ⟨⟨xn, xs, xo, xd, xx⟩, xp, xc, xr⟩ := a; obtain ⟨⟨aa, xb, xk⟩, hg, hga⟩ := Hs.at ha
  try dsimp only at hga
  subst hga; have h66 : xr.length ≤ 6 := hoa.l; obtain ⟨hi, hgi⟩ := List.getElem?_eq_some_iff.1 hg; obtain ⟨ga, cpa, eva2, hcpa, hgB, hgl, hfz, hcell⟩ := cQ (E := acE) Hs.oa rfl hi; have hcell2 : ∀ (j : Nat) (u : Value), j < acE.k → (acE.enc (gs[i]'hi))[j]? = some u → w.cell? ⟨ga, i * acE.k + j, none⟩ = some u := hcell; rw [hgi, show acE.k = 8 from rfl] at hcell2; obtain ⟨n, hn⟩ : ∃ x, xr.length = x := ⟨_, rfl⟩
  have x2 : W.cell? ⟨ga, i * 8 + 2, none⟩ = some (.int .i64 xo) := kZ k1 (hcell2 2 _ (by decide) rfl); have x6 : W.cell? ⟨ga, i * 8 + 6, none⟩ = some (.int .i64 xc) := kZ k1 (hcell2 6 _ (by decide) rfl); have x7 : W.cell? ⟨ga, i * 8 + 7, none⟩ = some (.slice xb n xk) := kZ k1 (by rw [← hn]; exact hcell2 7 _ (by decide) rfl); have hv : (⟨⟨⟨xn, xs, xo, xd, xx⟩, xp, xc, xr⟩, xb, xk⟩ : AcG).v = .slice xb n xk := by unfold AcG.v; dsimp only; rw [hn]
  have hOR : w.ownsRow B 96 6 (.slice xb n xk) n (rgE.row xr) := by have := Hs.og _ (List.mem_of_getElem? hg); rw [hv] at this; dsimp only at this; rw [hn] at this; exact this
  obtain ⟨N, hN⟩ : ∃ N : Int, (n : Int) = N := ⟨_, rfl⟩
  have hP : ∀ p : Option Addr, (∀ j, findS m.acts fn fs = some j → ∃ (ga cp : Nat), va = .slice (some ⟨ga, 0, none⟩) gs.length cp ∧ p = some ⟨ga, j * 8, none⟩) → p = some ⟨ga, i * 8, none⟩ := by
   intro p h; obtain ⟨g2, cp2, h3, h4⟩ := h i hI; have := congrArg (fun v => match v with | Value.slice (some a) _ _ => a.block | _ => 0) (eva2.symm.trans h3); dsimp only at this; rw [h4, this]
  obtain ⟨HPP, HG, HN, HNI, EV2, OR⟩ := hD6 hP hg hn hN eva2 hOR; have HQN := hD (And.intro hn1 hs1); have H66 := hD h66
  by_cases h1 : xo = 1
  ·by_cases h2 : xc = 0
   ·have HDO := hD (hdo1.trans (show actS m i ⟨⟨xn, xs, xo, xd, xx⟩, xp, xc, xr⟩ (⟨4, fn, fs, fr, fe, fp, fq, fo, fd, fa, ft, fh, fc, fx⟩ : FX) = some { m with acts := m.acts.set i ⟨⟨xn, xs, xo, xd, xx⟩, xp, fc, xr⟩ } by unfold actS; simp [h1, h2])); subst h1 h2; clear hI E Hs ok hR eva evp hl hnp hlA l8 p8 h6 hpar k1 rf ha hn1 hs1 hoa hdo1 hg h66 hi hgi eva2 hcpa hgB hgl hfz hcell hcell2 hn hv hOR hP; go_enter Tryz.func147, Tryz.ntmps147; go_wp2_with (go_at_call 182; (with_reducible refine HAC.out.mono ?_); rintro e' w2 ⟨p, rfl, -, hs, hk⟩; obtain rfl := HPP.out p hs; obtain ⟨wb, hwb⟩ : ∃ x, w2.alloc (.cells #[.pointer (some ⟨ga, i * 8, none⟩)] 247) = x := ⟨_, rfl⟩; have rb : wb.heap[w2.heap.size]? = some (.cells #[.pointer (some ⟨ga, i * 8, none⟩)] 247) := (by rw [← hwb]; exact (mH w2 _)); have kk : Kp W wb := (by rw [← hwb]; exact kT hk (kA _ _)); have c5 : wb.cell? ⟨w2.heap.size, 0, none⟩ = some (.pointer (some ⟨ga, i * 8, none⟩)) := cU (i := 0) rb rfl; have RB := hD rb; clear rb; obtain ⟨f0, f1, f2, f3, f4, f5, f6, f7, f8, f9, f10, f11, f12, f13, x2, x6, x7⟩ := kZ17 kk f0 f1 f2 f3 f4 f5 f6 f7 f8 f9 f10 f11 f12 f13 x2 x6 x7; have K2 := hD kk; clear hk kk hs)
    go_ret; refine .inr ⟨_, HDO.out, _, rfl, kT K1.out K2.out, ?_⟩
    have H5 := HS.out.kp (kT K1.out K2.out); rw [EV2.out] at H5 ⊢; exact lsDecide1 H5 4 fn fs fr fe fp fq fo fd fa ft fh fc fx HG.out (rZ K2.out RF.out) RB.out
   ·have HDO := hD (hdo1.trans (show actS m i ⟨⟨xn, xs, xo, xd, xx⟩, xp, xc, xr⟩ (⟨4, fn, fs, fr, fe, fp, fq, fo, fd, fa, ft, fh, fc, fx⟩ : FX) = none by unfold actS; simp [h2])); have g2 : (xc == 0) = false := by simpa using h2
    have g3 : (xc != 0) = true := by simp [h2]
    subst h1; clear h2 hI E Hs ok hR eva evp hl hnp hlA l8 p8 h6 hpar k1 rf ha hn1 hs1 hoa hdo1 hg h66 hi hgi eva2 hcpa hgB hgl hfz hcell hcell2 hn hv hOR hP; go_enter Tryz.func147, Tryz.ntmps147; go_wp2_with (go_at_call 182; (with_reducible refine HAC.out.mono ?_); rintro e' w2 ⟨p, rfl, -, hs, hk⟩; obtain rfl := HPP.out p hs; obtain ⟨wb, hwb⟩ : ∃ x, w2.alloc (.cells #[.pointer (some ⟨ga, i * 8, none⟩)] 247) = x := ⟨_, rfl⟩; have rb : wb.heap[w2.heap.size]? = some (.cells #[.pointer (some ⟨ga, i * 8, none⟩)] 247) := (by rw [← hwb]; exact (mH w2 _)); have kk : Kp W wb := (by rw [← hwb]; exact kT hk (kA _ _)); have c5 : wb.cell? ⟨w2.heap.size, 0, none⟩ = some (.pointer (some ⟨ga, i * 8, none⟩)) := cU (i := 0) rb rfl; have RB := hD rb; clear rb; obtain ⟨f0, f1, f2, f3, f4, f5, f6, f7, f8, f9, f10, f11, f12, f13, x2, x6, x7⟩ := kZ17 kk f0 f1 f2 f3 f4 f5 f6 f7 f8 f9 f10 f11 f12 f13 x2 x6 x7; have K2 := hD kk; clear hk kk hs)
    go_ret; exact .inl ⟨HDO.out, rfl, kT K1.out K2.out⟩
  ·have HDO := hD (hdo1.trans (show actS m i ⟨⟨xn, xs, xo, xd, xx⟩, xp, xc, xr⟩ (⟨4, fn, fs, fr, fe, fp, fq, fo, fd, fa, ft, fh, fc, fx⟩ : FX) = none by unfold actS; simp [h1])); have g2 : (xo == 1) = false := by simpa using h1
   have g3 : (xo != 1) = true := by simp [h1]
   clear h1 hI E Hs ok hR eva evp hl hnp hlA l8 p8 h6 hpar k1 rf ha hn1 hs1 hoa hdo1 hg h66 hi hgi eva2 hcpa hgB hgl hfz hcell hcell2 hn hv hOR hP; go_enter Tryz.func147, Tryz.ntmps147; go_wp2_with (go_at_call 182; (with_reducible refine HAC.out.mono ?_); rintro e' w2 ⟨p, rfl, -, hs, hk⟩; obtain rfl := HPP.out p hs; obtain ⟨wb, hwb⟩ : ∃ x, w2.alloc (.cells #[.pointer (some ⟨ga, i * 8, none⟩)] 247) = x := ⟨_, rfl⟩; have rb : wb.heap[w2.heap.size]? = some (.cells #[.pointer (some ⟨ga, i * 8, none⟩)] 247) := (by rw [← hwb]; exact (mH w2 _)); have kk : Kp W wb := (by rw [← hwb]; exact kT hk (kA _ _)); have c5 : wb.cell? ⟨w2.heap.size, 0, none⟩ = some (.pointer (some ⟨ga, i * 8, none⟩)) := cU (i := 0) rb rfl; have RB := hD rb; clear rb; obtain ⟨f0, f1, f2, f3, f4, f5, f6, f7, f8, f9, f10, f11, f12, f13, x2, x6, x7⟩ := kZ17 kk f0 f1 f2 f3 f4 f5 f6 f7 f8 f9 f10 f11 f12 f13 x2 x6 x7; have K2 := hD kk; clear hk kk hs)
   go_ret; exact .inl ⟨HDO.out, rfl, kT K1.out K2.out⟩
theorem lsEnrolled (E : EP [0, 3, 4, 8, 13] ads w) (Hs : GS tyL B q m gs va vp w) (ok : OkS m) (fn fs fr fe fp fq fo fd fa ft fh fc : Int) (fx : Nat) (hR : rightF (⟨2, fn, fs, fr, fe, fp, fq, fo, fd, fa, ft, fh, fc, fx⟩ : FX) = true) : Calls Tryz.prog 145 #[.pointer (some ⟨q, 0, none⟩), .agg #[(2:Int), fn, fs, fr, fe, fp, fq, fo, fd, fa, ft, fh, fc, fx]] w fun r w' => (doS m (⟨2, fn, fs, fr, fe, fp, fq, fo, fd, fa, ft, fh, fc, fx⟩ : FX) = none ∧ r = .returned .nilFunc ∧ Kp w w') ∨ (∃ m2, doS m (⟨2, fn, fs, fr, fe, fp, fq, fo, fd, fa, ft, fh, fc, fx⟩ : FX) = some m2 ∧ ∃ caps, r = .returned (.func (.func 184) #[] caps) ∧ Kp w w' ∧ Calls Tryz.prog 184 caps w' fun r w3 => r = .returned (.tuple #[]) ∧ ∃ gs' va' vp', GS tyL B q m2 gs' va' vp' w3 ∧ Asd (Ow q gs va vp) (Ow q gs' va' vp') w' w3) := by
 have _u := And.intro (And.intro E Hs) (And.intro ok hR); clear _u; obtain ⟨a0, c0, eva⟩ := Hs.vForm; obtain ⟨b0, d0, evp⟩ := Hs.pForm; obtain ⟨len, hl⟩ : ∃ x, gs.length = x := ⟨_, rfl⟩
 obtain ⟨np, hnp⟩ : ∃ x, m.parts.length = x := ⟨_, rfl⟩
 have hlA : m.acts.length = len := by rw [← hl]; exact Hs.len.symm
 have l8 : len ≤ 8 := by have := ok.l8; omega
 have p8 : np ≤ 8 := by have := ok.p8; omega
 have h6 : ∀ a ∈ m.acts, a.regs.length ≤ 6 := fun a ha => (ok.a a ha).l
 have hpar : ∀ a ∈ m.acts, 0 ≤ a.par ∧ a.par ≤ 8 := fun a ha => ⟨(ok.a a ha).p0, (ok.a a ha).p8⟩
 have k1 : Kp w (w.alloc (.cells #[(2:Int), fn, fs, fr, fe, fp, fq, fo, fd, fa, ft, fh, fc, fx] 87)) := kA _ _; have rf := (mH w (.cells #[(2:Int), fn, fs, fr, fe, fp, fq, fo, fd, fa, ft, fh, fc, fx] 87))
 obtain ⟨W, hW⟩ : ∃ W, (w.alloc (.cells #[(2:Int), fn, fs, fr, fe, fp, fq, fo, fd, fa, ft, fh, fc, fx] 87)) = W := ⟨_, rfl⟩
 rw [hW] at k1 rf; obtain ⟨f0, f1, f2, f3, f4, f5, f6, f7, f8, f9, f10, f11, f12, f13⟩ := cZ rf; have e0 : W.cell? ⟨q, 0, none⟩ = some (.int .i64 m.node) := kZ k1 (cU (i := 0) Hs.row rfl); have e1 : W.cell? ⟨q, 1, none⟩ = some (.int .i64 m.next) := kZ k1 (cU (i := 1) Hs.row rfl); have e2 : W.cell? ⟨q, 2, none⟩ = some (.slice a0 len c0) := by rw [← hl, ← eva]; exact kZ k1 (cU (i := 2) Hs.row rfl)
 have e3 : W.cell? ⟨q, 3, none⟩ = some (.slice b0 np d0) := by rw [← hnp, ← evp]; exact kZ k1 (cU (i := 3) Hs.row rfl)
 obtain ⟨L, hL⟩ : ∃ L : Int, (len : Int) = L := ⟨_, rfl⟩
 obtain ⟨NP, hNP⟩ : ∃ N : Int, (np : Int) = N := ⟨_, rfl⟩
 obtain ⟨HS, OK, HE, EVA, EVP, HL, HLA, HNP⟩ := hD8 Hs ok E eva evp hl hlA hnp; obtain ⟨HLL, HNN⟩ := hD2 hL hNP; have L8 := hD (And.intro l8 p8); obtain ⟨H6, HPA, K1, RF⟩ := hD4 h6 hpar k1 rf; have hac := lsActivity (Hs.kp k1) (by rw [hl]; exact l8) 2 fn fs fr fe fp fq fo fd fa ft fh fc fx; have HAC := hD hac; clear hac
 cases hI : findS m.acts fn fs with
 | none =>
  have HI := hD hI; have HDO := hD (doS_act0 (f := (⟨2, fn, fs, fr, fe, fp, fq, fo, fd, fa, ft, fh, fc, fx⟩ : FX)) (by simp) hI); clear hI E Hs ok hR eva evp hl hnp hlA l8 p8 h6 hpar k1 rf; go_enter Tryz.func145, Tryz.ntmps145; go_wp2_with (go_at_call 182; (with_reducible refine HAC.out.mono ?_); rintro e' w2 ⟨p, rfl, hn, -, hk⟩; obtain rfl := hn HI.out; have c5 : (w2.alloc (.cells #[.pointer none] 247)).cell? ⟨w2.heap.size, 0, none⟩ = some (.pointer none) := cU (i := 0) (mH w2 _) rfl; have kk := kT hk (kA w2 (.cells #[.pointer none] 247)); obtain ⟨f0, f1, f2, f3, f4, f5, f6, f7, f8, f9, f10, f11, f12, f13⟩ := kZ14 kk f0 f1 f2 f3 f4 f5 f6 f7 f8 f9 f10 f11 f12 f13; have K2 := hD kk; clear hk kk hn)
  go_region
  go_wp2; go_ret; exact .inl ⟨HDO.out, rfl, kT K1.out (dQ K2.out)⟩
 | some i =>
  have hfq : fq = 1 ∨ fq = 2 := (inv_enr hR rfl).2.2.2.2; have HFQ := hD hfq; obtain ⟨a, ha, hn1, hs1⟩ := fS hI; have hoa := ok.a a (List.mem_of_getElem? ha); have hdo1 := doS_act1 (f := (⟨2, fn, fs, fr, fe, fp, fq, fo, fd, fa, ft, fh, fc, fx⟩ : FX)) (by simp) hI ha; obtain ⟨⟨xn, xs, xo, xd, xx⟩, xp, xc, xr⟩ := a; obtain ⟨⟨aa, xb, xk⟩, hg, hga⟩ := Hs.at ha
  try dsimp only at hga
  subst hga; have h66 : xr.length ≤ 6 := hoa.l; obtain ⟨hi, hgi⟩ := List.getElem?_eq_some_iff.1 hg; obtain ⟨ga, cpa, eva2, hcpa, hgB, hgl, hfz, hcell⟩ := cQ (E := acE) Hs.oa rfl hi; have hcell2 : ∀ (j : Nat) (u : Value), j < acE.k → (acE.enc (gs[i]'hi))[j]? = some u → w.cell? ⟨ga, i * acE.k + j, none⟩ = some u := hcell; rw [hgi, show acE.k = 8 from rfl] at hcell2; obtain ⟨n, hn⟩ : ∃ x, xr.length = x := ⟨_, rfl⟩
  have x2 : W.cell? ⟨ga, i * 8 + 2, none⟩ = some (.int .i64 xo) := kZ k1 (hcell2 2 _ (by decide) rfl); have x6 : W.cell? ⟨ga, i * 8 + 6, none⟩ = some (.int .i64 xc) := kZ k1 (hcell2 6 _ (by decide) rfl); have x7 : W.cell? ⟨ga, i * 8 + 7, none⟩ = some (.slice xb n xk) := kZ k1 (by rw [← hn]; exact hcell2 7 _ (by decide) rfl); have hv : (⟨⟨⟨xn, xs, xo, xd, xx⟩, xp, xc, xr⟩, xb, xk⟩ : AcG).v = .slice xb n xk := by unfold AcG.v; dsimp only; rw [hn]
  have hOR : w.ownsRow B 96 6 (.slice xb n xk) n (rgE.row xr) := by have := Hs.og _ (List.mem_of_getElem? hg); rw [hv] at this; dsimp only at this; rw [hn] at this; exact this
  obtain ⟨N, hN⟩ : ∃ N : Int, (n : Int) = N := ⟨_, rfl⟩
  have hP : ∀ p : Option Addr, (∀ j, findS m.acts fn fs = some j → ∃ (ga cp : Nat), va = .slice (some ⟨ga, 0, none⟩) gs.length cp ∧ p = some ⟨ga, j * 8, none⟩) → p = some ⟨ga, i * 8, none⟩ := by
   intro p h; obtain ⟨g2, cp2, h3, h4⟩ := h i hI; have := congrArg (fun v => match v with | Value.slice (some a) _ _ => a.block | _ => 0) (eva2.symm.trans h3); dsimp only at this; rw [h4, this]
  obtain ⟨HPP, HG, HN, HNI, EV2, OR⟩ := hD6 hP hg hn hN eva2 hOR; have HQN := hD (And.intro hn1 hs1); have H66 := hD h66
  by_cases h1 : fr = N
  rotate_left
  ·have HDO := hD (hdo1.trans (show actS m i ⟨⟨xn, xs, xo, xd, xx⟩, xp, xc, xr⟩ (⟨2, fn, fs, fr, fe, fp, fq, fo, fd, fa, ft, fh, fc, fx⟩ : FX) = none by unfold actS; dsimp only; rw [if_pos rfl, if_pos (.inl (by omega))])); have g1 : (fr == N) = false := by simpa using h1
   have g2 : (fr != N) = true := by simp [h1]
   clear h1 hI hfq E Hs ok hR eva evp hl hnp hlA l8 p8 h6 hpar k1 rf ha hn1 hs1 hoa hdo1 hg h66 hi hgi eva2 hcpa hgB hgl hfz hcell hcell2 hn hv hOR hP; go_enter Tryz.func145, Tryz.ntmps145; go_wp2_with (go_at_call 182; (with_reducible refine HAC.out.mono ?_); rintro e' w2 ⟨p, rfl, -, hs, hk⟩; obtain rfl := HPP.out p hs; obtain ⟨wb, hwb⟩ : ∃ x, w2.alloc (.cells #[.pointer (some ⟨ga, i * 8, none⟩)] 247) = x := ⟨_, rfl⟩; have rb : wb.heap[w2.heap.size]? = some (.cells #[.pointer (some ⟨ga, i * 8, none⟩)] 247) := (by rw [← hwb]; exact (mH w2 _)); have kk : Kp W wb := (by rw [← hwb]; exact kT hk (kA _ _)); have c5 : wb.cell? ⟨w2.heap.size, 0, none⟩ = some (.pointer (some ⟨ga, i * 8, none⟩)) := cU (i := 0) rb rfl; have RB := hD rb; clear rb; obtain ⟨f0, f1, f2, f3, f4, f5, f6, f7, f8, f9, f10, f11, f12, f13, x2, x6, x7⟩ := kZ17 kk f0 f1 f2 f3 f4 f5 f6 f7 f8 f9 f10 f11 f12 f13 x2 x6 x7; have K2 := hD kk; clear hk kk hs)
   go_region
   go_wp2; go_ret; exact .inl ⟨HDO.out, rfl, kT K1.out (dQ K2.out)⟩
  by_cases h2 : xc = 0
  rotate_left
  ·have HDO := hD (hdo1.trans (show actS m i ⟨⟨xn, xs, xo, xd, xx⟩, xp, xc, xr⟩ (⟨2, fn, fs, fr, fe, fp, fq, fo, fd, fa, ft, fh, fc, fx⟩ : FX) = none by unfold actS; dsimp only; rw [if_pos rfl, if_pos (.inr (.inl h2))])); have g1 : (fr == N) = true := beq_iff_eq.2 h1; have g1' : (fr != N) = false := by simp [h1]
   have g2 : (xc == 0) = false := by simpa using h2
   have g3 : (xc != 0) = true := by simp [h2]
   clear h1 h2 hI hfq E Hs ok hR eva evp hl hnp hlA l8 p8 h6 hpar k1 rf ha hn1 hs1 hoa hdo1 hg h66 hi hgi eva2 hcpa hgB hgl hfz hcell hcell2 hn hv hOR hP; go_enter Tryz.func145, Tryz.ntmps145; go_wp2_with (go_at_call 182; (with_reducible refine HAC.out.mono ?_); rintro e' w2 ⟨p, rfl, -, hs, hk⟩; obtain rfl := HPP.out p hs; obtain ⟨wb, hwb⟩ : ∃ x, w2.alloc (.cells #[.pointer (some ⟨ga, i * 8, none⟩)] 247) = x := ⟨_, rfl⟩; have rb : wb.heap[w2.heap.size]? = some (.cells #[.pointer (some ⟨ga, i * 8, none⟩)] 247) := (by rw [← hwb]; exact (mH w2 _)); have kk : Kp W wb := (by rw [← hwb]; exact kT hk (kA _ _)); have c5 : wb.cell? ⟨w2.heap.size, 0, none⟩ = some (.pointer (some ⟨ga, i * 8, none⟩)) := cU (i := 0) rb rfl; have RB := hD rb; clear rb; obtain ⟨f0, f1, f2, f3, f4, f5, f6, f7, f8, f9, f10, f11, f12, f13, x2, x6, x7⟩ := kZ17 kk f0 f1 f2 f3 f4 f5 f6 f7 f8 f9 f10 f11 f12 f13 x2 x6 x7; have K2 := hD kk; clear hk kk hs)
   go_region
   go_wp2; go_ret; exact .inl ⟨HDO.out, rfl, kT K1.out (dQ K2.out)⟩
  have hact : actS m i ⟨⟨xn, xs, xo, xd, xx⟩, xp, xc, xr⟩ (⟨2, fn, fs, fr, fe, fp, fq, fo, fd, fa, ft, fh, fc, fx⟩ : FX) = if xr.any (fun g => decide (g.node = fe ∧ g.part = fp)) = true then none else some { m with acts := m.acts.set i ⟨⟨xn, xs, xo, xd, xx⟩, xp, xc, xr ++ [(⟨fe, fp, ⟨fq, 1, 1, 0⟩⟩ : RgM)]⟩ } := by
   unfold actS; dsimp only; rw [if_pos rfl]
   by_cases z : xr.any (fun g => decide (g.node = fe ∧ g.part = fp)) = true
   ·rw [if_pos (.inr (.inr z)), if_pos z]
   ·rw [if_neg (by rintro (e | e | e); exact e (by omega); exact e h2; exact z e), if_neg z]
  have hdo2 := hdo1.trans hact; have hcon := fun w1 (hk : Kp w w1) => conDup (w := w1) (oK hOR hk) hn (by omega) 2 fn fs fr fe fp fq fo fd fa ft fh fc fx (bf := w.heap.size)
  obtain ⟨tb, htb⟩ : ∃ b, xr.any (fun g => decide (g.node = fe ∧ g.part = fp)) = b := ⟨_, rfl⟩
  rw [htb] at hdo2 hcon; obtain ⟨HCON, HDO⟩ := hD2 hcon hdo2; have g1 : (fr == N) = true := beq_iff_eq.2 h1; have g1' : (fr != N) = false := by simp [h1]
  subst h2; clear h1 hI hfq htb hcon hdo2 hact E Hs ok hR eva evp hl hnp hlA l8 p8 h6 hpar k1 rf ha hn1 hs1 hoa hdo1 hg h66 hi hgi eva2 hcpa hgB hgl hfz hcell hcell2 hn hv hOR hP; go_enter Tryz.func145, Tryz.ntmps145; go_wp2_with (go_at_call 182; (with_reducible refine HAC.out.mono ?_); rintro e' w2 ⟨p, rfl, -, hs, hk⟩; obtain rfl := HPP.out p hs; obtain ⟨wb, hwb⟩ : ∃ x, w2.alloc (.cells #[.pointer (some ⟨ga, i * 8, none⟩)] 247) = x := ⟨_, rfl⟩; have rb : wb.heap[w2.heap.size]? = some (.cells #[.pointer (some ⟨ga, i * 8, none⟩)] 247) := (by rw [← hwb]; exact (mH w2 _)); have kk : Kp W wb := (by rw [← hwb]; exact kT hk (kA _ _)); have c5 : wb.cell? ⟨w2.heap.size, 0, none⟩ = some (.pointer (some ⟨ga, i * 8, none⟩)) := cU (i := 0) rb rfl; have RB := hD rb; clear rb; obtain ⟨f0, f1, f2, f3, f4, f5, f6, f7, f8, f9, f10, f11, f12, f13, x2, x6, x7⟩ := kZ17 kk f0 f1 f2 f3 f4 f5 f6 f7 f8 f9 f10 f11 f12 f13 x2 x6 x7; have K2 := hD kk; clear hk kk hs)
  go_region
  obtain ⟨WC, hWC⟩ : ∃ x, wb.drew = x := ⟨_, rfl⟩
  have kC : Kp wb WC := by rw [← hWC]; exact dQ (Kp.refl wb)
  rw [hWC]; have KC := hD kC; obtain ⟨c5, x7⟩ := kZ2 kC c5 x7; clear kC hWC
  cases tb with
  | true =>
   go_wp2_with (go_at_call 126; (with_reducible refine (HCON.out _ (kT K1.out (kT K2.out KC.out)) (rZ KC.out (rZ K2.out RF.out))).mono ?_); rintro e' w6 ⟨rfl, hk6⟩; have K6 := hD (kT K1.out (kT K2.out (kT KC.out hk6))); clear hk6)
   go_ret; exact .inl ⟨HDO.out, rfl, K6.out⟩
  | false =>
   go_wp2_with (go_at_call 126; (with_reducible refine (HCON.out _ (kT K1.out (kT K2.out KC.out)) (rZ KC.out (rZ K2.out RF.out))).mono ?_); rintro e' w6 ⟨rfl, hk6⟩; have K6 := hD (kT K1.out (kT K2.out (kT KC.out hk6))); have R6 := hD (rZ (kT K2.out (kT KC.out hk6)) RF.out); have B6 := hD (rZ (kT KC.out hk6) RB.out); clear hk6)
   go_ret; refine .inr ⟨_, HDO.out, _, rfl, K6.out, ?_⟩
   have H5 := HS.out.kp K6.out; rw [EV2.out] at H5 ⊢; exact lsEnrol1 (HE.out.kp K6.out) H5 2 fn fs fr fe fp fq fo fd fa ft fh fc fx HFQ.out HG.out H66.out R6.out B6.out
theorem lsForgot (E : EP [0, 3, 4, 8, 13] ads w) (Hs : GS tyL B q m gs va vp w) (ok : OkS m) (fn fs fr fe fp fq fo fd fa ft fh fc : Int) (fx : Nat) (hR : rightF (⟨5, fn, fs, fr, fe, fp, fq, fo, fd, fa, ft, fh, fc, fx⟩ : FX) = true) : Calls Tryz.prog 148 #[.pointer (some ⟨q, 0, none⟩), .agg #[(5:Int), fn, fs, fr, fe, fp, fq, fo, fd, fa, ft, fh, fc, fx]] w fun r w' => (doS m (⟨5, fn, fs, fr, fe, fp, fq, fo, fd, fa, ft, fh, fc, fx⟩ : FX) = none ∧ r = .returned .nilFunc ∧ Kp w w') ∨ (∃ m2, doS m (⟨5, fn, fs, fr, fe, fp, fq, fo, fd, fa, ft, fh, fc, fx⟩ : FX) = some m2 ∧ ∃ caps, r = .returned (.func (.func 189) #[] caps) ∧ Kp w w' ∧ Calls Tryz.prog 189 caps w' fun r w3 => r = .returned (.tuple #[]) ∧ ∃ gs' va' vp', GS tyL B q m2 gs' va' vp' w3 ∧ Asd (Ow q gs va vp) (Ow q gs' va' vp') w' w3) := by
 have _u := And.intro (And.intro E Hs) (And.intro ok hR); clear _u; obtain ⟨a0, c0, eva⟩ := Hs.vForm; obtain ⟨b0, d0, evp⟩ := Hs.pForm; obtain ⟨len, hl⟩ : ∃ x, gs.length = x := ⟨_, rfl⟩
 obtain ⟨np, hnp⟩ : ∃ x, m.parts.length = x := ⟨_, rfl⟩
 have hlA : m.acts.length = len := by rw [← hl]; exact Hs.len.symm
 have l8 : len ≤ 8 := by have := ok.l8; omega
 have p8 : np ≤ 8 := by have := ok.p8; omega
 have h6 : ∀ a ∈ m.acts, a.regs.length ≤ 6 := fun a ha => (ok.a a ha).l
 have hpar : ∀ a ∈ m.acts, 0 ≤ a.par ∧ a.par ≤ 8 := fun a ha => ⟨(ok.a a ha).p0, (ok.a a ha).p8⟩
 have k1 : Kp w ((w.alloc (.cells #[.pointer (some ⟨q, 0, none⟩)] 31)).alloc (.cells #[(5:Int), fn, fs, fr, fe, fp, fq, fo, fd, fa, ft, fh, fc, fx] 87)) := kT (kA _ _) (kA _ _); have rs := nX0 w (.cells #[.pointer (some ⟨q, 0, none⟩)] 31) (.cells #[(5:Int), fn, fs, fr, fe, fp, fq, fo, fd, fa, ft, fh, fc, fx] 87); have rf := nX1 w (.cells #[.pointer (some ⟨q, 0, none⟩)] 31) (.cells #[(5:Int), fn, fs, fr, fe, fp, fq, fo, fd, fa, ft, fh, fc, fx] 87); obtain ⟨W, hW⟩ : ∃ W, ((w.alloc (.cells #[.pointer (some ⟨q, 0, none⟩)] 31)).alloc (.cells #[(5:Int), fn, fs, fr, fe, fp, fq, fo, fd, fa, ft, fh, fc, fx] 87)) = W := ⟨_, rfl⟩
 rw [hW] at k1 rf rs; obtain ⟨f0, f1, f2, f3, f4, f5, f6, f7, f8, f9, f10, f11, f12, f13⟩ := cZ rf; have s0 : W.cell? ⟨w.heap.size, 0, none⟩ = some (.pointer (some ⟨q, 0, none⟩)) := cU (i := 0) rs rfl; have e0 : W.cell? ⟨q, 0, none⟩ = some (.int .i64 m.node) := kZ k1 (cU (i := 0) Hs.row rfl); have e1 : W.cell? ⟨q, 1, none⟩ = some (.int .i64 m.next) := kZ k1 (cU (i := 1) Hs.row rfl); have e2 : W.cell? ⟨q, 2, none⟩ = some (.slice a0 len c0) := by rw [← hl, ← eva]; exact kZ k1 (cU (i := 2) Hs.row rfl)
 have e3 : W.cell? ⟨q, 3, none⟩ = some (.slice b0 np d0) := by rw [← hnp, ← evp]; exact kZ k1 (cU (i := 3) Hs.row rfl)
 obtain ⟨L, hL⟩ : ∃ L : Int, (len : Int) = L := ⟨_, rfl⟩
 obtain ⟨NP, hNP⟩ : ∃ N : Int, (np : Int) = N := ⟨_, rfl⟩
 obtain ⟨HS, OK, HE, EVA, EVP, HL, HLA, HNP⟩ := hD8 Hs ok E eva evp hl hlA hnp; obtain ⟨HLL, HNN⟩ := hD2 hL hNP; have L8 := hD (And.intro l8 p8); obtain ⟨H6, HPA, K1, RF, RS⟩ := hD5 h6 hpar k1 rf rs; have hac := lsActivity (Hs.kp k1) (by rw [hl]; exact l8) 5 fn fs fr fe fp fq fo fd fa ft fh fc fx; have HAC := hD hac; clear hac
 cases hI : findS m.acts fn fs with
 | none =>
  have HI := hD hI; have HDO := hD (doS_act0 (f := (⟨5, fn, fs, fr, fe, fp, fq, fo, fd, fa, ft, fh, fc, fx⟩ : FX)) (by simp) hI); clear hI E Hs ok hR eva evp hl hnp hlA l8 p8 h6 hpar k1 rf rs; go_enter Tryz.func148, Tryz.ntmps148; go_wp2_with (go_at_call 182; (with_reducible refine HAC.out.mono ?_); rintro e' w2 ⟨p, rfl, hn, -, hk⟩; obtain rfl := hn HI.out; have kk := hk; obtain ⟨f0, f1, f2, f3, f4, f5, f6, f7, f8, f9, f10, f11, f12, f13⟩ := kZ14 kk f0 f1 f2 f3 f4 f5 f6 f7 f8 f9 f10 f11 f12 f13; have K2 := hD kk; clear hk kk hn)
  go_ret; exact .inl ⟨HDO.out, rfl, kT K1.out K2.out⟩
 | some i =>
  have hseq := ok.seq; obtain ⟨a, ha, hn1, hs1⟩ := fS hI; have hoa := ok.a a (List.mem_of_getElem? ha); have hdo1 := doS_act1 (f := (⟨5, fn, fs, fr, fe, fp, fq, fo, fd, fa, ft, fh, fc, fx⟩ : FX)) (by simp) hI ha; obtain ⟨⟨xn, xs, xo, xd, xx⟩, xp, xc, xr⟩ := a; obtain ⟨⟨aa, xb, xk⟩, hg, hga⟩ := Hs.at ha
  try dsimp only at hga
  subst hga; have h66 : xr.length ≤ 6 := hoa.l; obtain ⟨hi, hgi⟩ := List.getElem?_eq_some_iff.1 hg; obtain ⟨ga, cpa, eva2, hcpa, hgB, hgl, hfz, hcell⟩ := cQ (E := acE) Hs.oa rfl hi; have hcell2 : ∀ (j : Nat) (u : Value), j < acE.k → (acE.enc (gs[i]'hi))[j]? = some u → w.cell? ⟨ga, i * acE.k + j, none⟩ = some u := hcell; rw [hgi, show acE.k = 8 from rfl] at hcell2; obtain ⟨n, hn⟩ : ∃ x, xr.length = x := ⟨_, rfl⟩
  have x2 : W.cell? ⟨ga, i * 8 + 2, none⟩ = some (.int .i64 xo) := kZ k1 (hcell2 2 _ (by decide) rfl); have x6 : W.cell? ⟨ga, i * 8 + 6, none⟩ = some (.int .i64 xc) := kZ k1 (hcell2 6 _ (by decide) rfl); have x7 : W.cell? ⟨ga, i * 8 + 7, none⟩ = some (.slice xb n xk) := kZ k1 (by rw [← hn]; exact hcell2 7 _ (by decide) rfl); have hv : (⟨⟨⟨xn, xs, xo, xd, xx⟩, xp, xc, xr⟩, xb, xk⟩ : AcG).v = .slice xb n xk := by unfold AcG.v; dsimp only; rw [hn]
  have hOR : w.ownsRow B 96 6 (.slice xb n xk) n (rgE.row xr) := by have := Hs.og _ (List.mem_of_getElem? hg); rw [hv] at this; dsimp only at this; rw [hn] at this; exact this
  obtain ⟨N, hN⟩ : ∃ N : Int, (n : Int) = N := ⟨_, rfl⟩
  have hP : ∀ p : Option Addr, (∀ j, findS m.acts fn fs = some j → ∃ (ga cp : Nat), va = .slice (some ⟨ga, 0, none⟩) gs.length cp ∧ p = some ⟨ga, j * 8, none⟩) → p = some ⟨ga, i * 8, none⟩ := by
   intro p h; obtain ⟨g2, cp2, h3, h4⟩ := h i hI; have := congrArg (fun v => match v with | Value.slice (some a) _ _ => a.block | _ => 0) (eva2.symm.trans h3); dsimp only at this; rw [h4, this]
  obtain ⟨HPP, HG, HN, HNI, EV2, OR⟩ := hD6 hP hg hn hN eva2 hOR; have HQN := hD (And.intro hn1 hs1); have H66 := hD h66; have hun : ∀ k y, gs[k]? = some y → k ≠ i → ¬ (y.a.c.n = fn ∧ y.a.c.s = fs) := by
   intro k y hy hki e; have hy2 : m.acts[k]? = some y.a := by rw [Hs.acts, List.getElem?_map, hy]; rfl
   have h7 := seqS_gone m.acts 0 i _ hseq ha; refine h7 y.a ?_ (e.2.trans hs1.symm)
   rcases Nat.lt_or_gt_of_ne hki with h | h
   ·exact List.mem_of_getElem? (i := k) (by rw [List.getElem?_eraseIdx, if_pos h]; exact hy2)
   ·exact List.mem_of_getElem? (i := k - 1) (by rw [List.getElem?_eraseIdx, if_neg (by omega), show k - 1 + 1 = k by omega]; exact hy2)
  have HUN := hD hun; have hact : actS m i ⟨⟨xn, xs, xo, xd, xx⟩, xp, xc, xr⟩ (⟨5, fn, fs, fr, fe, fp, fq, fo, fd, fa, ft, fh, fc, fx⟩ : FX) = if xr.any (fun g => decide (g.z.s ≠ 14)) = true then none else some { m with acts := m.acts.eraseIdx i } := by
   unfold actS; dsimp only; rw [if_neg (by decide), if_neg (by decide), if_neg (by decide), if_pos rfl]
  have hdo2 := hdo1.trans hact; have hcon := fun w1 (hk : Kp w w1) => conEnd (w := w1) (oK hOR hk) hn (by omega)
  obtain ⟨tb, htb⟩ : ∃ b, xr.any (fun g => decide (g.z.s ≠ 14)) = b := ⟨_, rfl⟩
  rw [htb] at hdo2 hcon; obtain ⟨HCON, HDO⟩ := hD2 hcon hdo2; clear hun hseq hI htb hcon hdo2 hact E Hs ok hR eva evp hl hnp hlA l8 p8 h6 hpar k1 rf rs ha hn1 hs1 hoa hdo1 hg h66 hi hgi eva2 hcpa hgB hgl hfz hcell hcell2 hn hv hOR hP
  cases tb with
  | true =>
   go_enter Tryz.func148, Tryz.ntmps148; go_wp2_with (first | (go_at_call 182; (with_reducible refine HAC.out.mono ?_); rintro e' w2 ⟨p, rfl, -, hs, hk⟩; obtain rfl := HPP.out p hs; have kk := hk; obtain ⟨f0, f1, f2, f3, f4, f5, f6, f7, f8, f9, f10, f11, f12, f13, x2, x6, x7⟩ := kZ17 kk f0 f1 f2 f3 f4 f5 f6 f7 f8 f9 f10 f11 f12 f13 x2 x6 x7; have K2 := hD kk; clear hk kk hs) | (go_at_call 126; (with_reducible refine (HCON.out _ (kT K1.out K2.out)).mono ?_); rintro e' w6 ⟨rfl, hk6⟩; have K6 := hD (kT K1.out (kT K2.out hk6)); clear hk6))
   go_ret; exact .inl ⟨HDO.out, rfl, K6.out⟩
  | false =>
   go_enter Tryz.func148, Tryz.ntmps148; go_wp2_with (first | (go_at_call 182; (with_reducible refine HAC.out.mono ?_); rintro e' w2 ⟨p, rfl, -, hs, hk⟩; obtain rfl := HPP.out p hs; have kk := hk; obtain ⟨f0, f1, f2, f3, f4, f5, f6, f7, f8, f9, f10, f11, f12, f13, x2, x6, x7⟩ := kZ17 kk f0 f1 f2 f3 f4 f5 f6 f7 f8 f9 f10 f11 f12 f13 x2 x6 x7; have K2 := hD kk; clear hk kk hs) | (go_at_call 126; (with_reducible refine (HCON.out _ (kT K1.out K2.out)).mono ?_); rintro e' w6 ⟨rfl, hk6⟩; have K6 := hD (kT K1.out (kT K2.out hk6)); have R6 := hD (rZ (kT K2.out hk6) RF.out); have S6 := hD (rZ (kT K2.out hk6) RS.out); clear hk6))
   go_ret; refine .inr ⟨_, HDO.out, _, rfl, K6.out, ?_⟩
   exact lsForget1 (HS.out.kp K6.out) (by rw [HL.out]; exact L8.out.1) 5 fn fs fr fe fp fq fo fd fa ft fh fc fx R6.out S6.out HG.out HQN.out HUN.out
theorem lsSeated (E : EP [0, 3, 4, 8, 13] ads w) (Hs : GS tyL B q m gs va vp w) (ok : OkS m) (fn fs fr fe fp fq fo fd fa ft fh fc : Int) (fx : Nat) (hR : rightF (⟨3, fn, fs, fr, fe, fp, fq, fo, fd, fa, ft, fh, fc, fx⟩ : FX) = true) : Calls Tryz.prog 146 #[.pointer (some ⟨q, 0, none⟩), .agg #[(3:Int), fn, fs, fr, fe, fp, fq, fo, fd, fa, ft, fh, fc, fx]] w fun r w' => (doS m (⟨3, fn, fs, fr, fe, fp, fq, fo, fd, fa, ft, fh, fc, fx⟩ : FX) = none ∧ r = .returned .nilFunc ∧ Kp w w') ∨ (∃ m2, doS m (⟨3, fn, fs, fr, fe, fp, fq, fo, fd, fa, ft, fh, fc, fx⟩ : FX) = some m2 ∧ ∃ caps, r = .returned (.func (.func 207) #[] caps) ∧ Kp w w' ∧ Calls Tryz.prog 207 caps w' fun r w3 => r = .returned (.tuple #[]) ∧ ∃ gs' va' vp', GS tyL B q m2 gs' va' vp' w3 ∧ Asd (Ow q gs va vp) (Ow q gs' va' vp') w' w3) := by
 have _u := And.intro (And.intro E Hs) (And.intro ok hR); clear _u; obtain ⟨a0, c0, eva⟩ := Hs.vForm; obtain ⟨b0, d0, evp⟩ := Hs.pForm; obtain ⟨len, hl⟩ : ∃ x, gs.length = x := ⟨_, rfl⟩
 obtain ⟨np, hnp⟩ : ∃ x, m.parts.length = x := ⟨_, rfl⟩
 have hlA : m.acts.length = len := by rw [← hl]; exact Hs.len.symm
 have l8 : len ≤ 8 := by have := ok.l8; omega
 have p8 : np ≤ 8 := by have := ok.p8; omega
 have h6 : ∀ a ∈ m.acts, a.regs.length ≤ 6 := fun a ha => (ok.a a ha).l
 have hpar : ∀ a ∈ m.acts, 0 ≤ a.par ∧ a.par ≤ 8 := fun a ha => ⟨(ok.a a ha).p0, (ok.a a ha).p8⟩
 have k1 : Kp w (w.alloc (.cells #[(3:Int), fn, fs, fr, fe, fp, fq, fo, fd, fa, ft, fh, fc, fx] 87)) := kA _ _; have rf := (mH w (.cells #[(3:Int), fn, fs, fr, fe, fp, fq, fo, fd, fa, ft, fh, fc, fx] 87))
 obtain ⟨W, hW⟩ : ∃ W, (w.alloc (.cells #[(3:Int), fn, fs, fr, fe, fp, fq, fo, fd, fa, ft, fh, fc, fx] 87)) = W := ⟨_, rfl⟩
 rw [hW] at k1 rf; obtain ⟨f0, f1, f2, f3, f4, f5, f6, f7, f8, f9, f10, f11, f12, f13⟩ := cZ rf; have e0 : W.cell? ⟨q, 0, none⟩ = some (.int .i64 m.node) := kZ k1 (cU (i := 0) Hs.row rfl); have e1 : W.cell? ⟨q, 1, none⟩ = some (.int .i64 m.next) := kZ k1 (cU (i := 1) Hs.row rfl); have e2 : W.cell? ⟨q, 2, none⟩ = some (.slice a0 len c0) := by rw [← hl, ← eva]; exact kZ k1 (cU (i := 2) Hs.row rfl)
 have e3 : W.cell? ⟨q, 3, none⟩ = some (.slice b0 np d0) := by rw [← hnp, ← evp]; exact kZ k1 (cU (i := 3) Hs.row rfl)
 obtain ⟨L, hL⟩ : ∃ L : Int, (len : Int) = L := ⟨_, rfl⟩
 obtain ⟨NP, hNP⟩ : ∃ N : Int, (np : Int) = N := ⟨_, rfl⟩
 obtain ⟨HS, OK, HE, EVA, EVP, HL, HLA, HNP⟩ := hD8 Hs ok E eva evp hl hlA hnp; obtain ⟨HLL, HNN⟩ := hD2 hL hNP; have L8 := hD (And.intro l8 p8); obtain ⟨H6, HPA, K1, RF⟩ := hD4 h6 hpar k1 rf; have hac := lsActivity (Hs.kp k1) (by rw [hl]; exact l8) 3 fn fs fr fe fp fq fo fd fa ft fh fc fx; have HAC := hD hac; clear hac
 cases hI : findS m.acts fn fs with
 | none =>
  have HI := hD hI; have HDO := hD (doS_act0 (f := (⟨3, fn, fs, fr, fe, fp, fq, fo, fd, fa, ft, fh, fc, fx⟩ : FX)) (by simp) hI); clear hI E Hs ok hR eva evp hl hnp hlA l8 p8 h6 hpar k1 rf; go_enter Tryz.func146, Tryz.ntmps146; go_wp2_with (go_at_call 182; (with_reducible refine HAC.out.mono ?_); rintro e' w2 ⟨p, rfl, hn, -, hk⟩; obtain rfl := hn HI.out; have kk := hk; obtain ⟨f0, f1, f2, f3, f4, f5, f6, f7, f8, f9, f10, f11, f12, f13⟩ := kZ14 kk f0 f1 f2 f3 f4 f5 f6 f7 f8 f9 f10 f11 f12 f13; have K2 := hD kk; clear hk kk hn)
  go_region
  go_wp2; go_ret; exact .inl ⟨HDO.out, rfl, kT K1.out (dQ K2.out)⟩
 | some i =>
  have hr0 : 0 ≤ fr := by have := okF_of hR; simp [okF] at this; omega
  obtain ⟨a, ha, hn1, hs1⟩ := fS hI; have hoa := ok.a a (List.mem_of_getElem? ha); have hdo1 := doS_act1 (f := (⟨3, fn, fs, fr, fe, fp, fq, fo, fd, fa, ft, fh, fc, fx⟩ : FX)) (by simp) hI ha; obtain ⟨⟨xn, xs, xo, xd, xx⟩, xp, xc, xr⟩ := a; obtain ⟨⟨aa, xb, xk⟩, hg, hga⟩ := Hs.at ha
  try dsimp only at hga
  subst hga; have h66 : xr.length ≤ 6 := hoa.l; obtain ⟨hi, hgi⟩ := List.getElem?_eq_some_iff.1 hg; obtain ⟨ga, cpa, eva2, hcpa, hgB, hgl, hfz, hcell⟩ := cQ (E := acE) Hs.oa rfl hi; have hcell2 : ∀ (j : Nat) (u : Value), j < acE.k → (acE.enc (gs[i]'hi))[j]? = some u → w.cell? ⟨ga, i * acE.k + j, none⟩ = some u := hcell; rw [hgi, show acE.k = 8 from rfl] at hcell2; obtain ⟨n, hn⟩ : ∃ x, xr.length = x := ⟨_, rfl⟩
  have x2 : W.cell? ⟨ga, i * 8 + 2, none⟩ = some (.int .i64 xo) := kZ k1 (hcell2 2 _ (by decide) rfl); have x6 : W.cell? ⟨ga, i * 8 + 6, none⟩ = some (.int .i64 xc) := kZ k1 (hcell2 6 _ (by decide) rfl); have x7 : W.cell? ⟨ga, i * 8 + 7, none⟩ = some (.slice xb n xk) := kZ k1 (by rw [← hn]; exact hcell2 7 _ (by decide) rfl); have hv : (⟨⟨⟨xn, xs, xo, xd, xx⟩, xp, xc, xr⟩, xb, xk⟩ : AcG).v = .slice xb n xk := by unfold AcG.v; dsimp only; rw [hn]
  have hOR : w.ownsRow B 96 6 (.slice xb n xk) n (rgE.row xr) := by have := Hs.og _ (List.mem_of_getElem? hg); rw [hv] at this; dsimp only at this; rw [hn] at this; exact this
  obtain ⟨N, hN⟩ : ∃ N : Int, (n : Int) = N := ⟨_, rfl⟩
  have hP : ∀ p : Option Addr, (∀ j, findS m.acts fn fs = some j → ∃ (ga cp : Nat), va = .slice (some ⟨ga, 0, none⟩) gs.length cp ∧ p = some ⟨ga, j * 8, none⟩) → p = some ⟨ga, i * 8, none⟩ := by
   intro p h; obtain ⟨g2, cp2, h3, h4⟩ := h i hI; have := congrArg (fun v => match v with | Value.slice (some a) _ _ => a.block | _ => 0) (eva2.symm.trans h3); dsimp only at this; rw [h4, this]
  obtain ⟨HPP, HG, HN, HNI, EV2, OR⟩ := hD6 hP hg hn hN eva2 hOR; have HQN := hD (And.intro hn1 hs1); have H66 := hD h66
  by_cases h1 : fr < N
  rotate_left
  ·have hno : xr[fr.toNat]? = none := List.getElem?_eq_none (by omega); have HDO := hD (hdo1.trans (show actS m i ⟨⟨xn, xs, xo, xd, xx⟩, xp, xc, xr⟩ (⟨3, fn, fs, fr, fe, fp, fq, fo, fd, fa, ft, fh, fc, fx⟩ : FX) = none by unfold actS; dsimp only; rw [if_neg (show ¬ (3 : Int) = 2 by decide), if_pos rfl, hno])); have g1 : decide (fr ≥ N) = true := dT (by omega); clear h1 hno hI E Hs ok hR eva evp hl hnp hlA l8 p8 h6 hpar k1 rf ha hn1 hs1 hoa hdo1 hg h66 hi hgi eva2 hcpa hgB hgl hfz hcell hcell2 hn hv hOR hP; go_enter Tryz.func146, Tryz.ntmps146; go_wp2_with (go_at_call 182; (with_reducible refine HAC.out.mono ?_); rintro e' w2 ⟨p, rfl, -, hs, hk⟩; obtain rfl := HPP.out p hs; have kk := hk; obtain ⟨f0, f1, f2, f3, f4, f5, f6, f7, f8, f9, f10, f11, f12, f13, x2, x6, x7⟩ := kZ17 kk f0 f1 f2 f3 f4 f5 f6 f7 f8 f9 f10 f11 f12 f13 x2 x6 x7; have K2 := hD kk; clear hk kk hs)
   go_region
   go_wp2; go_ret; exact .inl ⟨HDO.out, rfl, kT K1.out (dQ K2.out)⟩
  have g1 : decide (fr ≥ N) = false := dF (by omega); have hfn : fr.toNat < xr.length := by omega
  obtain ⟨⟨rn, rp, ⟨zp, ze, zt, zh⟩⟩, hr⟩ : ∃ r, xr[fr.toNat]? = some r := ⟨_, List.getElem?_eq_getElem hfn⟩
  have hog := hoa.g _ (List.mem_of_getElem? hr); have hoz := hog.2.2.2.2; have hzs : SeatM.ok ⟨zp, ze, ft, fh⟩ := by
   have h1 := hoz.p; have h2 := hoz.2; have h3 := okF_of hR
   simp [okF, seatX] at h3
   unfold SeatM.ok i64M; dsimp only at h1 h2 ⊢
   split at h3 <;> omega
  obtain ⟨gr, ck, exb, hck, hgrB, hgrl, hfzr, hcr⟩ := cQ (E := rgE) hOR hn (by omega : fr.toNat < n); have hcr2 : ∀ (j : Nat) (u : Value), j < rgE.k → (rgE.enc (xr[fr.toNat]'hfn))[j]? = some u → w.cell? ⟨gr, fr.toNat * rgE.k + j, none⟩ = some u := hcr; rw [(List.getElem?_eq_some_iff.1 hr).2, show rgE.k = 6 from rfl] at hcr2; have exb := congrArg (fun v => match v with | Value.slice a _ _ => a | _ => none) exb; dsimp only at exb; subst exb; have y2 : W.cell? ⟨gr, fr.toNat * 6 + 2, none⟩ = some (.int .i64 zp) := kZ k1 (hcr2 2 _ (by decide) rfl); have y3 : W.cell? ⟨gr, fr.toNat * 6 + 3, none⟩ = some (.int .i64 ze) := kZ k1 (hcr2 3 _ (by decide) rfl); have y4 : W.cell? ⟨gr, fr.toNat * 6 + 4, none⟩ = some (.int .i64 zt) := kZ k1 (hcr2 4 _ (by decide) rfl); have y5 : W.cell? ⟨gr, fr.toNat * 6 + 5, none⟩ = some (.int .i64 zh) := kZ k1 (hcr2 5 _ (by decide) rfl); have HZR := hD (show ∀ w', Kp w w' → ∀ j, w'.frozen? ⟨gr, j, none⟩ = false from fun w' h j => by rw [Below.frozen h hgrl]; exact hfzr j)
  have HR := hD hr; have hsi := fun w1 (hk : Kp W w1) => lsSits (w := w1) (E.kp (kT k1 hk)) (g := gr) (off := fr.toNat * 6 + 2) (zp := zp) (ze := ze) (zt := zt) (zh := zh) (kZ hk y2) (kZ hk y3) (kZ hk y4) 3 fn fs fr fe fp fq fo fd fa ft fh fc fx hzs
  have hact : actS m i ⟨⟨xn, xs, xo, xd, xx⟩, xp, xc, xr⟩ (⟨3, fn, fs, fr, fe, fp, fq, fo, fd, fa, ft, fh, fc, fx⟩ : FX) = if turnOk ⟨zp, ze, zt, zh⟩ ft fh = true then some { m with acts := m.acts.set i ⟨⟨xn, xs, xo, xd, xx⟩, xp, xc, xr.set fr.toNat ⟨rn, rp, ⟨zp, ze, ft, fh⟩⟩⟩ } else none := by
   unfold actS; dsimp only; rw [if_neg (show ¬ (3 : Int) = 2 by decide), if_pos rfl, hr]; dsimp only; rw [turnS_eq]
   by_cases ht : turnOk ⟨zp, ze, zt, zh⟩ ft fh = true
   ·rw [if_pos ht, if_pos ht]
    rfl
   ·rw [if_neg ht, if_neg ht]
    rfl
  obtain ⟨tk, htk⟩ : ∃ b, turnOk ⟨zp, ze, zt, zh⟩ ft fh = b := ⟨_, rfl⟩
  have hdo2 := hdo1.trans hact; rw [htk] at hsi hdo2; obtain ⟨HSI, HDO⟩ := hD2 hsi hdo2; clear hI hact hdo2 hsi htk hoz hzs hog hr hfn hck hgrB hgrl hfzr hcr hcr2 E Hs ok hR eva evp hl hnp hlA l8 p8 h6 hpar k1 rf ha hn1 hs1 hoa hdo1 hg h66 hi hgi eva2 hcpa hgB hgl hfz hcell hcell2 hn hv hOR hP; go_enter Tryz.func146, Tryz.ntmps146; go_wp2_with (go_at_call 182; (with_reducible refine HAC.out.mono ?_); rintro e' w2 ⟨p, rfl, -, hs, hk⟩; obtain rfl := HPP.out p hs; have kk := hk; obtain ⟨f0, f1, f2, f3, f4, f5, f6, f7, f8, f9, f10, f11, f12, f13, x2, x6, x7⟩ := kZ17 kk f0 f1 f2 f3 f4 f5 f6 f7 f8 f9 f10 f11 f12 f13 x2 x6 x7; have K2 := hD kk; clear hk kk hs)
  go_region
  go_wp2_with fail
  obtain ⟨W2, hW2⟩ : ∃ x, w2.drew = x := ⟨_, rfl⟩
  have k2 : Kp w2 W2 := by rw [← hW2]; exact dQ (Kp.refl w2)
  rw [hW2]; have x7 := kZ k2 x7; have kk := k2; obtain ⟨f0, f1, f2, f3, f4, f5, f6, f7, f8, f9, f10, f11, f12, f13⟩ := kZ14 kk f0 f1 f2 f3 f4 f5 f6 f7 f8 f9 f10 f11 f12 f13; have K3 := hD (kT K2.out k2); clear k2 kk hW2; go_still_tail 9, (by kernel_rfl)
  change wpList _ _ _ _ _ W2.drew
  go_wp2_with (go_at_call 186; (with_reducible refine (HSI.out _ (dQ K3.out)).mono ?_); rintro e' w5 ⟨v, rfl, hk5, hn5, hf5⟩; have K5 := hD (kT (dQ K3.out) hk5); obtain ⟨N5, F5⟩ := hD2 hn5 hf5; clear hk5 hn5 hf5)
  go_ret
  cases tk with
  | false =>
   exact .inl ⟨HDO.out, by rw [← N5.out rfl]; rfl, kT K1.out K5.out⟩
  | true =>
   obtain ⟨b5, b3, hv, r5, r3, -, -⟩ := F5.out rfl; refine .inr ⟨_, HDO.out, _, by rw [← hv]; rfl, kT K1.out K5.out, ?_⟩
   refine (lsSit1 r5 r3 (kZ K5.out y2) (kZ K5.out y3) (kZ K5.out y4) (kZ K5.out y5) (HZR.out w5 (kT K1.out K5.out))).mono fun r w6 ⟨h1, h2⟩ => ⟨h1, ?_⟩
   have FIN := (HS.out.kp (kT K1.out K5.out)).seatR tyL_ok HG.out HR.out ⟨zp, ze, ft, fh⟩; rw [h2]; exact ⟨_, va, vp, FIN.1, FIN.2⟩
end Go.Proofs.YtlmlmhmhgdjhnaaGreatDoor
