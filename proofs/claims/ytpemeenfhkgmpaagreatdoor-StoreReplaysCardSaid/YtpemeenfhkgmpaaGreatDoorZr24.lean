/- Parts of this proof (own work). -/
import Derived.Test.YtpemeenfhkgmpaaGreatDoorZr22
import Derived.Test.YtpemeenfhkgmpaaGreatDoorZr23
set_option maxRecDepth 100000
set_option maxHeartbeats 40000000
namespace Go.Proofs.YtpemeenfhkgmpaaGreatDoor
open Go.RowKit Go.ChangeShapes Go.WideShapes
variable {w0 w w' W w3 : World} {B q : Nat} {m : StM} {gs : List AcG} {va vp : Value}
variable {ads : List Addr}
theorem lsActivity (H : GS tyL B q m gs va vp w) (h8 : gs.length ≤ 8) (fk : Int) (fn fs fr fe fp fq fo fd fa ft fh fc : Int) (fx : Nat) : Calls Tryz.prog 108 #[.pointer (some ⟨q, 0, none⟩), .agg #[fk, fn, fs, fr, fe, fp, fq, fo, fd, fa, ft, fh, fc, .float .f64 fx]] w fun r w' => ∃ p, r = .returned (.pointer p) ∧ (findS m.acts fn fs = none → p = none) ∧ (∀ i, findS m.acts fn fs = some i → ∃ ga cp, va = .slice (some ⟨ga, 0, none⟩) gs.length cp ∧ p = some ⟨ga, i * 8, none⟩) ∧ Kp w w' := by
 have hfs : findS m.acts fn fs = gs.findIdx? (fun g => (fun a : AcM => decide (a.c.n = fn ∧ a.c.s = fs)) g.a) := by unfold findS; rw [H.acts, fi_map]
 rw [hfs]; obtain ⟨FS, hFS⟩ : ∃ x, gs.findIdx? (fun g => (fun a : AcM => decide (a.c.n = fn ∧ a.c.s = fs)) g.a) = x := ⟨_, rfl⟩
 rw [hFS]; have HFS := hD hFS; clear hFS; obtain ⟨a0, c0, eva⟩ := H.vForm; subst eva; obtain ⟨len, hl⟩ : ∃ x, gs.length = x := ⟨_, rfl⟩
 have e0 : w.cell? ⟨q, 2, none⟩ = some (.slice a0 len c0) := by rw [← hl]; exact cU (i := 2) H.row rfl
 have ho : w.ownsRow B 65 8 (.slice a0 len c0) len (acE.row gs) := by have := H.oa; rw [hl] at this; exact this
 obtain ⟨L, hL⟩ : ∃ L : Int, (len : Int) = L := ⟨_, rfl⟩
 have kb := kA w (.cells #[fk, fn, fs, fr, fe, fp, fq, fo, fd, fa, ft, fh, fc, .float .f64 fx] 39); have rb := (mH w (.cells #[fk, fn, fs, fr, fe, fp, fq, fo, fd, fa, ft, fh, fc, .float .f64 fx] 39))
 obtain ⟨W, hW⟩ : ∃ W, w.alloc (.cells #[fk, fn, fs, fr, fe, fp, fq, fo, fd, fa, ft, fh, fc, .float .f64 fx] 39) = W := ⟨_, rfl⟩
 rw [hW] at kb rb; have e1 := kZ kb e0; have HO := hD (oK ho kb); have HL := hD hl; have H8 := hD h8; have HLL := hD hL; have KB := hD kb; have RB := hD rb; have E1 := hD e1; rw [hl]; clear H h8 ho hl kb rb hfs; go_enter Tryz.func108, Tryz.ntmps108; go_wp2; go_loopw [11] (fun i wr => ∃ j : Nat, j ≤ len ∧ i = .int .i64 j ∧ (∀ k (hk : k < gs.length), k < j → ¬ (fun a : AcM => a.c.n = fn ∧ a.c.s = fs) gs[k].a) ∧ Kp W wr) (fun i _ => len - (intOf i).toNat)
 case atStart => exact ⟨0, Nat.zero_le _, rfl, fun k _ h => by omega, Kp.refl _⟩
 case round =>
  obtain ⟨j, hj, rfl, hq, hk⟩ := hrel; have KR := hD hk; have HQ := hD hq; obtain ⟨jj, hjj⟩ : ∃ jj : Int, (j : Int) = jj := ⟨_, rfl⟩
  rw [hjj]; have HJ := hD hjj
  by_cases hlt : j < len
  ·have hjl : jj < L := by omega
   have hj0 : 0 ≤ jj := by omega
   have hL8 : L ≤ 8 := by have := H8.out; have := HL.out; omega
   have htn : jj.toNat = j := by omega
   have ow := oK HO.out hk; obtain ⟨g, cp, ev, hcp, hgB, hgl, hfz, hcell⟩ := cQ (E := acE) ow HL.out hlt; have ev := congrArg (fun v => match v with | Value.slice a _ _ => a | _ => none) ev; dsimp only at ev; subst ev; have hjo : j < gs.length := by have := HL.out; omega
   obtain ⟨⟨⟨⟨xn, xs, xo, xd, xx⟩, xp, xc, xr⟩, xb, xk⟩, hx⟩ : ∃ x, gs[j]'hjo = x := ⟨_, rfl⟩
   rw [hx, show acE.k = 8 from rfl, ← htn] at hcell; obtain ⟨xv, hxv⟩ : ∃ v, (⟨⟨⟨xn, xs, xo, xd, xx⟩, xp, xc, xr⟩, xb, xk⟩ : AcG).v = v := ⟨_, rfl⟩
   have x0 : wr.cell? ⟨g, jj.toNat * 8, none⟩ = some (.int .i64 xn) := hcell 0 _ (by decide) rfl; have x1 : wr.cell? ⟨g, jj.toNat * 8 + 1, none⟩ = some (.int .i64 xs) := hcell 1 _ (by decide) rfl; have x2 : wr.cell? ⟨g, jj.toNat * 8 + 2, none⟩ = some (.int .i64 xo) := hcell 2 _ (by decide) rfl; have x3 : wr.cell? ⟨g, jj.toNat * 8 + 3, none⟩ = some (.int .i64 xd) := hcell 3 _ (by decide) rfl; have x4 : wr.cell? ⟨g, jj.toNat * 8 + 4, none⟩ = some (.float .f64 xx) := hcell 4 _ (by decide) rfl; have x5 : wr.cell? ⟨g, jj.toNat * 8 + 5, none⟩ = some (.int .i64 xp) := hcell 5 _ (by decide) rfl; have x6 : wr.cell? ⟨g, jj.toNat * 8 + 6, none⟩ = some (.int .i64 xc) := hcell 6 _ (by decide) rfl; have x7 : wr.cell? ⟨g, jj.toNat * 8 + 7, none⟩ = some xv := by rw [← hxv]; exact hcell 7 _ (by decide) rfl
   obtain ⟨av, nv, cv, exv⟩ : ∃ a n c, xv = .slice a n c := ⟨_, _, _, hxv.symm⟩
   subst exv; have e2 := kZ hk e1; have b1 : wr.cell? ⟨w.heap.size, 1, none⟩ = some (.int .i64 fn) := kZ hk (cU (i := 1) RB.out rfl); have b2 : wr.cell? ⟨w.heap.size, 2, none⟩ = some (.int .i64 fs) := kZ hk (cU (i := 2) RB.out rfl); have heq : ∀ w, (binOp .eql 36 (.agg #[xn, xs]) (.agg #[fn, fs])).run Tryz.prog w = .ok (.bool (decide (xn = fn ∧ xs = fs))) w := fun w => act_eql9 xn xs fn fs w
   have heg := fun op x y (w : World) => act_guard9 op x y xn xs fn fs w
   have HLT := hD hlt; have HX := hD hx
   by_cases he : xn = fn ∧ xs = fs
   ·have HF := hD (fi_at (p := (fun g : AcG => (fun a : AcM => decide (a.c.n = fn ∧ a.c.s = fs)) g.a)) hjo (fun i hi hij => dF (hq i hi hij)) (by show decide _ = true; rw [hx]; exact dT he)); have hd := dT he; rw [hd] at heq; have HTN := hD htn; clear hcell hx hk hq hjj hj hlt he htn hxv ow hd; go_wp2_with fail
    go_region
    go_wp2; go_ret; refine ⟨_, rfl, fun e => ?_, fun i e => ?_, kT KB.out (dQ KR.out)⟩
    ·have e := HFS.out.trans e; rw [HF.out] at e; cases e
    ·have e := HFS.out.trans e; rw [HF.out] at e; injection e with e
     exact ⟨_, _, rfl, by rw [← e, HTN.out]⟩
   ·have HE := hD he; have hd := dF he; rw [hd] at heq; have hw1 : wrap64 (jj + 1) = jj + 1 := IntWalk.wrap64_in _ (by omega); clear hcell hx hk hq hjj hj hlt he htn hxv ow hd; go_wp2_with fail
    go_region
    go_wp2; go_roundw
    case rel => exact ⟨j + 1, by have := HLT.out; omega, by have := HJ.out; rw [show ((j + 1 : Nat) : Int) = jj + 1 by omega], fun k hk hk2 => by
     rcases Nat.lt_or_eq_of_le (Nat.le_of_lt_succ hk2) with g | rfl
     ·exact HQ.out k hk g
     ·rw [HX.out]; exact HE.out, dQ KR.out⟩
    case measure => have := HJ.out; have := HLT.out; simp [intOf]; omega
  ·have hje : ¬ jj < L := by omega
   have HN := hD (fi_no (p := (fun g : AcG => (fun a : AcM => decide (a.c.n = fn ∧ a.c.s = fs)) g.a)) (l := gs) (fun i hi => dF (hq i hi (by have := HL.out; omega)))); clear hk hq hjj hj hlt; go_wp2; go_ret; exact ⟨_, rfl, fun _ => rfl, fun i e => by (have e := HFS.out.trans e; rw [HN.out] at e; cases e), kT KB.out KR.out⟩
theorem lsFree (H : GS tyL B q m gs va vp w) (h8 : gs.length ≤ 8) (p8 : m.parts.length ≤ 8) (h6 : ∀ a ∈ m.acts, a.regs.length ≤ 6) (hp : ∀ a ∈ m.acts, 0 ≤ a.par ∧ a.par ≤ 8) (a : Int) (ha : 0 ≤ a ∧ a ≤ 8) :
  Calls Tryz.prog 106 #[.pointer (some ⟨q, 0, none⟩), .int .i64 a] w fun r w' => r = .returned (.bool (decide (a = 0) || ((partQ m (a - 1)).isSome && !(childS m.acts (a - 1)).isSome))) ∧ Kp w w' := by
 have _u := p8; clear _u
 by_cases h0 : a = 0
 ·subst h0; clear H h8 p8 h6 hp ha; go_enter Tryz.func106, Tryz.ntmps106; go_wp2; go_ret; exact ⟨rfl, Kp.refl _⟩
 ·have g0 : (a == 0) = false := by simpa using h0
  rw [dF h0]; obtain ⟨p, hpp⟩ : ∃ p, a - 1 = p := ⟨_, rfl⟩
  rw [hpp]; have hw : IntKind.i64.wrap p = p := IntWalk.i64_in p (by omega); have hw2 : wrap64 p = p := IntWalk.wrap64_in p (by omega); have HPA := hD (stPart H p); have HCH := hD (fun w1 (hk : Kp w w1) => stChild (H.kp hk) h8 h6 p hp); obtain ⟨t1, ht1⟩ : ∃ b, (partQ m p).isSome = b := ⟨_, rfl⟩
  obtain ⟨t2, ht2⟩ : ∃ b, (childS m.acts p).isSome = b := ⟨_, rfl⟩
  rw [ht1] at HPA ⊢; rw [ht2] at HCH ⊢; have hsf := sF; clear H h8 p8 h6 hp ha h0 ht1 ht2
  cases t1 <;> cases t2 <;> (go_enter Tryz.func106, Tryz.ntmps106; go_wp2_with (first | (go_at_call 25; (with_reducible refine HPA.out.mono ?_); rintro e' w2 ⟨⟨yn, ys, yr, ⟨y1, y2, y3, y4⟩⟩, rfl, -, hk⟩; have K2 := hD (kT hk (kA w2 (.cells #[yn, ys, yr, y1, y2, y3, y4] 75))); dsimp only [paV]; clear hk) | (go_at_call 24; (with_reducible refine (HCH.out _ K2.out).mono ?_); rintro e' w3 ⟨v, rfl, hO, hk⟩; obtain ⟨xn, xs, xo, xd, xx, xp, xc, av, nv, cv, rfl⟩ := hO.form; have K3 := hD (kT K2.out (kT hk (kA w3 (.cells #[xn, xs, xo, xd, .float .f64 xx, xp, xc, .slice av nv cv] 65)))); clear hk hO)); go_ret; exact ⟨rfl, K3.out⟩)
theorem lsBegun (E : EP [0, 3, 4, 8, 13] ads w) (fk : Int) (fn fs fr fe fp fq fo fd fa ft fh fc : Int) (fx : Nat) (e : Int) (hq : fq = 1 ∨ fq = 2) (he : e = 1 ∨ e = 2) : Calls Tryz.prog 112 #[.agg #[fk, fn, fs, fr, fe, fp, fq, fo, fd, fa, ft, fh, fc, .float .f64 fx], .int .i64 e] w fun r w' => r = .returned (.agg #[fq, e, .int .i64 1, .int .i64 0]) ∧ Kp w w' := by
 have k1 : Kp w ((w.alloc (.cells #[fk, fn, fs, fr, fe, fp, fq, fo, fd, fa, ft, fh, fc, .float .f64 fx] 39)).alloc (.cells #[.int .i64 0, .int .i64 0, .int .i64 0, .int .i64 0] 67)) := kT (kA _ _) (kA _ _); have r1 := nX0 w (.cells #[fk, fn, fs, fr, fe, fp, fq, fo, fd, fa, ft, fh, fc, .float .f64 fx] 39) (.cells #[.int .i64 0, .int .i64 0, .int .i64 0, .int .i64 0] 67); have r2 := nX1 w (.cells #[fk, fn, fs, fr, fe, fp, fq, fo, fd, fa, ft, fh, fc, .float .f64 fx] 39) (.cells #[.int .i64 0, .int .i64 0, .int .i64 0, .int .i64 0] 67); obtain ⟨W, hW⟩ : ∃ W, ((w.alloc (.cells #[fk, fn, fs, fr, fe, fp, fq, fo, fd, fa, ft, fh, fc, .float .f64 fx] 39)).alloc (.cells #[.int .i64 0, .int .i64 0, .int .i64 0, .int .i64 0] 67)) = W := ⟨_, rfl⟩
 rw [hW] at k1 r1 r2; have hr : rightT fq e = true := by unfold rightT; simp [hq, he]
 have hnew := msNew_any (ads := ads) fq e (by unfold i64M; omega) (by unfold i64M; omega) W (tabC_of ads W ((E.kp k1).sub (by decide))) ((E.kp k1).cell 13 (by decide)); rw [show newS fq e = ⟨fq, e, 1, 0⟩ by simp [newS, hr], if_pos hr, eN] at hnew; dsimp only [seatV] at hnew; have HNEW := hD hnew; have K1 := hD k1; have R2 := hD r2; have f6 : W.cell? ⟨w.heap.size, 6, none⟩ = some (.int .i64 fq) := cU (i := 6) r1 rfl; clear E hq he hr hnew k1 r1 r2; go_enter Tryz.func112, Tryz.ntmps112; go_wp2_with (go_at_call 147; (with_reducible refine HNEW.out.mono ?_); rintro e' w3 ⟨rfl, hk⟩; have K3 := hD (kT K1.out (kT hk (kA w3 (.cells #[fq, e, .int .i64 1, .int .i64 0] 67)))); have r3 := rZ (kT hk (kA w3 (.cells #[fq, e, .int .i64 1, .int .i64 0] 67))) R2.out; obtain ⟨u0, u1, u2, u3⟩ := cells_4 r3; have fz3 := fQ r3; obtain ⟨x0, x1, x2, x3⟩ := cells_4 (mH w3 (.cells #[fq, e, .int .i64 1, .int .i64 0] 67)); have R3 := hD r3; clear hk r3)
 refine bodyPost_ret (results_cell_row (p := 4) rfl _ _ (w.heap.size + 1) 67 _ (0, 0) _ rfl (set_4 (.int .i64 fq) (.int .i64 e) (.int .i64 1) (.int .i64 0) R3.out) Tryz.underlying67 rfl (by kernel_rfl)) rfl ?_
 exact ⟨rfl, set_4_kp K3.out (by omega) _ _ _ _⟩
theorem lsSits (E : EP [0, 3, 4, 8, 13] ads w) {g off : Nat} {zp ze zt zh : Int} (c0 : w.cell? ⟨g, off, none⟩ = some (.int .i64 zp)) (c1 : w.cell? ⟨g, off + 1, none⟩ = some (.int .i64 ze)) (c2 : w.cell? ⟨g, off + 2, none⟩ = some (.int .i64 zt)) (fk : Int) (fn fs fr fe fp fq fo fd fa ft fh fc : Int) (fx : Nat) (hz : SeatM.ok ⟨zp, ze, ft, fh⟩) :
  Calls Tryz.prog 113 #[.agg #[fk, fn, fs, fr, fe, fp, fq, fo, fd, fa, ft, fh, fc, .float .f64 fx], .pointer (some ⟨g, off, none⟩)] w fun r w' => ∃ v, r = .returned v ∧ Kp w w' ∧ (turnOk ⟨zp, ze, zt, zh⟩ ft fh = false → v = .nilFunc) ∧ (turnOk ⟨zp, ze, zt, zh⟩ ft fh = true → ∃ b5 b3, v = .func (.func 149) #[] #[.pointer (some ⟨b5, 0, none⟩), .pointer (some ⟨b3, 0, none⟩)] ∧ w'.heap[b5]? = some (.cells #[zp, ze, ft, fh] 67) ∧ w'.heap[b3]? = some (.cells #[.pointer (some ⟨g, off, none⟩)] 189) ∧ w.heap.size ≤ b5 ∧ w.heap.size ≤ b3) := by
 have k1 : Kp w ((w.alloc (.cells #[fk, fn, fs, fr, fe, fp, fq, fo, fd, fa, ft, fh, fc, .float .f64 fx] 39)).alloc (.cells #[.pointer (some ⟨g, off, none⟩)] 189)) := kT (kA _ _) (kA _ _); have r1 := nX0 w (.cells #[fk, fn, fs, fr, fe, fp, fq, fo, fd, fa, ft, fh, fc, .float .f64 fx] 39) (.cells #[.pointer (some ⟨g, off, none⟩)] 189); have r2 := nX1 w (.cells #[fk, fn, fs, fr, fe, fp, fq, fo, fd, fa, ft, fh, fc, .float .f64 fx] 39) (.cells #[.pointer (some ⟨g, off, none⟩)] 189); obtain ⟨W, hW⟩ : ∃ W, ((w.alloc (.cells #[fk, fn, fs, fr, fe, fp, fq, fo, fd, fa, ft, fh, fc, .float .f64 fx] 39)).alloc (.cells #[.pointer (some ⟨g, off, none⟩)] 189)) = W := ⟨_, rfl⟩
 have hsz : w.heap.size ≤ W.heap.size := by rw [← hW]; simp; omega
 rw [hW] at k1 r1 r2; have f10 : W.cell? ⟨w.heap.size, 10, none⟩ = some (.int .i64 ft) := cU (i := 10) r1 rfl; have f11 : W.cell? ⟨w.heap.size, 11, none⟩ = some (.int .i64 fh) := cU (i := 11) r1 rfl; have b3 : W.cell? ⟨w.heap.size + 1, 0, none⟩ = some (.pointer (some ⟨g, off, none⟩)) := cU (i := 0) r2 rfl; have x0 := kZ k1 c0; have x1 := kZ k1 c1; have x2 := kZ k1 c2; have hri := fun w1 (hk : Kp w w1) => msRight_any (ads := ads) ⟨zp, ze, ft, fh⟩ hz w1 (tabC_of ads w1 ((E.kp hk).sub (by decide)))
 dsimp only [seatV] at hri; obtain ⟨rt, hrt⟩ : ∃ b, SeatM.right ⟨zp, ze, ft, fh⟩ = b := ⟨_, rfl⟩
 rw [hrt] at hri; have htk : turnOk ⟨zp, ze, zt, zh⟩ ft fh = (decide (zt ≠ 14) && rt) := by unfold turnOk; rw [hrt]
 rw [htk]; have HRI := hD hri; have K1 := hD k1; have R2 := hD r2; have HSZ := hD hsz; clear E c0 c1 c2 hz hri k1 r1 r2 hsz htk hrt; go_enter Tryz.func113, Tryz.ntmps113; go_wp2_with fail
 obtain ⟨WD, hWD⟩ : ∃ x, W.drew = x := ⟨_, rfl⟩
 have kD : Kp W WD := by rw [← hWD]; exact dQ (Kp.refl W)
 have HWD := hD hWD; clear hWD; refine wp_region_held_drew (S := fun w' => Kp W w') (by kernel_rfl) ?_ (fun hH => ?_)
 ·exact by rw [HWD.out]; exact kD
 rw [HWD.out] at hH ⊢; have hDD : Kp W WD := hH; refine tkW ?_ 0 ?_ ?_; rotate_left
 ·intro w hZ; have a0 := kZ hZ x0; have a1 := kZ hZ x1; have a2 := kZ hZ b3; have a3 := kZ hZ f10; have a4 := kZ hZ f11; go_simp; try rfl
 go_simp; refine tkW ?_ 1 ?_ ?_; rotate_left
 ·intro w hZ; go_simp; try rfl
 go_simp; refine tkW ?_ 2 ?_ ?_; rotate_left
 ·intro w hZ; go_simp; try rfl
 go_simp; refine tkW ?_ 3 ?_ ?_; rotate_left
 ·intro w hZ; have a0 := kZ hZ x0; have a1 := kZ hZ x1; have a2 := kZ hZ b3; have a3 := kZ hZ f10; have a4 := kZ hZ f11; go_simp; try rfl
 go_simp; refine tkW ?_ 4 ?_ ?_; rotate_left
 ·intro w hZ; have a0 := kZ hZ x0; have a1 := kZ hZ x1; have a2 := kZ hZ b3; have a3 := kZ hZ f10; have a4 := kZ hZ f11; go_simp; try rfl
 go_simp; refine tkW ?_ 5 ?_ ?_; rotate_left
 ·intro w hZ; go_simp; try rfl
 go_simp; refine tkW ?_ 6 ?_ ?_; rotate_left
 ·intro w hZ; go_simp; try rfl
 go_simp; refine tkW ?_ 7 ?_ ?_; rotate_left
 ·intro w hZ; have a0 := kZ hZ x0; have a1 := kZ hZ x1; have a2 := kZ hZ b3; have a3 := kZ hZ f10; have a4 := kZ hZ f11; go_simp; try rfl
 go_simp; refine tkW ?_ 8 ?_ ?_; rotate_left
 ·intro w hZ; go_simp; try rfl
 go_simp; refine tkW ?_ 9 ?_ ?_; rotate_left
 ·intro w hZ; have a0 := kZ hZ x0; have a1 := kZ hZ x1; have a2 := kZ hZ b3; have a3 := kZ hZ f10; have a4 := kZ hZ f11; go_simp; try rfl
 go_simp; refine tkW ?_ 10 ?_ ?_; rotate_left
 ·intro w hZ; go_simp; try rfl
 go_simp; refine tkW ?_ 11 ?_ ?_; rotate_left
 ·intro w hZ; have a0 := kZ hZ x0; have a1 := kZ hZ x1; have a2 := kZ hZ b3; have a3 := kZ hZ f10; have a4 := kZ hZ f11; go_simp; try rfl
 go_simp; refine tkW ?_ 12 ?_ ?_; rotate_left
 ·intro w hZ; go_simp; try rfl
 go_simp; refine rdW 13 fun K hK => ?_
 go_simp; refine hK.out _ _ ?_ (fun hH => ?_)
 ·exact kT hH (kA _ _)
 clear hK K; obtain ⟨Y13, hY13⟩ : ∃ x, WD.alloc (.cells #[.int .i64 0, .int .i64 0, .int .i64 0, .int .i64 0] 67) = x := ⟨_, rfl⟩
 have r13 : Y13.heap[WD.heap.size]? = some (.cells #[.int .i64 0, .int .i64 0, .int .i64 0, .int .i64 0] 67) := by rw [← hY13]; exact (mH WD (.cells #[.int .i64 0, .int .i64 0, .int .i64 0, .int .i64 0] 67))
 have b13 : W.heap.size ≤ WD.heap.size := kS hDD; obtain ⟨p13, hp13⟩ : ∃ x, WD.heap.size = x := ⟨_, rfl⟩
 rw [hp13] at r13 b13; rw [hY13] at hH ⊢
 try rw [hp13]
 clear hY13 hp13; refine rdW 14 fun K hK => ?_
 obtain ⟨v0, v1, v2, v3⟩ := cells_4 r13; have fz5 := fQ r13; go_simp; refine hK.out _ _ ?_ (fun hH => ?_)
 ·exact set_4_kp hH b13 _ _ _ _
 clear hK K; obtain ⟨w6, hw6⟩ : ∃ x, (((Y13.setCell ⟨p13, 0, none⟩ (.int .i64 zp)).setCell ⟨p13, 1, none⟩ (.int .i64 ze)).setCell ⟨p13, 2, none⟩ (.int .i64 ft)).setCell ⟨p13, 3, none⟩ (.int .i64 fh) = x := ⟨_, rfl⟩
 have r10 : w6.heap[p13]? = some (.cells #[zp, ze, ft, fh] 67) := by rw [← hw6]; exact set_4 _ _ _ _ r13
 rw [hw6] at hH ⊢; have kw6 : Kp W w6 := hH; clear hw6 v0 v1 v2 v3 fz5; refine wpAnyH_done (by kernel_rfl) ?_ _
 have x2 := kZ kw6 x2; have b3 := kZ kw6 b3; obtain ⟨s0, s1, s2, s3⟩ := cells_4 r10; have KW6 := hD kw6; have R10 := hD r10; have B13 := hD b13; clear kw6 hH hDD r13 r10
 by_cases h14 : zt = 14
 ·subst h14; go_wp2; go_ret; exact ⟨_, rfl, kT K1.out KW6.out, fun _ => rfl, fun e => by (simp at e)⟩
 ·have g1 : (zt == 14) = false := by simpa using h14
  have g2 : decide (zt ≠ 14) = true := dT h14; have G2 := hD g2; clear g2 h14
  cases rt with
  | false =>
   go_wp2_with (go_at_call 148; (with_reducible refine (HRI.out _ (kT K1.out KW6.out)).mono ?_); rintro e' w7 ⟨rfl, hk⟩; have K7 := hD (kT K1.out (kT KW6.out hk)); clear hk)
   go_ret; exact ⟨_, rfl, K7.out, fun _ => rfl, fun e => by (simp at e)⟩
  | true =>
   go_wp2_with (go_at_call 148; (with_reducible refine (HRI.out _ (kT K1.out KW6.out)).mono ?_); rintro e' w7 ⟨rfl, hk⟩; have K7 := hD (kT K1.out (kT KW6.out hk)); have R7 := hD (rZ hk R10.out); have Q7 := hD (rZ (kT KW6.out hk) R2.out); clear hk)
   go_ret; exact ⟨_, rfl, K7.out, fun e => by (rw [G2.out] at e; cases e), fun _ => ⟨p13, w.heap.size + 1, rfl, R7.out, Q7.out, Nat.le_trans HSZ.out B13.out, Nat.le_succ _⟩⟩
theorem lsSit1 {b5 b3 g off : Nat} {zp ze ft fh : Int} {u0 u1 u2 u3 : Value} (r5 : w.heap[b5]? = some (.cells #[zp, ze, ft, fh] 67)) (r3 : w.heap[b3]? = some (.cells #[.pointer (some ⟨g, off, none⟩)] 189))
  (c0 : w.cell? ⟨g, off, none⟩ = some u0) (c1 : w.cell? ⟨g, off + 1, none⟩ = some u1) (c2 : w.cell? ⟨g, off + 2, none⟩ = some u2) (c3 : w.cell? ⟨g, off + 3, none⟩ = some u3) (hz : ∀ i, w.frozen? ⟨g, i, none⟩ = false) :
  Calls Tryz.prog 149 #[.pointer (some ⟨b5, 0, none⟩), .pointer (some ⟨b3, 0, none⟩)] w fun r w' => r = .returned (.tuple #[]) ∧ w' = set4Q w g off ⟨zp, ze, ft, fh⟩ := by
 obtain ⟨y0, y1, y2, y3⟩ := cells_4 r5; have p0 : w.cell? ⟨b3, 0, none⟩ = some (.pointer (some ⟨g, off, none⟩)) := cU (i := 0) r3 rfl; have z0 := hz off; have z1 := hz (off + 1); have z2 := hz (off + 2); have z3 := hz (off + 3); clear r5 r3; go_enter Tryz.func149, Tryz.ntmps149; go_wp2; go_end0
 exact ⟨rfl, rfl⟩
end Go.Proofs.YtpemeenfhkgmpaaGreatDoor
