/- Parts of this proof (own work). -/
import Derived.Test.YtncoofnhifcnhaaGreatDoorZa20
set_option maxRecDepth 100000
set_option maxHeartbeats 40000000
namespace Go.Proofs.YtncoofnhifcnhaaGreatDoor
open Go.RowKit Go.ChangeShapes Go.WideShapes
variable {w0 w w' W w3 : World} {B q : Nat} {m : StM} {gs : List AcG} {va vp : Value}
variable {ads : List Addr}
theorem lsSits (E : EP [0, 3, 4, 8, 13] ads w) {g off : Nat} {zp ze zt zh : Int} (c0 : w.cell? ⟨g, off, none⟩ = some (.int .i64 zp)) (c1 : w.cell? ⟨g, off + 1, none⟩ = some (.int .i64 ze)) (c2 : w.cell? ⟨g, off + 2, none⟩ = some (.int .i64 zt)) (fk : Int) (fn fs fr fe fp fq fo fd fa ft fh fc : Int) (fx : Nat) (hz : SeatM.ok ⟨zp, ze, ft, fh⟩) :
  Calls Tryz.prog 155 #[.agg #[fk, fn, fs, fr, fe, fp, fq, fo, fd, fa, ft, fh, fc, fx], .pointer (some ⟨g, off, none⟩)] w fun r w' => ∃ v, r = .returned v ∧ Kp w w' ∧ (turnOk ⟨zp, ze, zt, zh⟩ ft fh = false → v = .nilFunc) ∧ (turnOk ⟨zp, ze, zt, zh⟩ ft fh = true → ∃ b5 b3, v = .func (.func 180) #[] #[.pointer (some ⟨b5, 0, none⟩), .pointer (some ⟨b3, 0, none⟩)] ∧ w'.heap[b5]? = some (.cells #[zp, ze, ft, fh] 69) ∧ w'.heap[b3]? = some (.cells #[.pointer (some ⟨g, off, none⟩)] 218) ∧ w.heap.size ≤ b5 ∧ w.heap.size ≤ b3) := by
 have k1 : Kp w ((w.alloc (.cells #[fk, fn, fs, fr, fe, fp, fq, fo, fd, fa, ft, fh, fc, fx] 73)).alloc (.cells #[.pointer (some ⟨g, off, none⟩)] 218)) := kT (kA _ _) (kA _ _); have r1 := nX0 w (.cells #[fk, fn, fs, fr, fe, fp, fq, fo, fd, fa, ft, fh, fc, fx] 73) (.cells #[.pointer (some ⟨g, off, none⟩)] 218); have r2 := nX1 w (.cells #[fk, fn, fs, fr, fe, fp, fq, fo, fd, fa, ft, fh, fc, fx] 73) (.cells #[.pointer (some ⟨g, off, none⟩)] 218); obtain ⟨W, hW⟩ : ∃ W, ((w.alloc (.cells #[fk, fn, fs, fr, fe, fp, fq, fo, fd, fa, ft, fh, fc, fx] 73)).alloc (.cells #[.pointer (some ⟨g, off, none⟩)] 218)) = W := ⟨_, rfl⟩
 have hsz : w.heap.size ≤ W.heap.size := by rw [← hW]; simp; omega
 rw [hW] at k1 r1 r2; have f10 : W.cell? ⟨w.heap.size, 10, none⟩ = some (.int .i64 ft) := cU (i := 10) r1 rfl; have f11 : W.cell? ⟨w.heap.size, 11, none⟩ = some (.int .i64 fh) := cU (i := 11) r1 rfl; have b3 : W.cell? ⟨w.heap.size + 1, 0, none⟩ = some (.pointer (some ⟨g, off, none⟩)) := cU (i := 0) r2 rfl; obtain ⟨x0, x1, x2⟩ := kZ3 k1 c0 c1 c2; have hri := fun w1 (hk : Kp w w1) => msRight_any (ads := ads) ⟨zp, ze, ft, fh⟩ hz w1 (tabC_of ads w1 ((E.kp hk).sub (by decide)))
 dsimp only [seatV] at hri; obtain ⟨rt, hrt⟩ : ∃ b, SeatM.right ⟨zp, ze, ft, fh⟩ = b := ⟨_, rfl⟩
 rw [hrt] at hri; have htk : turnOk ⟨zp, ze, zt, zh⟩ ft fh = (decide (zt ≠ 14) && rt) := by unfold turnOk; rw [hrt]
 rw [htk]; obtain ⟨HRI, K1, R2, HSZ⟩ := hD4 hri k1 r2 hsz; clear E c0 c1 c2 hz hri k1 r1 r2 hsz htk hrt; go_enter Tryz.func155, Tryz.ntmps155; go_wp2_with fail
 obtain ⟨WD, hWD⟩ : ∃ x, W.drew = x := ⟨_, rfl⟩
 have kD : Kp W WD := by rw [← hWD]; exact dQ (Kp.refl W)
 have HWD := hD hWD; clear hWD; refine rgW (fun w' => Kp W w') ?_ fun hH => ?_
 ·exact by rw [HWD.out]; exact kD
 rw [HWD.out] at hH ⊢; have hDD : Kp W WD := hH; refine tkP 0 ?_ (y := by intro w hZ; obtain ⟨a0, a1, a2, a3, a4⟩ := kZ5 hZ x0 x1 b3 f10 f11; go_simp; try rfl)
 go_simp; refine tkP 1 ?_
 go_simp; refine tkP 2 ?_
 go_simp; refine tkP 3 ?_ (y := by intro w hZ; obtain ⟨a0, a1, a2, a3, a4⟩ := kZ5 hZ x0 x1 b3 f10 f11; go_simp; try rfl)
 go_simp; refine tkP 4 ?_ (y := by intro w hZ; obtain ⟨a0, a1, a2, a3, a4⟩ := kZ5 hZ x0 x1 b3 f10 f11; go_simp; try rfl)
 go_simp; refine tkP 5 ?_
 go_simp; refine tkP 6 ?_
 go_simp; refine tkP 7 ?_ (y := by intro w hZ; obtain ⟨a0, a1, a2, a3, a4⟩ := kZ5 hZ x0 x1 b3 f10 f11; go_simp; try rfl)
 go_simp; refine tkP 8 ?_
 go_simp; refine tkP 9 ?_ (y := by intro w hZ; obtain ⟨a0, a1, a2, a3, a4⟩ := kZ5 hZ x0 x1 b3 f10 f11; go_simp; try rfl)
 go_simp; refine tkP 10 ?_
 go_simp; refine tkP 11 ?_ (y := by intro w hZ; obtain ⟨a0, a1, a2, a3, a4⟩ := kZ5 hZ x0 x1 b3 f10 f11; go_simp; try rfl)
 go_simp; refine tkP 12 ?_
 go_simp; refine rdW 13 fun K hK => ?_
 go_simp; refine hK.out _ _ (kT hH (kA _ _)) fun hH => ?_
 clear hK K; obtain ⟨Y13, hY13⟩ : ∃ x, WD.alloc (.cells #[(0:Int), (0:Int), (0:Int), (0:Int)] 69) = x := ⟨_, rfl⟩
 have r13 : Y13.heap[WD.heap.size]? = some (.cells #[(0:Int), (0:Int), (0:Int), (0:Int)] 69) := by rw [← hY13]; exact (mH WD (.cells #[(0:Int), (0:Int), (0:Int), (0:Int)] 69))
 have b13 : W.heap.size ≤ WD.heap.size := kS hDD; obtain ⟨p13, hp13⟩ : ∃ x, WD.heap.size = x := ⟨_, rfl⟩
 rw [hp13] at r13 b13; rw [hY13] at hH ⊢
 try rw [hp13]
 clear hY13 hp13; refine rdW 14 fun K hK => ?_
 obtain ⟨v0, v1, v2, v3⟩ := cells_4 r13; have fz5 := fQ r13; go_simp; refine hK.out _ _ (set_4_kp hH b13 _ _ _ _) fun hH => ?_
 clear hK K; obtain ⟨w6, hw6⟩ : ∃ x, (((Y13.setCell ⟨p13, 0, none⟩ (.int .i64 zp)).setCell ⟨p13, 1, none⟩ (.int .i64 ze)).setCell ⟨p13, 2, none⟩ (.int .i64 ft)).setCell ⟨p13, 3, none⟩ (.int .i64 fh) = x := ⟨_, rfl⟩
 have r10 : w6.heap[p13]? = some (.cells #[zp, ze, ft, fh] 69) := by rw [← hw6]; exact set_4 _ _ _ _ r13
 rw [hw6] at hH ⊢; have kw6 : Kp W w6 := hH; clear hw6 v0 v1 v2 v3 fz5; refine dnW ?_ _
 obtain ⟨x2, b3⟩ := kZ2 kw6 x2 b3; obtain ⟨s0, s1, s2, s3⟩ := cells_4 r10; obtain ⟨KW6, R10, B13⟩ := hD3 kw6 r10 b13; clear kw6 hH hDD r13 r10
 by_cases h14 : zt = 14
 ·subst h14; go_wp2; go_ret; exact ⟨_, rfl, kT K1.out KW6.out, fun _ => rfl, fun e => by (simp at e)⟩
 ·have g1 : (zt == 14) = false := by simpa using h14
  have g2 : decide (zt ≠ 14) = true := dT h14; have G2 := hD g2; clear g2 h14
  cases rt with
  | false =>
   go_wp2_with (go_at_call 87; (with_reducible refine (HRI.out _ (kT K1.out KW6.out)).mono ?_); rintro e' w7 ⟨rfl, hk⟩; have K7 := hD (kT K1.out (kT KW6.out hk)); clear hk)
   go_ret; exact ⟨_, rfl, K7.out, fun _ => rfl, fun e => by (simp at e)⟩
  | true =>
   go_wp2_with (go_at_call 87; (with_reducible refine (HRI.out _ (kT K1.out KW6.out)).mono ?_); rintro e' w7 ⟨rfl, hk⟩; have K7 := hD (kT K1.out (kT KW6.out hk)); have R7 := hD (rZ hk R10.out); have Q7 := hD (rZ (kT KW6.out hk) R2.out); clear hk)
   go_ret; exact ⟨_, rfl, K7.out, fun e => by (rw [G2.out] at e; cases e), fun _ => ⟨p13, w.heap.size + 1, rfl, R7.out, Q7.out, Nat.le_trans HSZ.out B13.out, Nat.le_succ _⟩⟩
theorem lsSit1 {b5 b3 g off : Nat} {zp ze ft fh : Int} {u0 u1 u2 u3 : Value} (r5 : w.heap[b5]? = some (.cells #[zp, ze, ft, fh] 69)) (r3 : w.heap[b3]? = some (.cells #[.pointer (some ⟨g, off, none⟩)] 218))
  (c0 : w.cell? ⟨g, off, none⟩ = some u0) (c1 : w.cell? ⟨g, off + 1, none⟩ = some u1) (c2 : w.cell? ⟨g, off + 2, none⟩ = some u2) (c3 : w.cell? ⟨g, off + 3, none⟩ = some u3) (hz : ∀ i, w.frozen? ⟨g, i, none⟩ = false) :
  Calls Tryz.prog 180 #[.pointer (some ⟨b5, 0, none⟩), .pointer (some ⟨b3, 0, none⟩)] w fun r w' => r = .returned (.tuple #[]) ∧ w' = set4Q w g off ⟨zp, ze, ft, fh⟩ := by
 obtain ⟨y0, y1, y2, y3⟩ := cells_4 r5; have p0 : w.cell? ⟨b3, 0, none⟩ = some (.pointer (some ⟨g, off, none⟩)) := cU (i := 0) r3 rfl; have z0 := hz off; have z1 := hz (off + 1); have z2 := hz (off + 2); have z3 := hz (off + 3); clear r5 r3; go_enter Tryz.func180, Tryz.ntmps180; go_wp2; go_end0
 exact ⟨rfl, rfl⟩
end Go.Proofs.YtncoofnhifcnhaaGreatDoor
