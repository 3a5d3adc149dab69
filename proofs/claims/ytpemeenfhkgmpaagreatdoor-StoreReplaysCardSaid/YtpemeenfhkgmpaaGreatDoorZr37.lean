/- Parts of this proof (own work). -/
import Derived.Test.YtpemeenfhkgmpaaGreatDoorZr32
set_option maxRecDepth 100000
set_option maxHeartbeats 40000000
namespace Go.Proofs.YtpemeenfhkgmpaaGreatDoor
open Go.RowKit Go.ChangeShapes Go.WideShapes
theorem dreg_fields : Tryz.prog.underlying 103 = some (.struct (Tryz.prog.fieldsOf 103)) := by
 unfold Program.fieldsOf; rw [Tryz.underlying103]
theorem dreg_neq (n s a b c d : Int) (w : World) : (binOp .neq 103 (.agg #[n, s, a, b, c, d]) (.agg #[n, s, a, b, c, d])).run Tryz.prog w = .ok (.bool false) w := by
 have ha : Tryz.prog.stoodInHeld 103 = false := by kernel_rfl
 have hb0 : Tryz.prog.stoodInHeld 90 = false := by kernel_rfl
 rw [run_neq_struct, show (10000 : Nat) = 9998 + 1 + 1 from rfl, run_equalIn_agg w (9998 + 1) 103 _ _ dreg_fields ha]
 simp [Program.fieldsOf, Tryz.underlying103, Tryz.underlying90, Op.eqFields, part, go_sem, Tryz.underlying3]
theorem dreg_guard (op : BinOp) (x y : Operand) (n s a b c d : Int) (w : World) : (eqGuard op 103 x y (.agg #[n, s, a, b, c, d]) (.agg #[n, s, a, b, c, d])).run Tryz.prog w = .ok () w := run_eqGuard_agg w op 103 x y _ _ (by kernel_rfl)
theorem dprt_fields : Tryz.prog.underlying 92 = some (.struct (Tryz.prog.fieldsOf 92)) := by
 unfold Program.fieldsOf; rw [Tryz.underlying92]
theorem dprt_neq (n s r a b c d : Int) (w : World) : (binOp .neq 92 (.agg #[n, s, r, a, b, c, d]) (.agg #[n, s, r, a, b, c, d])).run Tryz.prog w = .ok (.bool false) w := by
 have ha : Tryz.prog.stoodInHeld 92 = false := by kernel_rfl
 have hb0 : Tryz.prog.stoodInHeld 36 = false := by kernel_rfl
 have hb1 : Tryz.prog.stoodInHeld 90 = false := by kernel_rfl
 rw [run_neq_struct, show (10000 : Nat) = 9998 + 1 + 1 from rfl, run_equalIn_agg w (9998 + 1) 92 _ _ dprt_fields ha]
 simp [Program.fieldsOf, Tryz.underlying92, Tryz.underlying36, Tryz.underlying90, Op.eqFields, part, go_sem, Tryz.underlying3]
theorem dprt_guard (op : BinOp) (x y : Operand) (n s r a b c d : Int) (w : World) : (eqGuard op 92 x y (.agg #[n, s, r, a, b, c, d]) (.agg #[n, s, r, a, b, c, d])).run Tryz.prog w = .ok () w := run_eqGuard_agg w op 92 x y _ _ (by kernel_rfl)
variable {w0 w w' W w3 : World} {B q : Nat} {m : StM} {gs : List AcG} {va vp : Value}
theorem sameAct15 {B1 B2 : Nat} (xn xs xo xd : Int) (xx : Nat) (xp xc : Int) (hxx : xx < 18446744073709551616) (b1 b2 : Option Addr) (k1 k2 n : Nat) (xr : List RgM) (hn : xr.length = n) (h6 : n ≤ 6) (hO1 : w.ownsRow B1 103 6 (.slice b1 n k1) n (rgE.row xr)) (hO2 : w.ownsRow B2 103 6 (.slice b2 n k2) n (rgE.row xr)) :
  Calls Tryz.prog 36 #[.agg #[xn, xs, xo, xd, .float .f64 xx, xp, xc, .slice b1 n k1], .agg #[xn, xs, xo, xd, .float .f64 xx, xp, xc, .slice b2 n k2]] w fun r w' => r = .returned (.bool true) ∧ Kp w w' := by
 have hsm := fun w1 => refSame9_any ⟨xn, xs, xo, xd, xx⟩ ⟨xn, xs, xo, xd, xx⟩ hxx hxx w1
 simp only [show sameX ⟨xn, xs, xo, xd, xx⟩ ⟨xn, xs, xo, xd, xx⟩ = true from by unfold sameX; simp] at hsm
 dsimp only [CX.cells] at hsm; have k2w : Kp w ((w.alloc (.cells #[xn, xs, xo, xd, .float .f64 xx, xp, xc, .slice b1 n k1] 89)).alloc (.cells #[xn, xs, xo, xd, .float .f64 xx, xp, xc, .slice b2 n k2] 89)) := kT (kA _ _) (kA _ _); have r1 := nX0 w (.cells #[xn, xs, xo, xd, .float .f64 xx, xp, xc, .slice b1 n k1] 89) (.cells #[xn, xs, xo, xd, .float .f64 xx, xp, xc, .slice b2 n k2] 89); have r2 := nX1 w (.cells #[xn, xs, xo, xd, .float .f64 xx, xp, xc, .slice b1 n k1] 89) (.cells #[xn, xs, xo, xd, .float .f64 xx, xp, xc, .slice b2 n k2] 89); obtain ⟨W, hW⟩ : ∃ W, ((w.alloc (.cells #[xn, xs, xo, xd, .float .f64 xx, xp, xc, .slice b1 n k1] 89)).alloc (.cells #[xn, xs, xo, xd, .float .f64 xx, xp, xc, .slice b2 n k2] 89)) = W := ⟨_, rfl⟩
 rw [hW] at k2w r1 r2; obtain ⟨u0, u1, u2, u3, u4, u5, u6, u7⟩ := c8X r1; obtain ⟨v0, v1, v2, v3, v4, v5, v6, v7⟩ := c8X r2; have HSM := hD hsm; have K2 := hD k2w; have RA := hD r1; have RB := hD r2; have HN := hD hn; have H6 := hD h6; have O1 := hD hO1; have O2 := hD hO2; obtain ⟨N, hN⟩ : ∃ N : Int, (n : Int) = N := ⟨_, rfl⟩
 have HNN := hD hN; have hsf := sF; clear hsm k2w r1 r2 hn h6 hO1 hO2 hxx; go_enter Tryz.func36, Tryz.ntmps36; go_wp2_with (go_at_call 79; (with_reducible refine (HSM.out _).mono ?_); rintro e' w3 ⟨rfl, hk3⟩; have R1 := hD (rZ hk3 RA.out); have R2 := hD (rZ hk3 RB.out); obtain ⟨q0, q1, q2, q3, q4, q5, q6, q7⟩ := c8X R1.out; obtain ⟨p0, p1, p2, p3, p4, p5, p6, p7⟩ := c8X R2.out; have K3 := hD (kT K2.out hk3); clear hk3 u0 u1 u2 u3 u4 u5 u6 u7 v0 v1 v2 v3 v4 v5 v6 v7)
 go_loopw [38] (fun i wr => ∃ j : Nat, j ≤ n ∧ i = .int .i64 j ∧ Kp w wr ∧ wr.heap[w.heap.size]? = some (.cells #[xn, xs, xo, xd, .float .f64 xx, xp, xc, .slice b1 n k1] 89) ∧ wr.heap[w.heap.size + 1]? = some (.cells #[xn, xs, xo, xd, .float .f64 xx, xp, xc, .slice b2 n k2] 89)) (fun i _ => n - (intOf i).toNat)
 case atStart => exact ⟨0, Nat.zero_le _, rfl, K3.out, R1.out, R2.out⟩
 case round =>
  obtain ⟨j, hj, rfl, hk, hr0, hr1⟩ := hrel; obtain ⟨kk, hkk⟩ : ∃ x : Int, (j : Int) = x := ⟨_, rfl⟩
  rw [hkk]; have HKK := hD hkk; have KR := hD hk
  by_cases hlt : j < n
  ·have hjl : kk < N := by have := HNN.out; omega
   have hk0 : 0 ≤ kk := by omega
   have htk : kk.toNat = j := by omega
   have hn6 : N ≤ 6 := by have := HNN.out; have := H6.out; omega
   have hw1 : wrap64 (kk + 1) = kk + 1 := IntWalk.wrap64_in _ (by omega); have HLT := hD hlt; have hjo : j < xr.length := by have := HN.out; omega
   obtain ⟨⟨yn, yp, ⟨y1, y2, y3, y4⟩⟩, hy⟩ : ∃ r, xr[j]'hjo = r := ⟨_, rfl⟩
   obtain ⟨g1, ck1, ex1, hck1, hgB1, hgl1, hfz1, hcr1⟩ := cQ (E := rgE) (oK O1.out hk) HN.out hlt; have hcs1 : ∀ (i : Nat) (u : Value), i < rgE.k → (rgE.enc (xr[j]'hjo))[i]? = some u → wr.cell? ⟨g1, j * rgE.k + i, none⟩ = some u := hcr1; rw [hy, show rgE.k = 6 from rfl, ← htk] at hcs1; have ex1 := congrArg (fun v => match v with | Value.slice a _ _ => a | _ => none) ex1; dsimp only at ex1; subst ex1; have c0 : wr.cell? ⟨g1, kk.toNat * 6, none⟩ = some (.int .i64 yn) := hcs1 0 _ (by decide) rfl; have c1 : wr.cell? ⟨g1, kk.toNat * 6 + 1, none⟩ = some (.int .i64 yp) := hcs1 1 _ (by decide) rfl; have c2 : wr.cell? ⟨g1, kk.toNat * 6 + 2, none⟩ = some (.int .i64 y1) := hcs1 2 _ (by decide) rfl; have c3 : wr.cell? ⟨g1, kk.toNat * 6 + 3, none⟩ = some (.int .i64 y2) := hcs1 3 _ (by decide) rfl; have c4 : wr.cell? ⟨g1, kk.toNat * 6 + 4, none⟩ = some (.int .i64 y3) := hcs1 4 _ (by decide) rfl; have c5 : wr.cell? ⟨g1, kk.toNat * 6 + 5, none⟩ = some (.int .i64 y4) := hcs1 5 _ (by decide) rfl
   obtain ⟨g2, ck2, ex2, hck2, hgB2, hgl2, hfz2, hcr2⟩ := cQ (E := rgE) (oK O2.out hk) HN.out hlt; have hcs2 : ∀ (i : Nat) (u : Value), i < rgE.k → (rgE.enc (xr[j]'hjo))[i]? = some u → wr.cell? ⟨g2, j * rgE.k + i, none⟩ = some u := hcr2; rw [hy, show rgE.k = 6 from rfl, ← htk] at hcs2; have ex2 := congrArg (fun v => match v with | Value.slice a _ _ => a | _ => none) ex2; dsimp only at ex2; subst ex2; have d0 : wr.cell? ⟨g2, kk.toNat * 6, none⟩ = some (.int .i64 yn) := hcs2 0 _ (by decide) rfl; have d1 : wr.cell? ⟨g2, kk.toNat * 6 + 1, none⟩ = some (.int .i64 yp) := hcs2 1 _ (by decide) rfl; have d2 : wr.cell? ⟨g2, kk.toNat * 6 + 2, none⟩ = some (.int .i64 y1) := hcs2 2 _ (by decide) rfl; have d3 : wr.cell? ⟨g2, kk.toNat * 6 + 3, none⟩ = some (.int .i64 y2) := hcs2 3 _ (by decide) rfl; have d4 : wr.cell? ⟨g2, kk.toNat * 6 + 4, none⟩ = some (.int .i64 y3) := hcs2 4 _ (by decide) rfl; have d5 : wr.cell? ⟨g2, kk.toNat * 6 + 5, none⟩ = some (.int .i64 y4) := hcs2 5 _ (by decide) rfl
   obtain ⟨_, _, _, _, _, _, _, z7⟩ := c8X hr0; obtain ⟨_, _, _, _, _, _, _, p7⟩ := c8X hr1; have R0 := hD hr0; have R1 := hD hr1; have hne := fun w => dreg_neq yn yp y1 y2 y3 y4 w
   have hgd := fun op x y (w : World) => dreg_guard op x y yn yp y1 y2 y3 y4 w
   clear hkk hj hlt hk hr0 hr1 htk hck1 hgB1 hgl1 hfz1 hcr1 hcs1 hck2 hgB2 hgl2 hfz2 hcr2 hcs2 hy hjo; go_wp2_with fail
   obtain ⟨WD, hWD⟩ : ∃ x, (wr).drew = x := ⟨_, rfl⟩
   have kD : Kp (wr) WD := by rw [← hWD]; exact dQ (Kp.refl _)
   have HWD := hD hWD; clear hWD; refine wp_region_held_drew (S := fun w' => Kp (wr) w') (by kernel_rfl) ?_ (fun hH => ?_)
   ·exact by rw [HWD.out]; exact kD
   rw [HWD.out] at hH ⊢; refine tkW ?_ 0 ?_ ?_; rotate_left
   ·intro w hZ; go_simp; try rfl
   go_simp; refine tkW ?_ 1 ?_ ?_; rotate_left
   ·intro w hZ; have s7 := kZ hZ z7; have t7 := kZ hZ p7; have a0 := kZ hZ c0; have b0 := kZ hZ d0; have a1 := kZ hZ c1; have b1 := kZ hZ d1; have a2 := kZ hZ c2; have b2 := kZ hZ d2; have a3 := kZ hZ c3; have b3 := kZ hZ d3; have a4 := kZ hZ c4; have b4 := kZ hZ d4; have a5 := kZ hZ c5; have b5 := kZ hZ d5; go_simp; try rfl
   go_simp; refine tkW ?_ 2 ?_ ?_; rotate_left
   ·intro w hZ; go_simp; try rfl
   go_simp; refine tkW ?_ 3 ?_ ?_; rotate_left
   ·intro w hZ; go_simp; try rfl
   go_simp; refine tkW ?_ 4 ?_ ?_; rotate_left
   ·intro w hZ; have s7 := kZ hZ z7; have t7 := kZ hZ p7; have a0 := kZ hZ c0; have b0 := kZ hZ d0; have a1 := kZ hZ c1; have b1 := kZ hZ d1; have a2 := kZ hZ c2; have b2 := kZ hZ d2; have a3 := kZ hZ c3; have b3 := kZ hZ d3; have a4 := kZ hZ c4; have b4 := kZ hZ d4; have a5 := kZ hZ c5; have b5 := kZ hZ d5; go_simp; try rfl
   go_simp; refine tkW ?_ 5 ?_ ?_; rotate_left
   ·intro w hZ; go_simp; try rfl
   go_simp; refine tkW ?_ 6 ?_ ?_; rotate_left
   ·intro w hZ; have s7 := kZ hZ z7; have t7 := kZ hZ p7; have a0 := kZ hZ c0; have b0 := kZ hZ d0; have a1 := kZ hZ c1; have b1 := kZ hZ d1; have a2 := kZ hZ c2; have b2 := kZ hZ d2; have a3 := kZ hZ c3; have b3 := kZ hZ d3; have a4 := kZ hZ c4; have b4 := kZ hZ d4; have a5 := kZ hZ c5; have b5 := kZ hZ d5; go_simp; try rfl
   go_simp; refine tkW ?_ 7 ?_ ?_; rotate_left
   ·intro w hZ; go_simp; try rfl
   go_simp; refine tkW ?_ 8 ?_ ?_; rotate_left
   ·intro w hZ; go_simp; try rfl
   go_simp; refine tkW ?_ 9 ?_ ?_; rotate_left
   ·intro w hZ; have s7 := kZ hZ z7; have t7 := kZ hZ p7; have a0 := kZ hZ c0; have b0 := kZ hZ d0; have a1 := kZ hZ c1; have b1 := kZ hZ d1; have a2 := kZ hZ c2; have b2 := kZ hZ d2; have a3 := kZ hZ c3; have b3 := kZ hZ d3; have a4 := kZ hZ c4; have b4 := kZ hZ d4; have a5 := kZ hZ c5; have b5 := kZ hZ d5; go_simp; try rfl
   go_simp; refine tkW ?_ 10 ?_ ?_; rotate_left
   ·intro w hZ; go_simp; try rfl
   go_simp; refine wpAnyH_done (by kernel_rfl) ?_ _
   have KF := hD (show Kp (wr) _ from hH); clear hH; go_wp2; go_roundw
   case rel => exact ⟨j + 1, by have := HLT.out; omega, by have := HKK.out; first | rw [show ((j + 1 : Nat) : Int) = kk + 1 by omega] | rw [show ((j + 1 : Nat) : Int) = kk + 1 by omega, hw1], kT KR.out KF.out, rZ KF.out R0.out, rZ KF.out R1.out⟩
   case measure => have := HKK.out; have := HLT.out; simp [intOf]; omega
  ·have hje : ¬ kk < N := by have := HNN.out; omega
   clear hkk hj hlt hk hr0 hr1; go_wp2; go_ret; exact ⟨rfl, KR.out⟩
theorem al3_2 (w : World) (o1 o2 o3 : Obj) : (((w.alloc o1).alloc o2).alloc o3).heap[w.heap.size + 1 + 1]? = some o3 := by
 have := (mH ((w.alloc o1).alloc o2) o3)
 simpa using this
theorem lawPart15 (yn ys yr y1 y2 y3 y4 : Int) : Calls Tryz.prog 38 #[.agg #[yn, ys, yr, y1, y2, y3, y4]] w fun r w' => r = .returned (.agg #[yn, ys, yr, y1, y2, y3, y4]) ∧ Kp w w' := by
 have k1 : Kp w ((w.alloc (.cells #[yn, ys, yr, y1, y2, y3, y4] 75)).alloc (.cells #[.int .i64 0, .int .i64 0, .int .i64 0, .int .i64 0, .int .i64 0, .int .i64 0, .int .i64 0] 92)) := kT (kA _ _) (kA _ _); have r1 := nX0 w (.cells #[yn, ys, yr, y1, y2, y3, y4] 75) (.cells #[.int .i64 0, .int .i64 0, .int .i64 0, .int .i64 0, .int .i64 0, .int .i64 0, .int .i64 0] 92); have r2 := nX1 w (.cells #[yn, ys, yr, y1, y2, y3, y4] 75) (.cells #[.int .i64 0, .int .i64 0, .int .i64 0, .int .i64 0, .int .i64 0, .int .i64 0, .int .i64 0] 92); obtain ⟨W, hW⟩ : ∃ W, (w.alloc (.cells #[yn, ys, yr, y1, y2, y3, y4] 75)).alloc (.cells #[.int .i64 0, .int .i64 0, .int .i64 0, .int .i64 0, .int .i64 0, .int .i64 0, .int .i64 0] 92) = W := ⟨_, rfl⟩
 rw [hW] at k1 r1 r2; obtain ⟨u0, u1, u2, u3, u4, u5, u6⟩ := c7X r1; obtain ⟨v0, v1, v2, v3, v4, v5, v6⟩ := c7X r2; have fz := fQ r2; have K1 := hD k1; have R2 := hD r2; have hsf := sF; clear k1 r1 r2; go_enter Tryz.func38, Tryz.ntmps38; go_wp2; refine bodyPost_ret (results_cell_row (p := 2) rfl _ _ (w.heap.size + 1) 92 _ (0, 0) _ rfl (set_7 (.int .i64 yn) (.int .i64 ys) (.int .i64 yr) (.int .i64 y1) (.int .i64 y2) (.int .i64 y3) (.int .i64 y4) R2.out) Tryz.underlying92 rfl (by kernel_rfl)) rfl ?_
 exact ⟨rfl, set_7_kp K1.out (by omega) _ _ _ _ _ _ _⟩
theorem lawAct15 (xn xs xo xd : Int) (xx : Nat) (xp xc : Int) (xb : Option Addr) (n xk : Nat) (xr : List RgM) (hn : xr.length = n) (h6 : n ≤ 6) (hO : w.ownsRow B 69 6 (.slice xb n xk) n (rgE.row xr)) :
  Calls Tryz.prog 37 #[.agg #[xn, xs, xo, xd, .float .f64 xx, xp, xc, .slice xb n xk]] w fun r w' => ∃ (a1 : Option Addr) (c1 : Nat), r = .returned (.agg #[xn, xs, xo, xd, .float .f64 xx, xp, xc, .slice a1 n c1]) ∧ w'.ownsRow w.heap.size 103 6 (.slice a1 n c1) n (rgE.row xr) ∧ Kp w w' := by
 have kv : Kp w ((w.alloc (.cells #[xn, xs, xo, xd, .float .f64 xx, xp, xc, .slice xb n xk] 65)).alloc (.cells #[.int .i64 0, .int .i64 0, .int .i64 0, .int .i64 0, .float .f64 0, .int .i64 0, .int .i64 0, .slice none 0 0] 89)) := kT (kA _ _) (kA _ _); have ra := nX0 w (.cells #[xn, xs, xo, xd, .float .f64 xx, xp, xc, .slice xb n xk] 65) (.cells #[.int .i64 0, .int .i64 0, .int .i64 0, .int .i64 0, .float .f64 0, .int .i64 0, .int .i64 0, .slice none 0 0] 89); have k1 : Kp w (((w.alloc (.cells #[xn, xs, xo, xd, .float .f64 xx, xp, xc, .slice xb n xk] 65)).alloc (.cells #[.int .i64 0, .int .i64 0, .int .i64 0, .int .i64 0, .float .f64 0, .int .i64 0, .int .i64 0, .slice none 0 0] 89)).alloc (.cells #[xn, xs, xo, xd, .float .f64 xx, xp, xc, .slice none 0 0] 89)) := kT kv (kA _ _); have rb := al3_1 w (.cells #[xn, xs, xo, xd, .float .f64 xx, xp, xc, .slice xb n xk] 65) (.cells #[.int .i64 0, .int .i64 0, .int .i64 0, .int .i64 0, .float .f64 0, .int .i64 0, .int .i64 0, .slice none 0 0] 89) (.cells #[xn, xs, xo, xd, .float .f64 xx, xp, xc, .slice none 0 0] 89)
 have rc := al3_2 w (.cells #[xn, xs, xo, xd, .float .f64 xx, xp, xc, .slice xb n xk] 65) (.cells #[.int .i64 0, .int .i64 0, .int .i64 0, .int .i64 0, .float .f64 0, .int .i64 0, .int .i64 0, .slice none 0 0] 89) (.cells #[xn, xs, xo, xd, .float .f64 xx, xp, xc, .slice none 0 0] 89); obtain ⟨u0, u1, u2, u3, u4, u5, u6, u7⟩ := c8X ra; have ra3 := al3_0 w (.cells #[xn, xs, xo, xd, .float .f64 xx, xp, xc, .slice xb n xk] 65) (.cells #[.int .i64 0, .int .i64 0, .int .i64 0, .int .i64 0, .float .f64 0, .int .i64 0, .int .i64 0, .slice none 0 0] 89) (.cells #[xn, xs, xo, xd, .float .f64 xx, xp, xc, .slice none 0 0] 89); obtain ⟨s0, s1, s2, s3, s4, s5, s6, s7⟩ := c8X ra3; have hn0 : (((w.alloc (.cells #[xn, xs, xo, xd, .float .f64 xx, xp, xc, .slice xb n xk] 65)).alloc (.cells #[.int .i64 0, .int .i64 0, .int .i64 0, .int .i64 0, .float .f64 0, .int .i64 0, .int .i64 0, .slice none 0 0] 89)).alloc (.cells #[xn, xs, xo, xd, .float .f64 xx, xp, xc, .slice none 0 0] 89)).ownsRow w.heap.size 103 6 (.slice none 0 0) 0 (rgE.row (xr.take 0)) := by rw [List.take_zero]; exact World.ownsRow_nil _ _ _ _
 have K1 := hD k1; have RZ := hD rb; have RN := hD rc; have ON := hD hn0; have HN := hD hn; have H6 := hD h6; have OR := hD hO; obtain ⟨N, hN⟩ : ∃ N : Int, (n : Int) = N := ⟨_, rfl⟩
 have HNN := hD hN; have hsf := sF; clear kv ra k1 rb rc ra3 hn0 hn h6 hO; go_enter Tryz.func37, Tryz.ntmps37; go_wp2; go_loopw [16] (fun i wr => ∃ (j : Nat) (v : Value), j ≤ n ∧ i = .int .i64 j ∧ Kp w wr ∧ wr.heap[w.heap.size + 1]? = some (.cells #[.int .i64 0, .int .i64 0, .int .i64 0, .int .i64 0, .float .f64 0, .int .i64 0, .int .i64 0, .slice none 0 0] 89) ∧ wr.heap[w.heap.size + 1 + 1]? = some (.cells #[xn, xs, xo, xd, .float .f64 xx, xp, xc, v] 89) ∧ wr.ownsRow w.heap.size 103 6 v j (rgE.row (xr.take j))) (fun i _ => n - (intOf i).toNat)
 case atStart => exact ⟨0, _, Nat.zero_le _, rfl, K1.out, RZ.out, RN.out, ON.out⟩
 case round =>
  obtain ⟨j, v, hj, rfl, hk, hz, hr, ho⟩ := hrel; obtain ⟨a1, c1, rfl⟩ := fG ho; obtain ⟨kk, hkk⟩ : ∃ x : Int, (j : Int) = x := ⟨_, rfl⟩
  have HKK := hD hkk; have KR := hD hk; have OW := hD ho; have RZ1 := hD hz; have RN1 := hD hr
  by_cases hlt : j < n
  ·rw [hkk]; have hjl : kk < N := by have := HNN.out; omega
   have hk0 : 0 ≤ kk := by omega
   have htk : kk.toNat = j := by omega
   have hn6 : N ≤ 6 := by have := HNN.out; have := H6.out; omega
   have hw1 : wrap64 (kk + 1) = kk + 1 := IntWalk.wrap64_in _ (by omega); have HLT := hD hlt; have HLB := hD (show j + 1 ≤ 1000000 by have := H6.out; omega); have hjo : j < xr.length := by have := HN.out; omega
   obtain ⟨gr, ck, exb, hck, hgrB, hgrl, hfzr, hcr⟩ := cQ (E := rgE) (oK OR.out hk) HN.out hlt; obtain ⟨⟨yn, yp, ⟨y1, y2, y3, y4⟩⟩, hy⟩ : ∃ r, xr[j]'hjo = r := ⟨_, rfl⟩
   have hcr2 : ∀ (i : Nat) (u : Value), i < rgE.k → (rgE.enc (xr[j]'hjo))[i]? = some u → wr.cell? ⟨gr, j * rgE.k + i, none⟩ = some u := hcr; rw [hy, show rgE.k = 6 from rfl, ← htk] at hcr2; have exb := congrArg (fun v => match v with | Value.slice a _ _ => a | _ => none) exb; dsimp only at exb; subst exb; have e0 : wr.cell? ⟨gr, kk.toNat * 6, none⟩ = some (.int .i64 yn) := hcr2 0 _ (by decide) rfl; have e1 : wr.cell? ⟨gr, kk.toNat * 6 + 1, none⟩ = some (.int .i64 yp) := hcr2 1 _ (by decide) rfl; have e2 : wr.cell? ⟨gr, kk.toNat * 6 + 2, none⟩ = some (.int .i64 y1) := hcr2 2 _ (by decide) rfl; have e3 : wr.cell? ⟨gr, kk.toNat * 6 + 3, none⟩ = some (.int .i64 y2) := hcr2 3 _ (by decide) rfl; have e4 : wr.cell? ⟨gr, kk.toNat * 6 + 4, none⟩ = some (.int .i64 y3) := hcr2 4 _ (by decide) rfl; have e5 : wr.cell? ⟨gr, kk.toNat * 6 + 5, none⟩ = some (.int .i64 y4) := hcr2 5 _ (by decide) rfl; have kb := kA wr (.cells #[yn, yp, y1, y2, y3, y4] 69)
   obtain ⟨d0, d1, d2, d3, d4, d5⟩ := cells_6Q (mH wr (.cells #[yn, yp, y1, y2, y3, y4] 69)); obtain ⟨_, _, _, _, _, _, _, n7⟩ := c8X (rZ kb hr); have hts : xr.take (j + 1) = xr.take j ++ [xr[j]] := by rw [← List.take_succ_eq_append_getElem hjo]
   rw [hy] at hts; have HTS := hD hts; have kx : Kp wr ((wr.alloc (.cells #[yn, yp, y1, y2, y3, y4] 69)).alloc (.cells #[yn, yp, y1, y2, y3, y4] 103)) := kT kb (kA _ _); have KX := hD kx; clear hkk hj hlt hk hz hr ho htk hck hgrB hgrl hfzr hcr hcr2 hy hts hjo kb kx; go_wp2_with (at_builtin; refine aG (E := rgE) ty_rgD (by decide) _ rfl _ _ rfl w.heap.size _ j _ rfl (oK OW.out KX.out) _ [(⟨yn, yp, ⟨y1, y2, y3, y4⟩⟩ : RgM)] rfl (pG (nX1 wr (.cells #[yn, yp, y1, y2, y3, y4] 69) (.cells #[yn, yp, y1, y2, y3, y4] 103)) rfl) HLB.out (kS (kT KR.out KX.out)) ?_)
   rintro v6 u6 o6 hg hb6; have o6 : u6.ownsRow w.heap.size 103 6 v6 (j + 1) (rgE.row (xr.take j ++ [(⟨yn, yp, ⟨y1, y2, y3, y4⟩⟩ : RgM)])) := o6; obtain ⟨a6, c6, rfl⟩ := fG o6; have OX := oK OW.out KX.out; have K6 : Kp w u6 := Below.grown (kT KR.out KX.out) hg (Below.size (kT KR.out KX.out)) (fun b hk => (OX.lt b hk).1); have q1 := (hg.block _ (oZ (rZ KX.out RZ1.out)) (nQ OX (rZ KX.out RZ1.out) (by decide))).trans (rZ KX.out RZ1.out); have q2 := (hg.block _ (oZ (rZ KX.out RN1.out)) (nQ OX (rZ KX.out RN1.out) (by decide))).trans (rZ KX.out RN1.out); obtain ⟨_, _, _, _, _, _, _, m7⟩ := c8X q2; have fz := fQ q2 7; obtain ⟨w7, hw7⟩ : ∃ x, u6.setCell ⟨w.heap.size + 1 + 1, 7, none⟩ (.slice a6 (j + 1) c6) = x := ⟨_, rfl⟩
   have k7 : Kp w w7 := by rw [← hw7]; exact Below.setCell K6 (by dsimp only; omega) _
   have z7 : w7.heap[w.heap.size + 1]? = some (.cells #[.int .i64 0, .int .i64 0, .int .i64 0, .int .i64 0, .float .f64 0, .int .i64 0, .int .i64 0, .slice none 0 0] 89) := by rw [← hw7, bS _ _ _ _ (by dsimp only; omega)]; exact q1
   have n7 : w7.heap[w.heap.size + 1 + 1]? = some (.cells #[xn, xs, xo, xd, .float .f64 xx, xp, xc, .slice a6 (j + 1) c6] 89) := by rw [← hw7]; exact (Joins.block_setCell q2 _).trans rfl
   have o7 : w7.ownsRow w.heap.size 103 6 (.slice a6 (j + 1) c6) (j + 1) (rgE.row (xr.take (j + 1))) := by
    rw [← hw7, HTS.out]; exact sG o6 (fun b e => bS _ _ _ _ (fun e2 => nQ o6 q2 (by decide) (by rw [e2] at e; exact e.symm)))
   have K7 := hD k7; have Z7 := hD z7; have N7 := hD n7; have O7 := hD o7; clear OX K6 q1 q2 o6 hg hb6 k7 z7 n7 o7; go_wp2; go_roundw
   case rel => exact ⟨j + 1, .slice a6 (j + 1) c6, by have := HLT.out; omega, by have := HKK.out; first | rw [show ((j + 1 : Nat) : Int) = kk + 1 by omega] | rw [show ((j + 1 : Nat) : Int) = kk + 1 by omega, hw1], K7.out, Z7.out, N7.out, O7.out⟩
   case measure => have := HKK.out; have := HLT.out; simp [intOf]; omega
  ·have hjn : j = n := by omega
   subst hjn; have hje : ¬ kk < N := by have := HNN.out; omega
   have hfin : xr.take j = xr := by rw [← HN.out, List.take_length]
   rw [hfin] at ho; have OE := hD ho; obtain ⟨n0, n1, n2, n3, n4, n5, n6, n7⟩ := c8X hr; obtain ⟨z0, z1, z2, z3, z4, z5, z6, z7⟩ := c8X hz; have fz := fQ hz; rw [hkk]; clear hkk hj hlt hk hz hr ho hfin; go_wp2; refine bodyPost_ret (results_cell_row (p := 2) rfl _ _ (w.heap.size + 1) 89 _ (0, 0) _ rfl (set_8 (.int .i64 xn) (.int .i64 xs) (.int .i64 xo) (.int .i64 xd) (.float .f64 xx) (.int .i64 xp) (.int .i64 xc) (.slice a1 j c1) RZ1.out) Tryz.underlying89 rfl (by kernel_rfl)) rfl ?_
   refine ⟨a1, c1, rfl, sG OE.out (fun b e => ?_), set_8_kp KR.out (by omega) _ _ _ _ _ _ _ _⟩
   have hne : b ≠ w.heap.size + 1 := fun e2 => nQ OE.out RZ1.out (by decide) (by rw [e2] at e; exact e.symm)
   rw [bS _ _ _ _ hne, bS _ _ _ _ hne, bS _ _ _ _ hne, bS _ _ _ _ hne, bS _ _ _ _ hne, bS _ _ _ _ hne, bS _ _ _ _ hne, bS _ _ _ _ hne]
end Go.Proofs.YtpemeenfhkgmpaaGreatDoor
