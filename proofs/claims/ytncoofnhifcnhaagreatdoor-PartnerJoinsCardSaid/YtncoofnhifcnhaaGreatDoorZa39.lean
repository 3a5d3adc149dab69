/- Parts of this proof (own work). -/
import Derived.Test.YtncoofnhifcnhaaGreatDoorZa37
set_option maxRecDepth 100000
set_option maxHeartbeats 40000000
namespace Go.Proofs.YtncoofnhifcnhaaGreatDoor
open Go.RowKit Go.ChangeShapes Go.WideShapes
variable {w0 w w' W w3 : World} {B q : Nat} {m : StM} {ads : List Addr}
theorem rRegister (h : SD B q m w) (i nd : Int) (hnd : m.node = nd) (xn xs xr y1 y2 y3 y4 : Int) (hx : prtP m i = some ⟨xn, xs, xr, ⟨y1, y2, y3, y4⟩⟩) : Calls Tryz.prog 51 #[.pointer (some ⟨q, 0, none⟩), .int .i64 i] w fun r w' => r = .returned (.agg #[(17:Int), nd, xn, xn, xs, (0:Int), i, y1, (0:Int)]) ∧ Kp w w' := by
 have HM := hD (fun w1 (hk : Kp w w1) => rMessage (h.kp hk) i nd hnd xn xs xr y1 y2 y3 y4 hx 0 17); obtain ⟨np, hnp⟩ : ∃ n, m.parts.length = n := ⟨_, rfl⟩
 obtain ⟨gp, dp, q0, q3, hi0, hiN, hpc⟩ := h.lookAt i ⟨xn, xs, xr, ⟨y1, y2, y3, y4⟩⟩ hx np hnp; rw [hnd] at q0; obtain ⟨N, hN⟩ : ∃ N : Int, (np : Int) = N := ⟨_, rfl⟩
 have iN : i < N := by omega
 have x3 := (show w.cell? ⟨gp, i.toNat * 7 + 3, none⟩ = some (.int .i64 y1) from hpc 3 _ (by decide) rfl)
 obtain ⟨X3, Q3⟩ := hD2 x3 q3; have K1 := hD (kA w (.cells #[(0:Int), (0:Int), (0:Int), (0:Int), (0:Int), (0:Int), (0:Int), (0:Int), (0:Int)] 26)); have R1 := hD (mH w (.cells #[(0:Int), (0:Int), (0:Int), (0:Int), (0:Int), (0:Int), (0:Int), (0:Int), (0:Int)] 26)); clear h hnd hx hnp hpc hiN q0 x3 q3; go_enter Tryz.func51, Tryz.ntmps51; go_wp2_with (go_at_call 42; (with_reducible refine (HM.out _ K1.out).mono ?_); rintro e' w3 ⟨rfl, hk⟩; have k0 := kT hk (kA w3 (.cells #[(17:Int), nd, xn, xn, xs, (0:Int), i, (0:Int), (0:Int)] 26)); have k1 := kT hk (kA w3 (.cells #[(17:Int), nd, xn, xn, xs, (0:Int), i, y1, (0:Int)] 26)); have x30 := kZ (kT K1.out k0) X3.out; have q30 := kZ (kT K1.out k0) Q3.out; obtain ⟨d0, d1, d2, d3, d4, d5, d6, d7, d8⟩ := cells9 (mH w3 (.cells #[(17:Int), nd, xn, xn, xs, (0:Int), i, (0:Int), (0:Int)] 26)); have f0 := frozN (mH w3 (.cells #[(17:Int), nd, xn, xn, xs, (0:Int), i, (0:Int), (0:Int)] 26)); obtain ⟨g0, g1, g2, g3, g4, g5, g6, g7, g8⟩ := cells9 (mH w3 (.cells #[(17:Int), nd, xn, xn, xs, (0:Int), i, y1, (0:Int)] 26)); have RZ := hD (rZ k1 R1.out); have KF := hD (kT K1.out k1); obtain ⟨s0, s1, s2, s3, s4, s5, s6, s7, s8⟩ := cells9 RZ.out; have fz := frozN RZ.out; clear hk k0 k1)
 refine bodyPost_ret (results_cell_row (p := 4) rfl _ _ w.heap.size 26 _ (0, 0) _ rfl (set9 (.int .i64 17) (.int .i64 nd) (.int .i64 xn) (.int .i64 xn) (.int .i64 xs) (.int .i64 0) (.int .i64 i) (.int .i64 y1) (.int .i64 0) RZ.out) Tryz.underlying26 rfl (by kernel_rfl)) rfl ?_
 exact ⟨rfl, set9_kp KF.out (Nat.le_refl _) _ _ _ _ _ _ _ _ _⟩
theorem rAgain (h : SD B q m w) (ok : OkS m) (i : Int) (g : MM) (b : Bool) (hg : (againP m i = some g ∧ b = true) ∨ (againP m i = none ∧ b = false ∧ g = ⟨0, 0, 0, 0, 0, 0, 0, 0, 0⟩)) : Calls Tryz.prog 21 #[.pointer (some ⟨q, 0, none⟩), .int .i64 i] w fun r w' => r = .returned (.tuple #[.agg g.cells, .bool b]) ∧ Kp w w' := by
 have hh := fun w1 (hk : Kp w w1) => rHas (h.kp hk) i _ rfl
 have R1 := hD (mH w (.cells #[(0:Int), (0:Int), (0:Int), (0:Int), (0:Int), (0:Int), (0:Int), (0:Int), (0:Int)] 26)); have K1 := hD (kA w (.cells #[(0:Int), (0:Int), (0:Int), (0:Int), (0:Int), (0:Int), (0:Int), (0:Int), (0:Int)] 26)); have fz := frozN R1.out; obtain ⟨s0, s1, s2, s3, s4, s5, s6, s7, s8⟩ := cells9 R1.out
 cases hx : prtP m i with
 | none =>
  rw [hx] at hh; have hag : againP m i = none := by unfold againP; rw [hx]
  rw [hag] at hg; obtain ⟨h1, _⟩ | ⟨_, rfl, rfl⟩ := hg
  ·cases h1
  have HH := hD hh; dsimp only [MM.cells, Option.isSome_none] at HH ⊢; clear hh hag hx h ok; go_enter Tryz.func21, Tryz.ntmps21; go_wp2_with (go_at_call 38; (with_reducible refine (HH.out _ K1.out).mono ?_); rintro e' w2 ⟨rfl, rfl⟩)
  refine bodyPost_ret (rQ (p := 4) (u := 5) rfl _ _ w.heap.size 26 _ (0, 0) _ rfl R1.out Tryz.underlying26 rfl (by kernel_rfl)) rfl ?_
  exact ⟨rfl, K1.out⟩
 | some x =>
  have hle := (prt_le ok hx).2.2; obtain ⟨xn, xs, xr, ⟨y1, y2, y3, y4⟩⟩ := x; obtain ⟨nd, hnd⟩ : ∃ n, m.node = n := ⟨_, rfl⟩
  rw [hx] at hh; have hag : againP m i = if xr < 0 then (if y3 ≠ 1 then none else some (regiP nd ⟨xn, xs, xr, ⟨y1, y2, y3, y4⟩⟩ i)) else if waitT 2 y3 = 0 then none else some (msgP nd ⟨xn, xs, xr, ⟨y1, y2, y3, y4⟩⟩ i xr (waitT 2 y3)) := by unfold againP; rw [hx, hnd]
  rw [hag] at hg; have HH := hD hh; have HR := hD (fun w1 (hk : Kp w w1) => rRegister (h.kp hk) i nd hnd xn xs xr y1 y2 y3 y4 hx); have HM := hD (fun w1 (hk : Kp w w1) => rMessage (h.kp hk) i nd hnd xn xs xr y1 y2 y3 y4 hx xr (waitT 2 y3)); have HW := hD (fun w1 => refWaits_any 2 y3 w1); obtain ⟨np, hnp⟩ : ∃ n, m.parts.length = n := ⟨_, rfl⟩
  obtain ⟨gp, dp, q0, q3, hi0, hiN, hpc⟩ := h.lookAt i ⟨xn, xs, xr, ⟨y1, y2, y3, y4⟩⟩ hx np hnp; rw [hnd] at q0; obtain ⟨N, hN⟩ : ∃ N : Int, (np : Int) = N := ⟨_, rfl⟩
  have iN : i < N := by omega
  have kz := kA w (.cells #[(0:Int), (0:Int), (0:Int), (0:Int), (0:Int), (0:Int), (0:Int), (0:Int), (0:Int)] 26); have x0 := kZ kz (show w.cell? ⟨gp, i.toNat * 7, none⟩ = some (.int .i64 xn) from hpc 0 _ (by decide) rfl); have x1 := kZ kz (show w.cell? ⟨gp, i.toNat * 7 + 1, none⟩ = some (.int .i64 xs) from hpc 1 _ (by decide) rfl); have x2 := kZ kz (show w.cell? ⟨gp, i.toNat * 7 + 2, none⟩ = some (.int .i64 xr) from hpc 2 _ (by decide) rfl); have x3 := kZ kz (show w.cell? ⟨gp, i.toNat * 7 + 3, none⟩ = some (.int .i64 y1) from hpc 3 _ (by decide) rfl); have x4 := kZ kz (show w.cell? ⟨gp, i.toNat * 7 + 4, none⟩ = some (.int .i64 y2) from hpc 4 _ (by decide) rfl); have x5 := kZ kz (show w.cell? ⟨gp, i.toNat * 7 + 5, none⟩ = some (.int .i64 y3) from hpc 5 _ (by decide) rfl); have x6 := kZ kz (show w.cell? ⟨gp, i.toNat * 7 + 6, none⟩ = some (.int .i64 y4) from hpc 6 _ (by decide) rfl); have q3 := kZ kz q3
  have K2 := hD (kT kz (kA (w.alloc (.cells #[(0:Int), (0:Int), (0:Int), (0:Int), (0:Int), (0:Int), (0:Int), (0:Int), (0:Int)] 26)) (.cells #[xn, xs, xr, y1, y2, y3, y4] 95))); have R2 := hD (rZ (kA (w.alloc (.cells #[(0:Int), (0:Int), (0:Int), (0:Int), (0:Int), (0:Int), (0:Int), (0:Int), (0:Int)] 26)) (.cells #[xn, xs, xr, y1, y2, y3, y4] 95)) R1.out); obtain ⟨p0, p1, p2, p3, p4, p5, p6⟩ := c7X (nX1 w (.cells #[(0:Int), (0:Int), (0:Int), (0:Int), (0:Int), (0:Int), (0:Int), (0:Int), (0:Int)] 26) (.cells #[xn, xs, xr, y1, y2, y3, y4] 95)); obtain ⟨v0, v1, v2, v3, v4, v5, v6, v7, v8⟩ := cells9 R2.out; have fv := frozN R2.out; clear hh hag hx h ok hnp hpc hiN kz q0 hle hnd
  by_cases hr : xr < 0
  ·rw [if_pos hr] at hg; have d1 := dT hr
   by_cases h1 : y3 = 1
   ·rw [if_neg (by simpa using h1)] at hg; obtain ⟨h2, rfl⟩ | ⟨h2, _⟩ := hg
    rotate_left
    ·cases h2
    obtain rfl := (Option.some.inj h2).symm; have g1 : (y3 != 1) = false := by simp [h1]
    have g2 : (y3 == 1) = true := by simp [h1]
    dsimp only [MM.cells, regiP]; clear h2 hr h1; go_enter Tryz.func21, Tryz.ntmps21; go_wp2_with (first | (go_at_call 38; (with_reducible refine (HH.out _ K1.out).mono ?_); rintro e' w2 ⟨rfl, rfl⟩) | (go_at_call 51; (with_reducible refine (HR.out _ K2.out).mono ?_); rintro e' w3 ⟨rfl, hk⟩; have KF := hD (kT K2.out hk); have RF := hD (rZ hk R2.out); obtain ⟨s0, s1, s2, s3, s4, s5, s6, s7, s8⟩ := cells9 RF.out; have fz := frozN RF.out; clear hk))
    refine bodyPost_ret (rQ (p := 4) (u := 5) rfl _ _ w.heap.size 26 _ (0, 0) _ rfl (set9 (.int .i64 17) (.int .i64 nd) (.int .i64 xn) (.int .i64 xn) (.int .i64 xs) (.int .i64 0) (.int .i64 i) (.int .i64 y1) (.int .i64 0) RF.out) Tryz.underlying26 rfl (by kernel_rfl)) rfl ?_
    exact ⟨rfl, set9_kp KF.out (Nat.le_refl _) _ _ _ _ _ _ _ _ _⟩
   ·rw [if_pos h1] at hg; obtain ⟨h2, _⟩ | ⟨_, rfl, rfl⟩ := hg
    ·cases h2
    have g1 : (y3 != 1) = true := by simp [h1]
    have g2 : (y3 == 1) = false := by simp [h1]
    dsimp only [MM.cells]; clear hr h1; go_enter Tryz.func21, Tryz.ntmps21; go_wp2_with (go_at_call 38; (with_reducible refine (HH.out _ K1.out).mono ?_); rintro e' w2 ⟨rfl, rfl⟩)
    refine bodyPost_ret (rQ (p := 4) (u := 5) rfl _ _ w.heap.size 26 _ (0, 0) _ rfl R2.out Tryz.underlying26 rfl (by kernel_rfl)) rfl ?_
    exact ⟨rfl, K2.out⟩
  ·rw [if_neg hr] at hg; have d1 := dF hr; obtain ⟨wt, hwt⟩ : ∃ x, waitT 2 y3 = x := ⟨_, rfl⟩
   rw [hwt] at hg HM HW
   by_cases h1 : wt = 0
   ·rw [if_pos h1] at hg; obtain ⟨h2, _⟩ | ⟨_, rfl, rfl⟩ := hg
    ·cases h2
    have g2 : (wt == 0) = true := by simp [h1]
    dsimp only [MM.cells]; clear hr h1 hwt; go_enter Tryz.func21, Tryz.ntmps21; go_wp2_with (first | (go_at_call 38; (with_reducible refine (HH.out _ K1.out).mono ?_); rintro e' w2 ⟨rfl, rfl⟩) | (go_at_call 52; (with_reducible refine (HW.out _).mono ?_); rintro e' w4 ⟨rfl, rfl⟩))
    refine bodyPost_ret (rQ (p := 4) (u := 5) rfl _ _ w.heap.size 26 _ (0, 0) _ rfl R2.out Tryz.underlying26 rfl (by kernel_rfl)) rfl ?_
    exact ⟨rfl, K2.out⟩
   ·rw [if_neg h1] at hg; obtain ⟨h2, rfl⟩ | ⟨h2, _⟩ := hg
    rotate_left
    ·cases h2
    obtain rfl := (Option.some.inj h2).symm; have g2 : (wt == 0) = false := by simp [h1]
    dsimp only [MM.cells, msgP]; clear h2 hr h1 hwt; go_enter Tryz.func21, Tryz.ntmps21; go_wp2_with (first | (go_at_call 38; (with_reducible refine (HH.out _ K1.out).mono ?_); rintro e' w2 ⟨rfl, rfl⟩) | (go_at_call 52; (with_reducible refine (HW.out _).mono ?_); rintro e' w4 ⟨rfl, rfl⟩) | (go_at_call 42; (with_reducible refine (HM.out _ K2.out).mono ?_); rintro e' w3 ⟨rfl, hk⟩; have KF := hD (kT K2.out hk); have RF := hD (rZ hk R2.out); obtain ⟨s0, s1, s2, s3, s4, s5, s6, s7, s8⟩ := cells9 RF.out; have fz := frozN RF.out; clear hk))
    refine bodyPost_ret (rQ (p := 4) (u := 5) rfl _ _ w.heap.size 26 _ (0, 0) _ rfl (set9 (.int .i64 wt) (.int .i64 nd) (.int .i64 xn) (.int .i64 xn) (.int .i64 xs) (.int .i64 xr) (.int .i64 i) (.int .i64 0) (.int .i64 0) RF.out) Tryz.underlying26 rfl (by kernel_rfl)) rfl ?_
    exact ⟨rfl, set9_kp KF.out (Nat.le_refl _) _ _ _ _ _ _ _ _ _⟩
theorem rDo (h : SD B q m w) (i k : Int) : Calls Tryz.prog 18 #[.pointer (some ⟨q, 0, none⟩), .int .i64 i, .int .i64 k] w fun r w' => ∃ v, r = .returned (.tuple #[v, .int .i64 (doP m i k).1]) ∧ RsV 82 w.heap.size (doP m i k).2 v w' ∧ Kp w w' := by
 have hh := fun w1 (hk : Kp w w1) => rHas (h.kp hk) i _ rfl
 have R1 := hD (mH w (.cells #[.slice none 0 0, .slice none 0 0, (0:Int)] 39)); have K1 := hD (kA w (.cells #[.slice none 0 0, .slice none 0 0, (0:Int)] 39)); have fz := frozN R1.out; obtain ⟨s0, s1, s2⟩ := cellsR3 R1.out
 cases hx : prtP m i with
 | none =>
  rw [hx] at hh; have hag : doP m i k = (8, rs0) := by unfold doP; rw [hx]
  rw [hag]; have HH := hD hh; dsimp only [Option.isSome_none] at HH ⊢; clear hh hag hx h; go_enter Tryz.func18, Tryz.ntmps18; go_wp2_with (go_at_call 38; (with_reducible refine (HH.out _ K1.out).mono ?_); rintro e' w2 ⟨rfl, rfl⟩)
  refine bodyPost_ret (rQ (p := 6) (u := 7) rfl _ _ w.heap.size 39 _ (0, 0) _ rfl R1.out Tryz.underlying39 rfl (by kernel_rfl)) rfl ?_
  exact ⟨_, rfl, RsV.zero _ _ _, K1.out⟩
 | some x =>
  obtain ⟨xn, xs, xr, ⟨y1, y2, y3, y4⟩⟩ := x; obtain ⟨nd, hnd⟩ : ∃ n, m.node = n := ⟨_, rfl⟩
  rw [hx] at hh; have hag : doP m i k = if xr < 0 then (9, rs0) else if ((⟨y1, y2, y3, y4⟩ : SeatM).act k).1 ≠ 0 then (((⟨y1, y2, y3, y4⟩ : SeatM).act k).1, rs0) else (0, ⟨[fxTurned i ((⟨y1, y2, y3, y4⟩ : SeatM).act k).2.z.s ((⟨y1, y2, y3, y4⟩ : SeatM).act k).2.z.h], [msgP nd ⟨xn, xs, xr, ⟨y1, y2, y3, y4⟩⟩ i xr k], ((⟨y1, y2, y3, y4⟩ : SeatM).act k).2.work⟩) := by unfold doP; rw [hx, hnd]
  rw [hag]; have HH := hD hh; have HM := hD (fun w1 (hk : Kp w w1) => rMessage (h.kp hk) i nd hnd xn xs xr y1 y2 y3 y4 hx xr k); have hd := fun w1 => refAct11_any ⟨y1, y2, y3, y4⟩ k w1
  obtain ⟨np, hnp⟩ : ∃ n, m.parts.length = n := ⟨_, rfl⟩
  obtain ⟨gp, dp, q0, q3, hi0, hiN, hpc⟩ := h.lookAt i ⟨xn, xs, xr, ⟨y1, y2, y3, y4⟩⟩ hx np hnp; rw [hnd] at q0; obtain ⟨N, hN⟩ : ∃ N : Int, (np : Int) = N := ⟨_, rfl⟩
  have iN : i < N := by omega
  have kz := kA w (.cells #[.slice none 0 0, .slice none 0 0, (0:Int)] 39); have x0 := kZ kz (show w.cell? ⟨gp, i.toNat * 7, none⟩ = some (.int .i64 xn) from hpc 0 _ (by decide) rfl); have x1 := kZ kz (show w.cell? ⟨gp, i.toNat * 7 + 1, none⟩ = some (.int .i64 xs) from hpc 1 _ (by decide) rfl); have x2 := kZ kz (show w.cell? ⟨gp, i.toNat * 7 + 2, none⟩ = some (.int .i64 xr) from hpc 2 _ (by decide) rfl); have x3 := kZ kz (show w.cell? ⟨gp, i.toNat * 7 + 3, none⟩ = some (.int .i64 y1) from hpc 3 _ (by decide) rfl); have x4 := kZ kz (show w.cell? ⟨gp, i.toNat * 7 + 4, none⟩ = some (.int .i64 y2) from hpc 4 _ (by decide) rfl); have x5 := kZ kz (show w.cell? ⟨gp, i.toNat * 7 + 5, none⟩ = some (.int .i64 y3) from hpc 5 _ (by decide) rfl); have x6 := kZ kz (show w.cell? ⟨gp, i.toNat * 7 + 6, none⟩ = some (.int .i64 y4) from hpc 6 _ (by decide) rfl); have q3 := kZ kz q3; have K2 := hD (kT kz (kA (w.alloc (.cells #[.slice none 0 0, .slice none 0 0, (0:Int)] 39)) (.cells #[xn, xs, xr, y1, y2, y3, y4] 95)))
  have R2 := hD (rZ (kA (w.alloc (.cells #[.slice none 0 0, .slice none 0 0, (0:Int)] 39)) (.cells #[xn, xs, xr, y1, y2, y3, y4] 95)) R1.out); have R2P := hD (nX1 w (.cells #[.slice none 0 0, .slice none 0 0, (0:Int)] 39) (.cells #[xn, xs, xr, y1, y2, y3, y4] 95)); obtain ⟨p0, p1, p2, p3, p4, p5, p6⟩ := c7X R2P.out; obtain ⟨v0, v1, v2⟩ := cellsR3 R2.out; have fv := frozN R2.out; clear hh hag hx h hnp hpc hiN kz q0 hnd
  by_cases hr : xr < 0
  ·rw [if_pos hr]; have d1 := dT hr; dsimp only; clear hr hd; go_enter Tryz.func18, Tryz.ntmps18; go_wp2_with (go_at_call 38; (with_reducible refine (HH.out _ K1.out).mono ?_); rintro e' w2 ⟨rfl, rfl⟩)
   refine bodyPost_ret (rQ (p := 6) (u := 7) rfl _ _ w.heap.size 39 _ (0, 0) _ rfl R2.out Tryz.underlying39 rfl (by kernel_rfl)) rfl ?_
   exact ⟨_, rfl, RsV.zero _ _ _, K2.out⟩
  ·rw [if_neg hr]; have d1 := dF hr; obtain ⟨⟨er, ⟨⟨e1, e2, e3, e4⟩, es, ef, ew, ec⟩⟩, hY⟩ : ∃ y, (⟨y1, y2, y3, y4⟩ : SeatM).act k = y := ⟨_, rfl⟩
   rw [hY] at hd ⊢; dsimp only [effV, seatV] at hd ⊢; have HD := hD hd; clear hr hd hY
   by_cases h1 : er = 0
   ·have g1 : (er != 0) = false := by simp [h1]
    rw [if_neg (by simpa using h1)]; dsimp only [msgP, fxTurned]; clear h1; go_enter Tryz.func18, Tryz.ntmps18; go_wp2_with (first | (go_at_call 38; (with_reducible refine (HH.out _ K1.out).mono ?_); rintro e' w2 ⟨rfl, rfl⟩) | (go_at_call 46; (with_reducible refine (HD.out _).mono ?_); rintro e' w3 ⟨rfl, hk⟩; have kz := kT hk (kA w3 (.cells #[e1, e2, e3, e4, es, ef, ew, .bool ec] 98)); have K3 := hD (kT K2.out kz); have R3Z := hD (rZ kz R2.out); have R3P := hD (rZ kz R2P.out); have R3E := hD (mH w3 (.cells #[e1, e2, e3, e4, es, ef, ew, .bool ec] 98)); have HNE := hD (show w3.heap.size ≠ w.heap.size from fun e => by have := oZ (rZ hk R2.out); omega); obtain ⟨s0, s1, s2⟩ := cellsR3 R3Z.out; have fz := frozN R3Z.out; clear hk kz))
    obtain ⟨WD, hWD⟩ : ∃ x, (w3.alloc (.cells #[e1, e2, e3, e4, es, ef, ew, .bool ec] 98)).drew = x := ⟨_, rfl⟩
    have kD : Kp (w3.alloc (.cells #[e1, e2, e3, e4, es, ef, ew, .bool ec] 98)) WD := by rw [← hWD]; exact dQ (Kp.refl _)
    have HWD := hD hWD; have kDD := Kp.refl WD; have RZD := hD (rZ kD R3Z.out); have KD := hD (kT K3.out kD); clear hWD; refine rgW (fun w' => w'.heap[(w.heap.size + 1)]? = some (.cells #[xn, xs, xr, y1, y2, y3, y4] 95) ∧ w'.heap[w3.heap.size]? = some (.cells #[e1, e2, e3, e4, es, ef, ew, .bool ec] 98) ∧ Kp w w') ?_ fun hH => ?_
    ·exact by rw [HWD.out]; exact ⟨rZ kD R3P.out, rZ kD R3E.out, kT K3.out kD⟩
    rw [HWD.out] at hH ⊢; refine tkP 0 ?_
    go_simp; refine tkP 1 ?_
    go_simp; refine tkP 2 ?_
    go_simp; refine tkP 3 ?_ (y := by intro w hZ; obtain ⟨z0, z1, z2, z3, z4, z5, z6⟩ := c7X hZ.1; obtain ⟨y0, y1, y2, y3, y4, y5, y6, y7⟩ := c8X hZ.2.1; go_simp; try rfl)
    go_simp; refine tkP 4 ?_
    go_simp; refine tkP 5 ?_
    go_simp; refine tkP 6 ?_ (y := by intro w hZ; obtain ⟨z0, z1, z2, z3, z4, z5, z6⟩ := c7X hZ.1; obtain ⟨y0, y1, y2, y3, y4, y5, y6, y7⟩ := c8X hZ.2.1; go_simp; try rfl)
    go_simp; refine tkP 7 ?_
    go_simp; refine tkP 9 ?_
    go_simp; refine tkP 10 ?_
    go_simp; refine tkP 11 ?_
    go_simp; refine tkP 12 ?_ (y := by intro w hZ; obtain ⟨z0, z1, z2, z3, z4, z5, z6⟩ := c7X hZ.1; obtain ⟨y0, y1, y2, y3, y4, y5, y6, y7⟩ := c8X hZ.2.1; go_simp; try rfl)
    go_simp; refine tkP 13 ?_
    go_simp; refine tkP 16 ?_
    go_simp; refine tkP 17 ?_ (y := by intro w hZ; obtain ⟨z0, z1, z2, z3, z4, z5, z6⟩ := c7X hZ.1; obtain ⟨y0, y1, y2, y3, y4, y5, y6, y7⟩ := c8X hZ.2.1; go_simp; try rfl)
    go_simp; refine wpAnyH_ready (rs := [8, 14]) (by kernel_rfl) (by simp) ?_
    refine aC (fun K hK => ?_) (aC (fun K hK => ?_) aN0)
    ·go_simp; refine hK.out _ _ (⟨rZ (kA _ _) hH.1, rZ (kA _ _) hH.2.1, kT hH.2.2 (kA _ _)⟩) fun hH => ?_
     clear hK K; have o8 := own_oneF (t := 82) (w := WD) (B := w.heap.size) (⟨8, 0, 0, 0, 0, i, 0, 0, 0, 0, e3, e4, 0, 0⟩ : FX) (kS (kT KD.out kDD)); obtain ⟨V8, hV⟩ : ∃ x, WD.alloc (.cells #[(8:Int), (0:Int), (0:Int), (0:Int), (0:Int), i, (0:Int), (0:Int), (0:Int), (0:Int), e3, e4, (0:Int), .float .f64 0] 82) = x := ⟨_, rfl⟩
     have c8 : Kp WD V8 := by rw [← hV]; exact kA _ _
     dsimp only [FX.cells, MM.cells] at o8; rw [hV] at o8 hH ⊢; obtain ⟨p8, hp⟩ : ∃ x, WD.heap.size = x := ⟨_, rfl⟩
     rw [hp] at o8
     try rw [hp]
     have kc8 := kT kDD c8; clear hV hp; refine rdW 14 fun K hK => ?_
     go_simp; go_wp2_with (go_at_call 42; (with_reducible refine (HM.out _ hH.2.2).mono ?_); rintro e' V14 ⟨rfl, c14⟩)
     refine hK.out _ _ (⟨rZ c14 hH.1, rZ c14 hH.2.1, kT hH.2.2 c14⟩) fun hH => ?_
     clear hK K; have kc14 := kT kc8 c14; have o8 := oK o8 c14; refine rdW 15 fun K hK => ?_
     go_simp; refine hK.out _ _ (⟨rZ (kA _ _) hH.1, rZ (kA _ _) hH.2.1, kT hH.2.2 (kA _ _)⟩) fun hH => ?_
     clear hK K; have o15 := own_oneM (w := V14) (B := w.heap.size) (⟨k, nd, xn, xn, xs, xr, i, 0, 0⟩ : MM) (kS (kT KD.out kc14)); obtain ⟨V15, hV⟩ : ∃ x, V14.alloc (.cells #[k, nd, xn, xn, xs, xr, i, (0:Int), (0:Int)] 26) = x := ⟨_, rfl⟩
     have c15 : Kp V14 V15 := by rw [← hV]; exact kA _ _
     dsimp only [FX.cells, MM.cells] at o15; rw [hV] at o15 hH ⊢; obtain ⟨p15, hp⟩ : ∃ x, V14.heap.size = x := ⟨_, rfl⟩
     rw [hp] at o15
     try rw [hp]
     have kc15 := kT kc14 c15; have o8 := oK o8 c15; clear hV hp; refine tkP 18 ?_
     go_simp; refine rdW 19 fun K hK => ?_
     have r6 := rZ kc15 RZD.out; obtain ⟨s0, s1, s2⟩ := cellsR3 r6; have fz := frozN r6; go_simp; refine hK.out _ _ (⟨(setR3_ne _ _ _ (show w.heap.size + 1 ≠ w.heap.size by omega)).trans hH.1, (setR3_ne _ _ _ (HNE.out)).trans hH.2.1, setR3_kp hH.2.2 (Nat.le_refl _) _ _ _⟩) fun hH => ?_
     clear hK K; have KZ := hD (show Kp w V15 from kT KD.out kc15); obtain ⟨R6, O8, O15⟩ := hD3 r6 o8 o15; clear r6 o8 o15; refine tkP 20 ?_
     go_simp; refine dnW ?_ _
     clear hH; go_wp2; refine bodyPost_ret (rQ (p := 6) (u := 7) rfl _ _ w.heap.size 39 _ (0, 0) _ rfl (setR3 _ _ _ R6.out) Tryz.underlying39 rfl (by kernel_rfl)) rfl ?_
     exact ⟨_, rfl, RsV.set (r := ⟨[(⟨8, 0, 0, 0, 0, i, 0, 0, 0, 0, e3, e4, 0, 0⟩ : FX)], [(⟨k, nd, xn, xn, xs, xr, i, 0, 0⟩ : MM)], ew⟩) R6.out (by decide) (by decide) O8.out O15.out, setR3_kp KZ.out (Nat.le_refl _) _ _ _⟩
    ·go_simp; go_wp2_with (go_at_call 42; (with_reducible refine (HM.out _ hH.2.2).mono ?_); rintro e' V14 ⟨rfl, c14⟩)
     refine hK.out _ _ (⟨rZ c14 hH.1, rZ c14 hH.2.1, kT hH.2.2 c14⟩) fun hH => ?_
     clear hK K; have kc14 := kT kDD c14; refine wpAnyH_ready (rs := [8, 15]) (by kernel_rfl) (by simp) ?_
     refine aC (fun K hK => ?_) (aC (fun K hK => ?_) aN0)
     ·go_simp; refine hK.out _ _ (⟨rZ (kA _ _) hH.1, rZ (kA _ _) hH.2.1, kT hH.2.2 (kA _ _)⟩) fun hH => ?_
      clear hK K; have o8 := own_oneF (t := 82) (w := V14) (B := w.heap.size) (⟨8, 0, 0, 0, 0, i, 0, 0, 0, 0, e3, e4, 0, 0⟩ : FX) (kS (kT KD.out kc14)); obtain ⟨V8, hV⟩ : ∃ x, V14.alloc (.cells #[(8:Int), (0:Int), (0:Int), (0:Int), (0:Int), i, (0:Int), (0:Int), (0:Int), (0:Int), e3, e4, (0:Int), .float .f64 0] 82) = x := ⟨_, rfl⟩
      have c8 : Kp V14 V8 := by rw [← hV]; exact kA _ _
      dsimp only [FX.cells, MM.cells] at o8; rw [hV] at o8 hH ⊢; obtain ⟨p8, hp⟩ : ∃ x, V14.heap.size = x := ⟨_, rfl⟩
      rw [hp] at o8
      try rw [hp]
      have kc8 := kT kc14 c8; clear hV hp; refine rdW 15 fun K hK => ?_
      go_simp; refine hK.out _ _ (⟨rZ (kA _ _) hH.1, rZ (kA _ _) hH.2.1, kT hH.2.2 (kA _ _)⟩) fun hH => ?_
      clear hK K; have o15 := own_oneM (w := V8) (B := w.heap.size) (⟨k, nd, xn, xn, xs, xr, i, 0, 0⟩ : MM) (kS (kT KD.out kc8)); obtain ⟨V15, hV⟩ : ∃ x, V8.alloc (.cells #[k, nd, xn, xn, xs, xr, i, (0:Int), (0:Int)] 26) = x := ⟨_, rfl⟩
      have c15 : Kp V8 V15 := by rw [← hV]; exact kA _ _
      dsimp only [FX.cells, MM.cells] at o15; rw [hV] at o15 hH ⊢; obtain ⟨p15, hp⟩ : ∃ x, V8.heap.size = x := ⟨_, rfl⟩
      rw [hp] at o15
      try rw [hp]
      have kc15 := kT kc8 c15; have o8 := oK o8 c15; clear hV hp; refine tkP 18 ?_
      go_simp; refine rdW 19 fun K hK => ?_
      have r6 := rZ kc15 RZD.out; obtain ⟨s0, s1, s2⟩ := cellsR3 r6; have fz := frozN r6; go_simp; refine hK.out _ _ (⟨(setR3_ne _ _ _ (show w.heap.size + 1 ≠ w.heap.size by omega)).trans hH.1, (setR3_ne _ _ _ (HNE.out)).trans hH.2.1, setR3_kp hH.2.2 (Nat.le_refl _) _ _ _⟩) fun hH => ?_
      clear hK K; have KZ := hD (show Kp w V15 from kT KD.out kc15); obtain ⟨R6, O8, O15⟩ := hD3 r6 o8 o15; clear r6 o8 o15; refine tkP 20 ?_
      go_simp; refine dnW ?_ _
      clear hH; go_wp2; refine bodyPost_ret (rQ (p := 6) (u := 7) rfl _ _ w.heap.size 39 _ (0, 0) _ rfl (setR3 _ _ _ R6.out) Tryz.underlying39 rfl (by kernel_rfl)) rfl ?_
      exact ⟨_, rfl, RsV.set (r := ⟨[(⟨8, 0, 0, 0, 0, i, 0, 0, 0, 0, e3, e4, 0, 0⟩ : FX)], [(⟨k, nd, xn, xn, xs, xr, i, 0, 0⟩ : MM)], ew⟩) R6.out (by decide) (by decide) O8.out O15.out, setR3_kp KZ.out (Nat.le_refl _) _ _ _⟩
     ·go_simp; refine hK.out _ _ (⟨rZ (kA _ _) hH.1, rZ (kA _ _) hH.2.1, kT hH.2.2 (kA _ _)⟩) fun hH => ?_
      clear hK K; have o15 := own_oneM (w := V14) (B := w.heap.size) (⟨k, nd, xn, xn, xs, xr, i, 0, 0⟩ : MM) (kS (kT KD.out kc14)); obtain ⟨V15, hV⟩ : ∃ x, V14.alloc (.cells #[k, nd, xn, xn, xs, xr, i, (0:Int), (0:Int)] 26) = x := ⟨_, rfl⟩
      have c15 : Kp V14 V15 := by rw [← hV]; exact kA _ _
      dsimp only [FX.cells, MM.cells] at o15; rw [hV] at o15 hH ⊢; obtain ⟨p15, hp⟩ : ∃ x, V14.heap.size = x := ⟨_, rfl⟩
      rw [hp] at o15
      try rw [hp]
      have kc15 := kT kc14 c15; clear hV hp; refine rdW 8 fun K hK => ?_
      go_simp; refine hK.out _ _ (⟨rZ (kA _ _) hH.1, rZ (kA _ _) hH.2.1, kT hH.2.2 (kA _ _)⟩) fun hH => ?_
      clear hK K; have o8 := own_oneF (t := 82) (w := V15) (B := w.heap.size) (⟨8, 0, 0, 0, 0, i, 0, 0, 0, 0, e3, e4, 0, 0⟩ : FX) (kS (kT KD.out kc15)); obtain ⟨V8, hV⟩ : ∃ x, V15.alloc (.cells #[(8:Int), (0:Int), (0:Int), (0:Int), (0:Int), i, (0:Int), (0:Int), (0:Int), (0:Int), e3, e4, (0:Int), .float .f64 0] 82) = x := ⟨_, rfl⟩
      have c8 : Kp V15 V8 := by rw [← hV]; exact kA _ _
      dsimp only [FX.cells, MM.cells] at o8; rw [hV] at o8 hH ⊢; obtain ⟨p8, hp⟩ : ∃ x, V15.heap.size = x := ⟨_, rfl⟩
      rw [hp] at o8
      try rw [hp]
      have kc8 := kT kc15 c8; have o15 := oK o15 c8; clear hV hp; refine tkP 18 ?_
      go_simp; refine rdW 19 fun K hK => ?_
      have r6 := rZ kc8 RZD.out; obtain ⟨s0, s1, s2⟩ := cellsR3 r6; have fz := frozN r6; go_simp; refine hK.out _ _ (⟨(setR3_ne _ _ _ (show w.heap.size + 1 ≠ w.heap.size by omega)).trans hH.1, (setR3_ne _ _ _ (HNE.out)).trans hH.2.1, setR3_kp hH.2.2 (Nat.le_refl _) _ _ _⟩) fun hH => ?_
      clear hK K; have KZ := hD (show Kp w V8 from kT KD.out kc8); obtain ⟨R6, O15, O8⟩ := hD3 r6 o15 o8; clear r6 o15 o8; refine tkP 20 ?_
      go_simp; refine dnW ?_ _
      clear hH; go_wp2; refine bodyPost_ret (rQ (p := 6) (u := 7) rfl _ _ w.heap.size 39 _ (0, 0) _ rfl (setR3 _ _ _ R6.out) Tryz.underlying39 rfl (by kernel_rfl)) rfl ?_
      exact ⟨_, rfl, RsV.set (r := ⟨[(⟨8, 0, 0, 0, 0, i, 0, 0, 0, 0, e3, e4, 0, 0⟩ : FX)], [(⟨k, nd, xn, xn, xs, xr, i, 0, 0⟩ : MM)], ew⟩) R6.out (by decide) (by decide) O8.out O15.out, setR3_kp KZ.out (Nat.le_refl _) _ _ _⟩
   ·have g1 : (er != 0) = true := by simp [h1]
    rw [if_pos h1]; dsimp only; clear h1; go_enter Tryz.func18, Tryz.ntmps18; go_wp2_with (first | (go_at_call 38; (with_reducible refine (HH.out _ K1.out).mono ?_); rintro e' w2 ⟨rfl, rfl⟩) | (go_at_call 46; (with_reducible refine (HD.out _).mono ?_); rintro e' w3 ⟨rfl, hk⟩; have kz := kT hk (kA w3 (.cells #[e1, e2, e3, e4, es, ef, ew, .bool ec] 98)); have K3 := hD (kT K2.out kz); have R3Z := hD (rZ kz R2.out); have R3P := hD (rZ kz R2P.out); have R3E := hD (mH w3 (.cells #[e1, e2, e3, e4, es, ef, ew, .bool ec] 98)); have HNE := hD (show w3.heap.size ≠ w.heap.size from fun e => by have := oZ (rZ hk R2.out); omega); obtain ⟨s0, s1, s2⟩ := cellsR3 R3Z.out; have fz := frozN R3Z.out; clear hk kz))
    refine bodyPost_ret (rQ (p := 6) (u := 7) rfl _ _ w.heap.size 39 _ (0, 0) _ rfl (setR3 (.slice none 0 0) (.slice none 0 0) (.int .i64 0) R3Z.out) Tryz.underlying39 rfl (by kernel_rfl)) rfl ?_
    exact ⟨_, rfl, RsV.zero _ _ _, setR3_kp K3.out (Nat.le_refl _) _ _ _⟩
theorem rJoin (h : SD B q m w) (cn cs co cd : Int) (cx : Nat) (hc : cx < 18446744073709551616) (p : Int) (now : Nat) (ht : now < 18446744073709551616) : Calls Tryz.prog 23 #[.pointer (some ⟨q, 0, none⟩), .agg #[cn, cs, co, cd, cx], .int .i64 p, .float .f64 now] w fun r w' => ∃ v, r = .returned (.tuple #[v, .int .i64 (joinP m ⟨cn, cs, co, cd, cx⟩ p now).1]) ∧ RsV 82 w.heap.size (joinP m ⟨cn, cs, co, cd, cx⟩ p now).2 v w' ∧ Kp w w' := by
 have hr := fun w1 => refRight9_any ⟨cn, cs, co, cd, cx⟩ hc w1
 have ho := fun w1 => refOpen9_any ⟨cn, cs, co, cd, cx⟩ hc now ht w1
 dsimp only [CX.cells] at hr ho; obtain ⟨np, hnp⟩ : ∃ n, m.parts.length = n := ⟨_, rfl⟩
 obtain ⟨nd, hnd⟩ : ∃ n, m.node = n := ⟨_, rfl⟩
 obtain ⟨a, d, q0, q3⟩ := h.look np hnp; rw [hnd] at q0; obtain ⟨N, hN⟩ : ∃ N : Int, (np : Int) = N := ⟨_, rfl⟩
 unfold joinP; rw [hnp, hnd, hN]; obtain ⟨tr, htr⟩ : ∃ x, rightX ⟨cn, cs, co, cd, cx⟩ = x := ⟨_, rfl⟩
 obtain ⟨t1, ht1⟩ : ∃ x, openX ⟨cn, cs, co, cd, cx⟩ now = x := ⟨_, rfl⟩
 rw [htr] at hr ⊢; rw [ht1] at ho ⊢; dsimp only; obtain ⟨HR, HO, Q0, Q3⟩ := hD4 hr ho q0 q3; have R1C := hD (nX0 w (.cells #[cn, cs, co, cd, cx] 60) (.cells #[.slice none 0 0, .slice none 0 0, (0:Int)] 39)); have R1Z := hD (nX1 w (.cells #[cn, cs, co, cd, cx] 60) (.cells #[.slice none 0 0, .slice none 0 0, (0:Int)] 39)); have K1 := hD (pk2 w (.cells #[cn, cs, co, cd, cx] 60) (.cells #[.slice none 0 0, .slice none 0 0, (0:Int)] 39)); have hsf := sF; obtain ⟨b0, b1, b2, b3, b4⟩ := cells5 R1C.out; clear h hr ho hnp hnd htr ht1 q0 q3 hc ht
 cases tr with
 | false =>
  rw [if_pos (.inl rfl)]; dsimp only; go_enter Tryz.func23, Tryz.ntmps23; go_wp2_with (go_at_call 62; (with_reducible refine (HR.out _).mono ?_); rintro e' w3 ⟨rfl, hk⟩; have K2 := hD (kT K1.out hk); have R2C := hD (rZ hk R1C.out); have R2Z := hD (rZ hk R1Z.out); obtain ⟨u0, u1, u2, u3, u4⟩ := cells5 R2C.out; obtain ⟨u5, u6, u7⟩ := cellsR3 R2Z.out; have fu := frozN R2Z.out; have qq3 := kZ (kT K1.out hk) Q3.out; clear hk)
  refine bodyPost_ret (rQ (p := 8) (u := 9) rfl _ _ (w.heap.size + 1) 39 _ (0, 0) _ rfl (setR3 (.slice none 0 0) (.slice none 0 0) (.int .i64 0) R2Z.out) Tryz.underlying39 rfl (by kernel_rfl)) rfl ?_
  exact ⟨_, rfl, RsV.zero _ _ _, setR3_kp K2.out (show w.heap.size ≤ w.heap.size + 1 by omega) _ _ _⟩
 | true =>
  by_cases hp : p = 1 ∨ p = 2
  rotate_left
  ·rw [if_pos (.inr hp)]; have g1 : (p != 1) = true := by simpa using fun e => hp (.inl e)
   have g2 : (p != 2) = true := by simpa using fun e => hp (.inr e)
   dsimp only; clear hp; go_enter Tryz.func23, Tryz.ntmps23; go_wp2_with (go_at_call 62; (with_reducible refine (HR.out _).mono ?_); rintro e' w3 ⟨rfl, hk⟩; have K2 := hD (kT K1.out hk); have R2C := hD (rZ hk R1C.out); have R2Z := hD (rZ hk R1Z.out); obtain ⟨u0, u1, u2, u3, u4⟩ := cells5 R2C.out; obtain ⟨u5, u6, u7⟩ := cellsR3 R2Z.out; have fu := frozN R2Z.out; have qq3 := kZ (kT K1.out hk) Q3.out; clear hk)
   refine bodyPost_ret (rQ (p := 8) (u := 9) rfl _ _ (w.heap.size + 1) 39 _ (0, 0) _ rfl (setR3 (.slice none 0 0) (.slice none 0 0) (.int .i64 0) R2Z.out) Tryz.underlying39 rfl (by kernel_rfl)) rfl ?_
   exact ⟨_, rfl, RsV.zero _ _ _, setR3_kp K2.out (show w.heap.size ≤ w.heap.size + 1 by omega) _ _ _⟩
  ·rw [if_neg (fun e => e.elim (fun e => by cases e) (fun e => e hp))]
   cases t1 with
   | false =>
    rw [if_pos rfl]; dsimp only
    rcases hp with rfl | rfl <;> (
     go_enter Tryz.func23, Tryz.ntmps23; go_wp2_with (first | (go_at_call 62; (with_reducible refine (HR.out _).mono ?_); rintro e' w3 ⟨rfl, hk⟩; have K2 := hD (kT K1.out hk); have R2C := hD (rZ hk R1C.out); have R2Z := hD (rZ hk R1Z.out); obtain ⟨u0, u1, u2, u3, u4⟩ := cells5 R2C.out; obtain ⟨u5, u6, u7⟩ := cellsR3 R2Z.out; have fu := frozN R2Z.out; have qq3 := kZ (kT K1.out hk) Q3.out; clear hk) | (go_at_call 63; (with_reducible refine (HO.out _).mono ?_); rintro e' w4 ⟨rfl, hk⟩; have K3 := hD (kT K2.out hk); have R3C := hD (rZ hk R2C.out); have R3Z := hD (rZ hk R2Z.out); obtain ⟨v0, v1, v2, v3, v4⟩ := cells5 R3C.out; obtain ⟨v5, v6, v7⟩ := cellsR3 R3Z.out; have fv := frozN R3Z.out; have qq4 := kZ (kT K2.out hk) Q3.out; clear hk))
     refine bodyPost_ret (rQ (p := 8) (u := 9) rfl _ _ (w.heap.size + 1) 39 _ (0, 0) _ rfl (setR3 (.slice none 0 0) (.slice none 0 0) (.int .i64 0) R3Z.out) Tryz.underlying39 rfl (by kernel_rfl)) rfl ?_
     exact ⟨_, rfl, RsV.zero _ _ _, setR3_kp K3.out (show w.heap.size ≤ w.heap.size + 1 by omega) _ _ _⟩)
   | true =>
    rw [if_neg (by decide)]
    by_cases h7 : 7 < np
    ·have d1 : decide (N > 7) = true := dT (by omega); rw [if_pos h7]; dsimp only; clear h7
     rcases hp with rfl | rfl <;> (
      go_enter Tryz.func23, Tryz.ntmps23; go_wp2_with (first | (go_at_call 62; (with_reducible refine (HR.out _).mono ?_); rintro e' w3 ⟨rfl, hk⟩; have K2 := hD (kT K1.out hk); have R2C := hD (rZ hk R1C.out); have R2Z := hD (rZ hk R1Z.out); obtain ⟨u0, u1, u2, u3, u4⟩ := cells5 R2C.out; obtain ⟨u5, u6, u7⟩ := cellsR3 R2Z.out; have fu := frozN R2Z.out; have qq3 := kZ (kT K1.out hk) Q3.out; clear hk) | (go_at_call 63; (with_reducible refine (HO.out _).mono ?_); rintro e' w4 ⟨rfl, hk⟩; have K3 := hD (kT K2.out hk); have R3C := hD (rZ hk R2C.out); have R3Z := hD (rZ hk R2Z.out); obtain ⟨v0, v1, v2, v3, v4⟩ := cells5 R3C.out; obtain ⟨v5, v6, v7⟩ := cellsR3 R3Z.out; have fv := frozN R3Z.out; have qq4 := kZ (kT K2.out hk) Q3.out; clear hk))
      refine bodyPost_ret (rQ (p := 8) (u := 9) rfl _ _ (w.heap.size + 1) 39 _ (0, 0) _ rfl (setR3 (.slice none 0 0) (.slice none 0 0) (.int .i64 0) R3Z.out) Tryz.underlying39 rfl (by kernel_rfl)) rfl ?_
      exact ⟨_, rfl, RsV.zero _ _ _, setR3_kp K3.out (show w.heap.size ≤ w.heap.size + 1 by omega) _ _ _⟩)
    ·have d1 : decide (N > 7) = false := dF (by omega); rw [if_neg h7]; dsimp only; clear h7; obtain ⟨g1, e1, g2⟩ : ∃ b, (p != 1) = b ∧ (b = true → (p != 2) = false) := ⟨_, rfl, fun e => by rcases hp with rfl | rfl <;> simp at e ⊢⟩
     clear hp
     cases g1 <;> (
      go_enter Tryz.func23, Tryz.ntmps23; go_wp2_with (first | (go_at_call 62; (with_reducible refine (HR.out _).mono ?_); rintro e' w3 ⟨rfl, hk⟩; have K2 := hD (kT K1.out hk); have R2C := hD (rZ hk R1C.out); have R2Z := hD (rZ hk R1Z.out); obtain ⟨u0, u1, u2, u3, u4⟩ := cells5 R2C.out; obtain ⟨u5, u6, u7⟩ := cellsR3 R2Z.out; have fu := frozN R2Z.out; have qq3 := kZ (kT K1.out hk) Q3.out; clear hk) | (go_at_call 63; (with_reducible refine (HO.out _).mono ?_); rintro e' w4 ⟨rfl, hk⟩; have K3 := hD (kT K2.out hk); have R3C := hD (rZ hk R2C.out); have R3Z := hD (rZ hk R2Z.out); obtain ⟨v0, v1, v2, v3, v4⟩ := cells5 R3C.out; obtain ⟨v5, v6, v7⟩ := cellsR3 R3Z.out; have fv := frozN R3Z.out; have qq4 := kZ (kT K2.out hk) Q3.out; clear hk))
      obtain ⟨WD, hWD⟩ : ∃ x, w4.drew = x := ⟨_, rfl⟩
      have kD : Kp w4 WD := by rw [← hWD]; exact dQ (Kp.refl _)
      have HWD := hD hWD; have kDD := Kp.refl WD; have RZD := hD (rZ kD R3Z.out); have KD := hD (kT K3.out kD); clear hWD; refine rgW (fun w' => w'.heap[w.heap.size]? = some (.cells #[cn, cs, co, cd, cx] 60) ∧ Kp w w') ?_ fun hH => ?_
      ·exact by rw [HWD.out]; exact ⟨rZ kD R3C.out, kT K3.out kD⟩
      rw [HWD.out] at hH ⊢; refine tkP 0 ?_
      go_simp; refine tkP 1 ?_
      go_simp; refine tkP 2 ?_ (y := by intro w hZ; obtain ⟨z0, z1, z2, z3, z4⟩ := cells5 hZ.1; go_simp; try rfl)
      go_simp; refine tkP 3 ?_
      go_simp; refine tkP 4 ?_
      go_simp; refine tkP 6 ?_
      go_simp; refine tkP 7 ?_
      go_simp; refine tkP 8 ?_
      go_simp; refine tkP 9 ?_ (y := by intro w hZ; have n0 := kZ hZ.2 Q0.out; go_simp; try rfl)
      go_simp; refine tkP 10 ?_
      go_simp; refine tkP 11 ?_
      go_simp; refine tkP 12 ?_ (y := by intro w hZ; obtain ⟨z0, z1, z2, z3, z4⟩ := cells5 hZ.1; go_simp; try rfl)
      go_simp; refine tkP 13 ?_
      go_simp; refine tkP 14 ?_ (y := by intro w hZ; obtain ⟨z0, z1, z2, z3, z4⟩ := cells5 hZ.1; go_simp; try rfl)
      go_simp; refine tkP 15 ?_
      go_simp; refine tkP 16 ?_
      go_simp; refine tkP 17 ?_
      go_simp; refine wpAnyH_ready (rs := [5, 18]) (by kernel_rfl) (by simp) ?_
      refine aC (fun K hK => ?_) (aC (fun K hK => ?_) aN0)
      ·go_simp; refine hK.out _ _ (⟨rZ (kA _ _) hH.1, kT hH.2 (kA _ _)⟩) fun hH => ?_
       clear hK K; have o5 := own_oneF (t := 82) (w := WD) (B := w.heap.size) (⟨6, cn, cs, 0, 0, N, p, 0, 0, 0, 0, 0, 0, 0⟩ : FX) (kS (kT KD.out kDD)); obtain ⟨V5, hV⟩ : ∃ x, WD.alloc (.cells #[(6:Int), cn, cs, (0:Int), (0:Int), N, p, (0:Int), (0:Int), (0:Int), (0:Int), (0:Int), (0:Int), .float .f64 0] 82) = x := ⟨_, rfl⟩
       have c5 : Kp WD V5 := by rw [← hV]; exact kA _ _
       dsimp only [FX.cells, MM.cells] at o5; rw [hV] at o5 hH ⊢; obtain ⟨p5, hp⟩ : ∃ x, WD.heap.size = x := ⟨_, rfl⟩
       rw [hp] at o5
       try rw [hp]
       have kc5 := kT kDD c5; clear hV hp; refine rdW 18 fun K hK => ?_
       go_simp; refine hK.out _ _ (⟨rZ (kA _ _) hH.1, kT hH.2 (kA _ _)⟩) fun hH => ?_
       clear hK K; have o18 := own_oneM (w := V5) (B := w.heap.size) (⟨17, nd, cn, cn, cs, 0, N, p, 0⟩ : MM) (kS (kT KD.out kc5)); obtain ⟨V18, hV⟩ : ∃ x, V5.alloc (.cells #[(17:Int), nd, cn, cn, cs, (0:Int), N, p, (0:Int)] 26) = x := ⟨_, rfl⟩
       have c18 : Kp V5 V18 := by rw [← hV]; exact kA _ _
       dsimp only [FX.cells, MM.cells] at o18; rw [hV] at o18 hH ⊢; obtain ⟨p18, hp⟩ : ∃ x, V5.heap.size = x := ⟨_, rfl⟩
       rw [hp] at o18
       try rw [hp]
       have kc18 := kT kc5 c18; have o5 := oK o5 c18; clear hV hp; refine tkP 19 ?_
       go_simp; refine rdW 20 fun K hK => ?_
       have r6 := rZ kc18 RZD.out; obtain ⟨s0, s1, s2⟩ := cellsR3 r6; have fz := frozN r6; go_simp; refine hK.out _ _ (⟨(setR3_ne _ _ _ (show w.heap.size ≠ w.heap.size + 1 by omega)).trans hH.1, setR3_kp hH.2 (show w.heap.size ≤ w.heap.size + 1 by omega) _ _ _⟩) fun hH => ?_
       clear hK K; have KZ := hD (show Kp w V18 from kT KD.out kc18); obtain ⟨R6, O5, O18⟩ := hD3 r6 o5 o18; clear r6 o5 o18; refine tkP 21 ?_
       go_simp; refine dnW ?_ _
       clear hH; go_wp2; refine bodyPost_ret (rQ (p := 8) (u := 9) rfl _ _ (w.heap.size + 1) 39 _ (0, 0) _ rfl (setR3 _ _ _ R6.out) Tryz.underlying39 rfl (by kernel_rfl)) rfl ?_
       exact ⟨_, rfl, RsV.set (r := ⟨[(⟨6, cn, cs, 0, 0, N, p, 0, 0, 0, 0, 0, 0, 0⟩ : FX)], [(⟨17, nd, cn, cn, cs, 0, N, p, 0⟩ : MM)], 0⟩) R6.out (by decide) (by decide) O5.out O18.out, setR3_kp KZ.out (show w.heap.size ≤ w.heap.size + 1 by omega) _ _ _⟩
      ·go_simp; refine hK.out _ _ (⟨rZ (kA _ _) hH.1, kT hH.2 (kA _ _)⟩) fun hH => ?_
       clear hK K; have o18 := own_oneM (w := WD) (B := w.heap.size) (⟨17, nd, cn, cn, cs, 0, N, p, 0⟩ : MM) (kS (kT KD.out kDD)); obtain ⟨V18, hV⟩ : ∃ x, WD.alloc (.cells #[(17:Int), nd, cn, cn, cs, (0:Int), N, p, (0:Int)] 26) = x := ⟨_, rfl⟩
       have c18 : Kp WD V18 := by rw [← hV]; exact kA _ _
       dsimp only [FX.cells, MM.cells] at o18; rw [hV] at o18 hH ⊢; obtain ⟨p18, hp⟩ : ∃ x, WD.heap.size = x := ⟨_, rfl⟩
       rw [hp] at o18
       try rw [hp]
       have kc18 := kT kDD c18; clear hV hp; refine rdW 5 fun K hK => ?_
       go_simp; refine hK.out _ _ (⟨rZ (kA _ _) hH.1, kT hH.2 (kA _ _)⟩) fun hH => ?_
       clear hK K; have o5 := own_oneF (t := 82) (w := V18) (B := w.heap.size) (⟨6, cn, cs, 0, 0, N, p, 0, 0, 0, 0, 0, 0, 0⟩ : FX) (kS (kT KD.out kc18)); obtain ⟨V5, hV⟩ : ∃ x, V18.alloc (.cells #[(6:Int), cn, cs, (0:Int), (0:Int), N, p, (0:Int), (0:Int), (0:Int), (0:Int), (0:Int), (0:Int), .float .f64 0] 82) = x := ⟨_, rfl⟩
       have c5 : Kp V18 V5 := by rw [← hV]; exact kA _ _
       dsimp only [FX.cells, MM.cells] at o5; rw [hV] at o5 hH ⊢; obtain ⟨p5, hp⟩ : ∃ x, V18.heap.size = x := ⟨_, rfl⟩
       rw [hp] at o5
       try rw [hp]
       have kc5 := kT kc18 c5; have o18 := oK o18 c5; clear hV hp; refine tkP 19 ?_
       go_simp; refine rdW 20 fun K hK => ?_
       have r6 := rZ kc5 RZD.out; obtain ⟨s0, s1, s2⟩ := cellsR3 r6; have fz := frozN r6; go_simp; refine hK.out _ _ (⟨(setR3_ne _ _ _ (show w.heap.size ≠ w.heap.size + 1 by omega)).trans hH.1, setR3_kp hH.2 (show w.heap.size ≤ w.heap.size + 1 by omega) _ _ _⟩) fun hH => ?_
       clear hK K; have KZ := hD (show Kp w V5 from kT KD.out kc5); obtain ⟨R6, O18, O5⟩ := hD3 r6 o18 o5; clear r6 o18 o5; refine tkP 21 ?_
       go_simp; refine dnW ?_ _
       clear hH; go_wp2; refine bodyPost_ret (rQ (p := 8) (u := 9) rfl _ _ (w.heap.size + 1) 39 _ (0, 0) _ rfl (setR3 _ _ _ R6.out) Tryz.underlying39 rfl (by kernel_rfl)) rfl ?_
       exact ⟨_, rfl, RsV.set (r := ⟨[(⟨6, cn, cs, 0, 0, N, p, 0, 0, 0, 0, 0, 0, 0⟩ : FX)], [(⟨17, nd, cn, cn, cs, 0, N, p, 0⟩ : MM)], 0⟩) R6.out (by decide) (by decide) O5.out O18.out, setR3_kp KZ.out (show w.heap.size ≤ w.heap.size + 1 by omega) _ _ _⟩)
end Go.Proofs.YtncoofnhifcnhaaGreatDoor
