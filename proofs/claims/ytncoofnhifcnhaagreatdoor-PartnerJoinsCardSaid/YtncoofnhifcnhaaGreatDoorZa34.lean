/- Parts of this proof (own work). -/
import Derived.Test.YtncoofnhifcnhaaGreatDoorZa33
set_option maxRecDepth 100000
set_option maxHeartbeats 40000000
namespace Go.Proofs.YtncoofnhifcnhaaGreatDoor
open Go.RowKit Go.ChangeShapes Go.WideShapes
variable {w0 w w' W w3 : World} {B q : Nat} {m : StM} {ads : List Addr}
theorem setR3_drew {b : Nat} {t : TypeId} {x0 x1 x2 : Value} (y0 y1 y2 : Value) (h : w.heap[b]? = some (.cells #[x0, x1, x2] t (0, 0))) : (((w.setCell ⟨b, 0, none⟩ y0).setCell ⟨b, 1, none⟩ y1).setCell ⟨b, 2, none⟩ y2).drew.heap[b]? = some (.cells #[y0, y1, y2] t (0, 0)) := by
 rw [drew_heapM]; exact setR3 y0 y1 y2 h
theorem okz_ok {z : SeatM} {e : Int} (h : OkZ z e) (he : e = 1 ∨ e = 2) : z.ok := by
 obtain ⟨h1, h2, h3⟩ := right_in h.1; obtain ⟨p, e', s, hh⟩ := z; have hp := h.p; have h4 := h.2; dsimp only at hp h4 h2 h3; unfold SeatM.ok i64M; dsimp only; unfold allT at h2; unfold howsM at h3; simp only [List.mem_cons, List.not_mem_nil, or_false] at h2 h3
 omega
theorem act_form (z : SeatM) (k : Int) (h : (z.act k).1 = 0) : (z.act k).2.changed = true ∧ (z.act k).2.send = k := by
 unfold SeatM.act at h ⊢
 split at h
 ·cases h
 ·split at h
  ·rename_i h1 h2
   exact absurd h h2
  ·rename_i h1 h2
   rw [if_neg h1, if_neg h2]; exact ⟨rfl, rfl⟩
theorem pDo (V : St ads w) (TC : TabC ads w) (TS : TabS ads w) (h : SL B q m w) (ok : OkS m) (i k : Int) (ik : i64M k) : Calls Tryz.prog 17 #[.pointer (some ⟨q, 0, none⟩), .int .i64 i, .int .i64 k] w fun r w' => ∃ v, r = .returned (.tuple #[v, errI ads (doP m i k).1]) ∧ RsV 73 w.heap.size (doP m i k).2 v w' ∧ Kp w w' := by
 have EE : EP [3, 7, 8] ads w := ep_of_st V (by decide); obtain ⟨nd, hnd⟩ : ∃ n, m.node = n := ⟨_, rfl⟩
 have R1 := hD (mH w (.cells #[.slice none 0 0, .slice none 0 0, (0:Int)] 34)); have K1 := hD (kA w (.cells #[.slice none 0 0, .slice none 0 0, (0:Int)] 34)); obtain ⟨s0, s1, s2⟩ := cellsR3 R1.out; have fz := frozN R1.out
 cases hx : prtP m i with
 | none =>
  have hag : doP m i k = (8, rs0) := by unfold doP; rw [hx]
  rw [hag]; have HF := hD (fun w1 (hk : Kp w w1) => pFind (h.kp hk) i nd hnd 0 0 0 0 0 0 0 false (.inr ⟨hx, rfl, rfl⟩)); have ce : w.cell? ⟨0, 0, none⟩ = some (errI ads 8) := EE.cell 7 (by decide); obtain ⟨er, her⟩ : ∃ x, errI ads 8 = x := ⟨_, rfl⟩
  have hltE : 0 < w.heap.size := old_of_cell ce; have hnE : ¬ (w.heap.size = 0) := by omega
  have hnE2 := Ne.symm hnE; rw [her] at ce; dsimp only; rw [her]; have CE := hD ce; clear V TC TS h ok hag hx hnd EE her ce hltE; go_enter Tryz.func17, Tryz.ntmps17; go_wp2_with (go_at_call 29; (with_reducible refine (HF.out _ K1.out).mono ?_); rintro e' w2 ⟨rfl, hk⟩; have kz := kT hk (kA w2 (.cells #[(0:Int), (0:Int), (0:Int), (0:Int), (0:Int), (0:Int), (0:Int), nd, i] 84)); have K2 := hD (kT K1.out kz); have R2 := hD (rZ kz R1.out); have R2K := hD (mH w2 (.cells #[(0:Int), (0:Int), (0:Int), (0:Int), (0:Int), (0:Int), (0:Int), nd, i] 84)); obtain ⟨a0, a1, a2, a3, a4, a5, a6, a7, a8⟩ := cells9 R2K.out; obtain ⟨t0, t1, t2⟩ := cellsR3 R2.out; have cg := kZ K2.out CE.out; have f2 := frozN R2.out; clear hk kz)
  go_region
  go_wp2; refine bodyPost_ret (rQ (p := 6) (u := 7) rfl _ _ w.heap.size 34 _ (0, 0) _ rfl (setR3_drew (.slice none 0 0) (.slice none 0 0) (.int .i64 0) R2.out) Tryz.underlying34 rfl (by kernel_rfl)) rfl ?_
  exact ⟨_, rfl, RsV.zero _ _ _, dQ (setR3_kp K2.out (Nat.le_refl _) _ _ _)⟩
 | some x =>
  have hle := prt_le ok hx; have hzo := okz_ok hle.2.2.2.2.2 (.inr rfl); have hrg := hle.2.2.2.1; obtain ⟨xn, xs, xr, ⟨y1, y2, y3, y4⟩⟩ := x; dsimp only at hzo hrg; have hag : doP m i k = if xr < 0 then (9, rs0) else if ((⟨y1, y2, y3, y4⟩ : SeatM).act k).1 ≠ 0 then (((⟨y1, y2, y3, y4⟩ : SeatM).act k).1, rs0) else (0, ⟨[fxTurned i ((⟨y1, y2, y3, y4⟩ : SeatM).act k).2.z.s ((⟨y1, y2, y3, y4⟩ : SeatM).act k).2.z.h], [msgP nd ⟨xn, xs, xr, ⟨y1, y2, y3, y4⟩⟩ i xr k], ((⟨y1, y2, y3, y4⟩ : SeatM).act k).2.work⟩) := by unfold doP; rw [hx, hnd]
  rw [hag]; have HF := hD (fun w1 (hk : Kp w w1) => pFind (h.kp hk) i nd hnd xn xs xr y1 y2 y3 y4 true (.inl ⟨hx, rfl⟩)); have HPL := hD (fun w b hb => kPlaced (w := w) xn xs xr y1 y2 y3 y4 nd i b hb)
  by_cases hr : xr < 0
  ·have hb : (xr != -1) = false := by (have : xr = -1 := by omega); simp [this]
   rw [if_pos hr]; have ce : w.cell? ⟨1, 0, none⟩ = some (errI ads 9) := EE.cell 8 (by decide); obtain ⟨er, her⟩ : ∃ x, errI ads 9 = x := ⟨_, rfl⟩
   have hltE : 1 < w.heap.size := old_of_cell ce; have hnE : ¬ (w.heap.size = 1) := by omega
   have hnE2 := Ne.symm hnE; rw [her] at ce; dsimp only; rw [her]; have CE := hD ce; clear V TC TS h ok hag hx hnd EE her ce hltE hle hzo hrg hr; go_enter Tryz.func17, Tryz.ntmps17; go_wp2_with (first | (go_at_call 29; (with_reducible refine (HF.out _ K1.out).mono ?_); rintro e' w2 ⟨rfl, hk⟩; have kz := kT hk (kA w2 (.cells #[xn, xs, xr, y1, y2, y3, y4, nd, i] 84)); have K2 := hD (kT K1.out kz); have R2 := hD (rZ kz R1.out); have R2K := hD (mH w2 (.cells #[xn, xs, xr, y1, y2, y3, y4, nd, i] 84)); obtain ⟨a0, a1, a2, a3, a4, a5, a6, a7, a8⟩ := cells9 R2K.out; obtain ⟨t0, t1, t2⟩ := cellsR3 R2.out; have f2 := frozN R2.out; clear hk kz) | (go_at_call 43; (with_reducible refine (HPL.out _ _ hb).mono ?_); rintro e' w3 ⟨rfl, hk⟩; have K3 := hD (kT K2.out hk); have R3 := hD (rZ hk R2.out); have R3K := hD (rZ hk R2K.out); obtain ⟨c0, c1, c2, c3, c4, c5, c6, c7, c8⟩ := cells9 R3K.out; obtain ⟨u0, u1, u2⟩ := cellsR3 R3.out; have cg := kZ K3.out CE.out; have f3 := frozN R3.out; clear hk))
   go_region
   go_wp2; refine bodyPost_ret (rQ (p := 6) (u := 7) rfl _ _ w.heap.size 34 _ (0, 0) _ rfl (setR3_drew (.slice none 0 0) (.slice none 0 0) (.int .i64 0) R3.out) Tryz.underlying34 rfl (by kernel_rfl)) rfl ?_
   exact ⟨_, rfl, RsV.zero _ _ _, dQ (setR3_kp K3.out (Nat.le_refl _) _ _ _)⟩
  ·have hb : (xr != -1) = true := by (have : xr ≠ -1 := by omega); simp [this]
   rw [if_neg hr]; have hd := fun w1 (hk : Kp w w1) => msAct_any (ads := ads) ⟨y1, y2, y3, y4⟩ k hzo ik w1 (TC.kp hk) (TS.kp hk) (kZ hk (EE.cell 3 (by decide)))
   have hfo := act_form ⟨y1, y2, y3, y4⟩ k; obtain ⟨⟨er, ⟨⟨e1, e2, e3, e4⟩, es, ef, ew, ec⟩⟩, hY⟩ : ∃ y, (⟨y1, y2, y3, y4⟩ : SeatM).act k = y := ⟨_, rfl⟩
   rw [hY] at hd hfo ⊢; dsimp only [effV, seatV] at hd hfo ⊢; have HD0 := hd
   by_cases h1 : er = 0
   ·obtain ⟨rfl, rfl⟩ := hfo h1; rw [if_neg (by simpa using h1)]; dsimp only; rw [eN]; rw [h1, eN] at hd; have HD := hD hd; have hrs := fun w => kResult (w := w) xn xs xr y1 y2 y3 y4 nd i e1 e2 e3 e4 es ef ew true xr
    have hk0 : es ≠ 0 := by
     have := act_kindP (z := ⟨y1, y2, y3, y4⟩) (k := es) hle.2.2.2.2.2 (by rw [hY]; exact h1); omega
    rw [if_pos rfl, if_pos hk0] at hrs; have HRS := hD (fun w => (hrs w).mono (R' := fun r w' => ∃ fa fc ma mc, r = .returned (.agg #[.slice fa 1 fc, .slice ma 1 mc, ew]) ∧ w'.ownsRow w.heap.size 73 14 (.slice fa 1 fc) 1 (fcE.row [fxTurned i e3 e4]) ∧ w'.ownsRow w.heap.size 26 9 (.slice ma 1 mc) 1 (mmE.row [msgP nd ⟨xn, xs, xr, ⟨y1, y2, y3, y4⟩⟩ i xr es]) ∧ Kp w w') (by
     rintro e w2 ⟨v, rfl, h, hk⟩; obtain ⟨fa, fc, ma, mc, rfl, h1, h2⟩ := RsV.form (lf := 1) (lm := 1) h rfl rfl; exact ⟨fa, fc, ma, mc, rfl, h1, h2, hk⟩))
    clear V TC TS h ok hag hx hnd EE hle hzo hrg hr hfo hd HD0 hrs hk0 hY h1 ik; go_enter Tryz.func17, Tryz.ntmps17; go_wp2_with (first | (go_at_call 29; (with_reducible refine (HF.out _ K1.out).mono ?_); rintro e' w2 ⟨rfl, hk⟩; have kz := kT hk (kA w2 (.cells #[xn, xs, xr, y1, y2, y3, y4, nd, i] 84)); have K2 := hD (kT K1.out kz); have R2 := hD (rZ kz R1.out); have R2K := hD (mH w2 (.cells #[xn, xs, xr, y1, y2, y3, y4, nd, i] 84)); obtain ⟨a0, a1, a2, a3, a4, a5, a6, a7, a8⟩ := cells9 R2K.out; obtain ⟨t0, t1, t2⟩ := cellsR3 R2.out; have f2 := frozN R2.out; clear hk kz) | (go_at_call 43; (with_reducible refine (HPL.out _ _ hb).mono ?_); rintro e' w3 ⟨rfl, hk⟩; have K3 := hD (kT K2.out hk); have R3 := hD (rZ hk R2.out); have R3K := hD (rZ hk R2K.out); obtain ⟨c0, c1, c2, c3, c4, c5, c6, c7, c8⟩ := cells9 R3K.out; obtain ⟨u0, u1, u2⟩ := cellsR3 R3.out; have f3 := frozN R3.out; clear hk) | (go_at_call 44; (with_reducible refine (HD.out _ K3.out).mono ?_); rintro e' w4 ⟨rfl, hk⟩; have kz := kT hk (kA w4 (.cells #[e1, e2, e3, e4, es, ef, ew, .bool true] 103)); have K4 := hD (kT K3.out kz); have R4 := hD (rZ kz R3.out); have R4K := hD (rZ kz R3K.out); obtain ⟨d0, d1, d2, d3, d4, d5, d6, d7, d8⟩ := cells9 R4K.out; obtain ⟨g0, g1, g2⟩ := cellsR3 R4.out; obtain ⟨e40, e41, e42, e43, e44, e45, e46, e47⟩ := c8X (mH w4 (.cells #[e1, e2, e3, e4, es, ef, ew, .bool true] 103)); have f4 := frozN R4.out; clear hk kz) | (go_at_call 45; (with_reducible refine (HRS.out _).mono ?_); rintro e' w5 ⟨fa, fc, ma, mc, rfl, of, om, hk⟩; have K5 := hD (kT K4.out hk); have R5 := hD (rZ hk R4.out); obtain ⟨h0, h1, h2⟩ := cellsR3 R5.out; have f5 := frozN R5.out; have OF := hD (bG of (kS K4.out)); have OM := hD (bG om (kS K4.out)); clear hk of om))
    refine bodyPost_ret (rQ (p := 6) (u := 7) rfl _ _ w.heap.size 34 _ (0, 0) _ rfl (setR3 _ _ _ R5.out) Tryz.underlying34 rfl (by kernel_rfl)) rfl ?_
    exact ⟨_, rfl, RsV.set (r := ⟨[fxTurned i e3 e4], [msgP nd ⟨xn, xs, xr, ⟨y1, y2, y3, y4⟩⟩ i xr es], ew⟩) R5.out (by decide) (by decide) OF.out OM.out, setR3_kp K5.out (Nat.le_refl _) _ _ _⟩
   ·rw [if_pos h1]; obtain ⟨qe, hqe⟩ := errI_some14 ads er h1; dsimp only; rw [hqe] at hd ⊢; have HD := hD hd; clear V TC TS h ok hag hx hnd EE hle hzo hrg hr hfo hd HD0 hY h1 ik hqe; go_enter Tryz.func17, Tryz.ntmps17; go_wp2_with (first | (go_at_call 29; (with_reducible refine (HF.out _ K1.out).mono ?_); rintro e' w2 ⟨rfl, hk⟩; have kz := kT hk (kA w2 (.cells #[xn, xs, xr, y1, y2, y3, y4, nd, i] 84)); have K2 := hD (kT K1.out kz); have R2 := hD (rZ kz R1.out); have R2K := hD (mH w2 (.cells #[xn, xs, xr, y1, y2, y3, y4, nd, i] 84)); obtain ⟨a0, a1, a2, a3, a4, a5, a6, a7, a8⟩ := cells9 R2K.out; obtain ⟨t0, t1, t2⟩ := cellsR3 R2.out; have f2 := frozN R2.out; clear hk kz) | (go_at_call 43; (with_reducible refine (HPL.out _ _ hb).mono ?_); rintro e' w3 ⟨rfl, hk⟩; have K3 := hD (kT K2.out hk); have R3 := hD (rZ hk R2.out); have R3K := hD (rZ hk R2K.out); obtain ⟨c0, c1, c2, c3, c4, c5, c6, c7, c8⟩ := cells9 R3K.out; obtain ⟨u0, u1, u2⟩ := cellsR3 R3.out; have f3 := frozN R3.out; clear hk) | (go_at_call 44; (with_reducible refine (HD.out _ K3.out).mono ?_); rintro e' w4 ⟨rfl, hk⟩; have kz := kT hk (kA w4 (.cells #[e1, e2, e3, e4, es, ef, ew, .bool ec] 103)); have K4 := hD (kT K3.out kz); have R4 := hD (rZ kz R3.out); have R4K := hD (rZ kz R3K.out); obtain ⟨d0, d1, d2, d3, d4, d5, d6, d7, d8⟩ := cells9 R4K.out; obtain ⟨g0, g1, g2⟩ := cellsR3 R4.out; obtain ⟨e40, e41, e42, e43, e44, e45, e46, e47⟩ := c8X (mH w4 (.cells #[e1, e2, e3, e4, es, ef, ew, .bool ec] 103)); have f4 := frozN R4.out; clear hk kz))
    refine bodyPost_ret (rQ (p := 6) (u := 7) rfl _ _ w.heap.size 34 _ (0, 0) _ rfl (setR3 (.slice none 0 0) (.slice none 0 0) (.int .i64 0) R4.out) Tryz.underlying34 rfl (by kernel_rfl)) rfl ?_
    exact ⟨_, rfl, RsV.zero _ _ _, setR3_kp K4.out (Nat.le_refl _) _ _ _⟩
theorem pAgain (TC : TabC ads w) (h : SL B q m w) (ok : OkS m) (i : Int) (g : MM) (b : Bool) (hg : (againP m i = some g ∧ b = true) ∨ (againP m i = none ∧ b = false ∧ g = ⟨0, 0, 0, 0, 0, 0, 0, 0, 0⟩)) : Calls Tryz.prog 20 #[.pointer (some ⟨q, 0, none⟩), .int .i64 i] w fun r w' => r = .returned (.tuple #[.agg g.cells, .bool b]) ∧ Kp w w' := by
 obtain ⟨nd, hnd⟩ : ∃ n, m.node = n := ⟨_, rfl⟩
 have R1 := hD (mH w (.cells #[(0:Int), (0:Int), (0:Int), (0:Int), (0:Int), (0:Int), (0:Int), (0:Int), (0:Int)] 26)); have K1 := hD (kA w (.cells #[(0:Int), (0:Int), (0:Int), (0:Int), (0:Int), (0:Int), (0:Int), (0:Int), (0:Int)] 26)); obtain ⟨s0, s1, s2, s3, s4, s5, s6, s7, s8⟩ := cells9 R1.out; have fz := frozN R1.out
 cases hx : prtP m i with
 | none =>
  have hag : againP m i = none := by unfold againP; rw [hx]
  rw [hag] at hg; obtain ⟨h1, _⟩ | ⟨_, rfl, rfl⟩ := hg
  ·cases h1
  have HF := hD (fun w1 (hk : Kp w w1) => pFind (h.kp hk) i nd hnd 0 0 0 0 0 0 0 false (.inr ⟨hx, rfl, rfl⟩)); dsimp only [MM.cells]; clear TC h ok hag hx hnd; go_enter Tryz.func20, Tryz.ntmps20; go_wp2_with (go_at_call 29; (with_reducible refine (HF.out _ K1.out).mono ?_); rintro e' w2 ⟨rfl, hk⟩; have kz := kT hk (kA w2 (.cells #[(0:Int), (0:Int), (0:Int), (0:Int), (0:Int), (0:Int), (0:Int), nd, i] 84)); have K2 := hD (kT K1.out kz); have R2 := hD (rZ kz R1.out); have R2K := hD (mH w2 (.cells #[(0:Int), (0:Int), (0:Int), (0:Int), (0:Int), (0:Int), (0:Int), nd, i] 84)); obtain ⟨a0, a1, a2, a3, a4, a5, a6, a7, a8⟩ := cells9 R2K.out; obtain ⟨t0, t1, t2, t3, t4, t5, t6, t7, t8⟩ := cells9 R2.out; have f2 := frozN R2.out; clear hk kz)
  refine bodyPost_ret (rQ (p := 4) (u := 5) rfl _ _ w.heap.size 26 _ (0, 0) _ rfl (set9 (.int .i64 0) (.int .i64 0) (.int .i64 0) (.int .i64 0) (.int .i64 0) (.int .i64 0) (.int .i64 0) (.int .i64 0) (.int .i64 0) R2.out) Tryz.underlying26 rfl (by kernel_rfl)) rfl ?_
  exact ⟨rfl, set9_kp K2.out (Nat.le_refl _) _ _ _ _ _ _ _ _ _⟩
 | some x =>
  have hle := prt_le ok hx; have hzo := okz_ok hle.2.2.2.2.2 (.inr rfl); have hzr := hle.2.2.2.2.2; have hrg := hle.2.2.2.1; obtain ⟨xn, xs, xr, ⟨y1, y2, y3, y4⟩⟩ := x; dsimp only at hzo hrg hzr; have hag : againP m i = if xr < 0 then (if y3 ≠ 1 then none else some (regiP nd ⟨xn, xs, xr, ⟨y1, y2, y3, y4⟩⟩ i)) else if waitT 2 y3 = 0 then none else some (msgP nd ⟨xn, xs, xr, ⟨y1, y2, y3, y4⟩⟩ i xr (waitT 2 y3)) := by unfold againP; rw [hx, hnd]
  rw [hag] at hg; have HF := hD (fun w1 (hk : Kp w w1) => pFind (h.kp hk) i nd hnd xn xs xr y1 y2 y3 y4 true (.inl ⟨hx, rfl⟩)); have HPL := hD (fun w b hb => kPlaced (w := w) xn xs xr y1 y2 y3 y4 nd i b hb)
  by_cases hr : xr < 0
  ·have hxr : xr = -1 := by omega
   have hb : (xr != -1) = false := by simp [hxr]
   rw [if_pos hr] at hg; have HRG := hD (fun w1 => kRegAgain (w := w1) xn xs xr y1 y2 y3 y4 nd i g (by
    by_cases h1 : y3 = 1
    ·rw [if_neg (by simpa using h1)] at hg; rw [if_pos h1]; obtain ⟨h2, _⟩ | ⟨h2, _⟩ := hg
     ·exact (Option.some.inj h2).symm
     ·cases h2
    ·rw [if_pos h1] at hg; rw [if_neg h1]; obtain ⟨h2, _⟩ | ⟨_, _, h2⟩ := hg
     ·cases h2
     ·exact h2))
   have hbb : decide (y3 = 1) = b := by
    by_cases h1 : y3 = 1
    ·rw [if_neg (by simpa using h1)] at hg; obtain ⟨_, h2⟩ | ⟨h2, _⟩ := hg
     ·rw [h2]; exact dT h1
     ·cases h2
    ·rw [if_pos h1] at hg; obtain ⟨h2, _⟩ | ⟨_, h2, _⟩ := hg
     ·cases h2
     ·rw [h2]; exact dF h1
   rw [hbb] at HRG; obtain ⟨gk, gf, gt, gn, gs, gr, gp, go, gc⟩ := g; dsimp only [MM.cells] at HRG ⊢; clear TC h ok hag hx hnd hle hzo hrg hr hg hzr hxr hbb; go_enter Tryz.func20, Tryz.ntmps20; go_wp2_with (first | (go_at_call 29; (with_reducible refine (HF.out _ K1.out).mono ?_); rintro e' w2 ⟨rfl, hk⟩; have kz := kT hk (kA w2 (.cells #[xn, xs, xr, y1, y2, y3, y4, nd, i] 84)); have K2 := hD (kT K1.out kz); have R2 := hD (rZ kz R1.out); have R2K := hD (mH w2 (.cells #[xn, xs, xr, y1, y2, y3, y4, nd, i] 84)); obtain ⟨a0, a1, a2, a3, a4, a5, a6, a7, a8⟩ := cells9 R2K.out; obtain ⟨t0, t1, t2, t3, t4, t5, t6, t7, t8⟩ := cells9 R2.out; have f2 := frozN R2.out; clear hk kz) | (go_at_call 43; (with_reducible refine (HPL.out _ _ hb).mono ?_); rintro e' w3 ⟨rfl, hk⟩; have K3 := hD (kT K2.out hk); have R3 := hD (rZ hk R2.out); have R3K := hD (rZ hk R2K.out); obtain ⟨c0, c1, c2, c3, c4, c5, c6, c7, c8⟩ := cells9 R3K.out; obtain ⟨u0, u1, u2, u3, u4, u5, u6, u7, u8⟩ := cells9 R3.out; have f3 := frozN R3.out; clear hk) | (go_at_call 48; (with_reducible refine (HRG.out _).mono ?_); rintro e' w4 ⟨rfl, hk⟩; have K4 := hD (kT K3.out hk); have R4 := hD (rZ hk R3.out); obtain ⟨g0, g1, g2, g3, g4, g5, g6, g7, g8⟩ := cells9 R4.out; have f4 := frozN R4.out; clear hk))
   refine bodyPost_ret (rQ (p := 4) (u := 5) rfl _ _ w.heap.size 26 _ (0, 0) _ rfl (set9 (.int .i64 gk) (.int .i64 gf) (.int .i64 gt) (.int .i64 gn) (.int .i64 gs) (.int .i64 gr) (.int .i64 gp) (.int .i64 go) (.int .i64 gc) R4.out) Tryz.underlying26 rfl (by kernel_rfl)) rfl ?_
   exact ⟨rfl, set9_kp K4.out (Nat.le_refl _) _ _ _ _ _ _ _ _ _⟩
  ·have hxr : xr ≠ -1 := by omega
   have hb : (xr != -1) = true := by simp [hxr]
   rw [if_neg hr] at hg; have hw := fun w1 (hk : Kp w w1) => msWaits_any (ads := ads) ⟨y1, y2, y3, y4⟩ hzo w1 (TC.kp hk)
   rw [hzr.1, if_pos rfl, show SeatM.waits ⟨y1, y2, y3, y4⟩ = waitT 2 y3 by unfold SeatM.waits; rw [hzr.2]] at hw; obtain ⟨wt, hwt⟩ : ∃ x, waitT 2 y3 = x := ⟨_, rfl⟩
   rw [hwt] at hg hw; dsimp only [seatV] at hw; have HW := hD hw; have hme := fun w => kMessage (w := w) xn xs xr y1 y2 y3 y4 nd i wt xr
   have HME := hD hme
   by_cases h1 : wt = 0
   ·rw [if_pos h1] at hg; obtain ⟨h2, _⟩ | ⟨_, rfl, rfl⟩ := hg
    ·cases h2
    have g2 : (wt != 0) = false := by simp [h1]
    dsimp only [MM.cells]; clear TC h ok hag hx hnd hle hzo hrg hr hzr hxr h1 hwt hw hme; go_enter Tryz.func20, Tryz.ntmps20; go_wp2_with (first | (go_at_call 29; (with_reducible refine (HF.out _ K1.out).mono ?_); rintro e' w2 ⟨rfl, hk⟩; have kz := kT hk (kA w2 (.cells #[xn, xs, xr, y1, y2, y3, y4, nd, i] 84)); have K2 := hD (kT K1.out kz); have R2 := hD (rZ kz R1.out); have R2K := hD (mH w2 (.cells #[xn, xs, xr, y1, y2, y3, y4, nd, i] 84)); obtain ⟨a0, a1, a2, a3, a4, a5, a6, a7, a8⟩ := cells9 R2K.out; obtain ⟨t0, t1, t2, t3, t4, t5, t6, t7, t8⟩ := cells9 R2.out; have f2 := frozN R2.out; clear hk kz) | (go_at_call 43; (with_reducible refine (HPL.out _ _ hb).mono ?_); rintro e' w3 ⟨rfl, hk⟩; have K3 := hD (kT K2.out hk); have R3 := hD (rZ hk R2.out); have R3K := hD (rZ hk R2K.out); obtain ⟨c0, c1, c2, c3, c4, c5, c6, c7, c8⟩ := cells9 R3K.out; obtain ⟨u0, u1, u2, u3, u4, u5, u6, u7, u8⟩ := cells9 R3.out; have f3 := frozN R3.out; clear hk) | (go_at_call 49; (with_reducible refine (HW.out _ K3.out).mono ?_); rintro e' w4 ⟨rfl, hk⟩; have K4 := hD (kT K3.out hk); have R4 := hD (rZ hk R3.out); have R4K := hD (rZ hk R3K.out); obtain ⟨g0, g1, g2, g3, g4, g5, g6, g7, g8⟩ := cells9 R4.out; obtain ⟨i0, i1, i2, i3, i4, i5, i6, i7, i8⟩ := cells9 R4K.out; have f4 := frozN R4.out; clear hk))
    refine bodyPost_ret (rQ (p := 4) (u := 5) rfl _ _ w.heap.size 26 _ (0, 0) _ rfl (set9 (.int .i64 0) (.int .i64 0) (.int .i64 0) (.int .i64 0) (.int .i64 0) (.int .i64 0) (.int .i64 0) (.int .i64 0) (.int .i64 0) R4.out) Tryz.underlying26 rfl (by kernel_rfl)) rfl ?_
    exact ⟨rfl, set9_kp K4.out (Nat.le_refl _) _ _ _ _ _ _ _ _ _⟩
   ·rw [if_neg h1] at hg; obtain ⟨h2, rfl⟩ | ⟨h2, _⟩ := hg
    rotate_left
    ·cases h2
    obtain rfl := (Option.some.inj h2).symm; have g2 : (wt != 0) = true := by simp [h1]
    dsimp only [MM.cells, msgP]; clear TC h ok hag hx hnd hle hzo hrg hr hzr hxr h1 hwt hw hme h2; go_enter Tryz.func20, Tryz.ntmps20; go_wp2_with (first | (go_at_call 29; (with_reducible refine (HF.out _ K1.out).mono ?_); rintro e' w2 ⟨rfl, hk⟩; have kz := kT hk (kA w2 (.cells #[xn, xs, xr, y1, y2, y3, y4, nd, i] 84)); have K2 := hD (kT K1.out kz); have R2 := hD (rZ kz R1.out); have R2K := hD (mH w2 (.cells #[xn, xs, xr, y1, y2, y3, y4, nd, i] 84)); obtain ⟨a0, a1, a2, a3, a4, a5, a6, a7, a8⟩ := cells9 R2K.out; obtain ⟨t0, t1, t2, t3, t4, t5, t6, t7, t8⟩ := cells9 R2.out; have f2 := frozN R2.out; clear hk kz) | (go_at_call 43; (with_reducible refine (HPL.out _ _ hb).mono ?_); rintro e' w3 ⟨rfl, hk⟩; have K3 := hD (kT K2.out hk); have R3 := hD (rZ hk R2.out); have R3K := hD (rZ hk R2K.out); obtain ⟨c0, c1, c2, c3, c4, c5, c6, c7, c8⟩ := cells9 R3K.out; obtain ⟨u0, u1, u2, u3, u4, u5, u6, u7, u8⟩ := cells9 R3.out; have f3 := frozN R3.out; clear hk) | (go_at_call 49; (with_reducible refine (HW.out _ K3.out).mono ?_); rintro e' w4 ⟨rfl, hk⟩; have K4 := hD (kT K3.out hk); have R4 := hD (rZ hk R3.out); have R4K := hD (rZ hk R3K.out); obtain ⟨g0, g1, g2, g3, g4, g5, g6, g7, g8⟩ := cells9 R4.out; obtain ⟨i0, i1, i2, i3, i4, i5, i6, i7, i8⟩ := cells9 R4K.out; have f4 := frozN R4.out; clear hk) | (go_at_call 50; (with_reducible refine (HME.out _).mono ?_); rintro e' w5 ⟨rfl, hk⟩; have K5 := hD (kT K4.out hk); have R5 := hD (rZ hk R4.out); obtain ⟨j0, j1, j2, j3, j4, j5, j6, j7, j8⟩ := cells9 R5.out; have f5 := frozN R5.out; clear hk))
    refine bodyPost_ret (rQ (p := 4) (u := 5) rfl _ _ w.heap.size 26 _ (0, 0) _ rfl (set9 (.int .i64 wt) (.int .i64 nd) (.int .i64 xn) (.int .i64 xn) (.int .i64 xs) (.int .i64 xr) (.int .i64 i) (.int .i64 0) (.int .i64 0) R5.out) Tryz.underlying26 rfl (by kernel_rfl)) rfl ?_
    exact ⟨rfl, set9_kp K5.out (Nat.le_refl _) _ _ _ _ _ _ _ _ _⟩
open Go.RowKit Go.Extern.Stop Go.Stop Go.Extern
theorem set_res {b : Nat} {t : TypeId} {w : World} {x0 x1 x2 : Value} (y0 y1 y2 : Value) (h : w.heap[b]? = some (.cells #[x0, x1, x2] t (0, 0))) : (((w.setCell ⟨b, 0, none⟩ y0).setCell ⟨b, 1, none⟩ y1).setCell ⟨b, 2, none⟩ y2).heap[b]? = some (.cells #[y0, y1, y2] t (0, 0)) := by
 have h1 : (w.setCell ⟨b, 0, none⟩ y0).heap[b]? = some (.cells #[y0, x1, x2] t (0, 0)) := (Joins.block_setCell h _).trans rfl; have h2 : ((w.setCell ⟨b, 0, none⟩ y0).setCell ⟨b, 1, none⟩ y1).heap[b]? = some (.cells #[y0, y1, x2] t (0, 0)) := (Joins.block_setCell h1 _).trans rfl; have h3 : (((w.setCell ⟨b, 0, none⟩ y0).setCell ⟨b, 1, none⟩ y1).setCell ⟨b, 2, none⟩ y2).heap[b]? = some (.cells #[y0, y1, y2] t (0, 0)) := (Joins.block_setCell h2 _).trans rfl; exact h3
theorem door_res_panic (ads : List Addr) (p q : Addr) (old : Value) (k : Nat) (hk : k < ads.length) (older : List PanicEntry) (w : World) (V : St ads w)
  (hp : w.cell? p = some (.bool true)) (hq : w.cell? q = some old) (hz : w.frozen? q = false) :
  CallsD Tryz.prog 95 #[.pointer (some p), .pointer (some q)] (.panicking ({ v := snt ads[k], recovered := false } :: older)) w fun e u' w' =>
   e = .returned (.tuple #[]) ∧ u' = .panicking ({ v := snt ads[k], recovered := true } :: older) ∧ ∃ w1, Kp w w1 ∧ w' = w1.setCell q (snt ads[k]) := by
 have hqb := old_of_cell hq; have hn := errorOf_any ads w V k hk; obtain ⟨a, ha⟩ : ∃ a, ads[k] = a := ⟨_, rfl⟩
 rw [ha] at hn ⊢; clear ha V; refine callsD_of_wpS Tryz.func95 rfl fun c₀ cs hu => ?_
 apply wpS_seq
 apply wpS_region
 simp [wpOpsS, go_sem, recoverD, hu, Tryz.ntmps95, Exit.thenS]
 refine wpS_of_wp ?_
 change Code.wp _ _ _ { tmps := #[.pointer (some p), .pointer (some q), snt a, snt a, undef, undef, undef], defers := [] } _
 obtain ⟨HN, HU⟩ := hD2 hn hu; clear hn hu; go_wp2_with (go_at_call 96; (with_reducible refine HN.out.mono ?_); rintro e w1 ⟨rfl, hw⟩; have hq1 : w1.cell? q = some old := (by rw [Below.cell hw hqb]; exact hq); have hz1 : w1.frozen? q = false := (by rw [Below.frozen hw hqb]; exact hz))
 exact ⟨rfl, _, rfl, _, results_none rfl _ _ _, rfl, rfl, w1, hw, rfl⟩
theorem door_res_idle (p q : Addr) (w : World) (hp : w.cell? p = some (.bool false)) :
  CallsD Tryz.prog 95 #[.pointer (some p), .pointer (some q)] .returning w fun e u' w' => e = .returned (.tuple #[]) ∧ u' = .returning ∧ w' = w := by
 refine callsD_of_wpS Tryz.func95 rfl fun c₀ cs hu => ?_
 apply wpS_seq
 apply wpS_region
 simp [wpOpsS, go_sem, recoverD, hu, Tryz.ntmps95, Exit.thenS]
 refine wpS_of_wp ?_
 change Code.wp _ _ _ { tmps := #[.pointer (some p), .pointer (some q), .nilIface, .nilIface, undef, undef, undef], defers := [] } _
 go_wp2
 cases c₀
 simp only at hu
 subst hu; exact ⟨rfl, _, rfl, _, results_none rfl _ _ _, rfl, rfl, rfl⟩
theorem try_res_ret (f : FuncId) (caps : Array Value) (w : World) (G : Value → World → World → Prop) (hf : ∀ w, (callFunc f caps).run Tryz.prog w = .ok (.enter f caps) w)
  (H : ∀ w1, Below w.heap.size w w1 → w1.heap.size = w.heap.size + 3 → Calls Tryz.prog f caps w1 fun e w2 => ∃ pa0 n0 k0 pa1 n1 k1, ∃ x2 : Int, e = .returned (.agg #[.slice pa0 n0 k0, .slice pa1 n1 k1, x2]) ∧ Past w.heap.size w1 w2 ∧ G (.agg #[.slice pa0 n0 k0, .slice pa1 n1 k1, x2]) w1 w2) :
  Calls Tryz.prog 53 #[.func (.func f) #[] caps] w fun e w' => ∃ v, e = .returned (.tuple #[v, .nilIface]) ∧ ∃ w1 w2, Below w.heap.size w w1 ∧ w1.heap.size = w.heap.size + 3 ∧ G v w1 w2 ∧ Below w.heap.size w2 w' ∧ ∀ b, b ≠ w.heap.size → b ≠ w.heap.size + 1 → b ≠ w.heap.size + 1 + 1 → w'.heap[b]? = w2.heap[b]? := by
 have hmf : ∀ (fn : Fn) (first cap : Array Value) (w : World), (Instr.makeFunc fn first cap).run Tryz.prog w = .ok (.func fn first cap) w := fun _ _ _ _ => rfl
 have hA : (((w.alloc (.cells #[.slice none 0 0, .slice none 0 0, (0:Int)] 34)).alloc (.cells #[.nilIface] 48)).alloc (.cells #[.bool true] 4)).heap[w.heap.size]? = some (.cells #[.slice none 0 0, .slice none 0 0, (0:Int)] 34) := by
  rw [Below.heap_alloc _ _ _ (by simp; omega), Below.heap_alloc _ _ _ (by simp)]; exact (mH w _)
 have hN : (((w.alloc (.cells #[.slice none 0 0, .slice none 0 0, (0:Int)] 34)).alloc (.cells #[.nilIface] 48)).alloc (.cells #[.bool true] 4)).heap[w.heap.size + 1]? = some (.cells #[.nilIface] 48) := by
  have := try_new0 (w.alloc (.cells #[.slice none 0 0, .slice none 0 0, (0:Int)] 34)) (.cells #[.nilIface] 48) (.cells #[.bool true] 4); rwa [show (w.alloc (.cells #[.slice none 0 0, .slice none 0 0, (0:Int)] 34)).heap.size = w.heap.size + 1 by simp] at this
 have hM : (((w.alloc (.cells #[.slice none 0 0, .slice none 0 0, (0:Int)] 34)).alloc (.cells #[.nilIface] 48)).alloc (.cells #[.bool true] 4)).heap[w.heap.size + 1 + 1]? = some (.cells #[.bool true] 4) := by
  have := try_new1 (w.alloc (.cells #[.slice none 0 0, .slice none 0 0, (0:Int)] 34)) (.cells #[.nilIface] 48) (.cells #[.bool true] 4); rwa [show (w.alloc (.cells #[.slice none 0 0, .slice none 0 0, (0:Int)] 34)).heap.size + 1 = w.heap.size + 1 + 1 by simp] at this
 have hB : Below w.heap.size w (((w.alloc (.cells #[.slice none 0 0, .slice none 0 0, (0:Int)] 34)).alloc (.cells #[.nilIface] 48)).alloc (.cells #[.bool true] 4)) := (((Below.refl _ _).alloc (Nat.le_refl _) _).alloc (by simp) _).alloc (by have h1 := Below.size (kA w (.cells #[.slice none 0 0, .slice none 0 0, (0:Int)] 34)); have h2 := Below.size (kA (w.alloc (.cells #[.slice none 0 0, .slice none 0 0, (0:Int)] 34)) (.cells #[.nilIface] 48)); omega) _; have hS : (((w.alloc (.cells #[.slice none 0 0, .slice none 0 0, (0:Int)] 34)).alloc (.cells #[.nilIface] 48)).alloc (.cells #[.bool true] 4)).heap.size = w.heap.size + 3 := by simp
 obtain ⟨HH, HA, HN, HM, HB, HS⟩ := hD6 H hA hN hM hB hS; clear H hA hN hM hB hS; go_enter_defers Tryz.func53, Tryz.ntmps53
 go_wp2
 with_reducible refine (HH.out _ HB.out HS.out).mono ?_
 rintro e w2 ⟨pa0, n0, k0, pa1, n1, k1, x2, rfl, hP, hG⟩; have eA : w2.heap[w.heap.size]? = some (.cells #[.slice none 0 0, .slice none 0 0, (0:Int)] 34) := (hP.2 _ (by omega) (by rw [HS.out]; omega)).trans HA.out; have e0 : w2.heap[w.heap.size + 1]? = some (.cells #[.nilIface] 48) := (hP.2 _ (by omega) (by rw [HS.out]; omega)).trans HN.out; have e1 : w2.heap[w.heap.size + 1 + 1]? = some (.cells #[.bool true] 4) := (hP.2 _ (by omega) (by rw [HS.out]; omega)).trans HM.out; have a0 : w2.cell? ⟨w.heap.size, 0, none⟩ = some (.slice none 0 0) := by simp [World.cell?, eA]
 have a1 : w2.cell? ⟨w.heap.size, 1, none⟩ = some (.slice none 0 0) := by simp [World.cell?, eA]
 have a2 : w2.cell? ⟨w.heap.size, 2, none⟩ = some (.int .i64 0) := by simp [World.cell?, eA]
 have zA : ∀ i, w2.frozen? ⟨w.heap.size, i, none⟩ = false := fun i => by simp [World.frozen?, eA]
 have c0 : w2.cell? ⟨w.heap.size + 1, 0, none⟩ = some .nilIface := by simp [World.cell?, e0]
 have c1 : w2.cell? ⟨w.heap.size + 1 + 1, 0, none⟩ = some (.bool true) := by simp [World.cell?, e1]
 have z0 : w2.frozen? ⟨w.heap.size + 1, 0, none⟩ = false := by simp [World.frozen?, e0]
 have z1 : w2.frozen? ⟨w.heap.size + 1 + 1, 0, none⟩ = false := by simp [World.frozen?, e1]
 obtain ⟨e0, eA⟩ := hD2 e0 eA; clear e1; go_wp2; refine leaves_cons (f := 95) (args := #[.pointer (some ⟨w.heap.size + 1 + 1, 0, none⟩), .pointer (some ⟨w.heap.size + 1, 0, none⟩)]) (by simp) (by simp [go_sem]) ?_
 refine (door_res_idle _ _ _ (by simp [go_sem, c1])).mono ?_
 rintro e u' w3 ⟨rfl, rfl, hw3⟩; have hzA : w3.heap[w.heap.size]? = some (.cells #[.slice pa0 n0 k0, .slice pa1 n1 k1, x2] 34) := by
  rw [hw3, bS _ _ _ _ (by simp)]; refine set_res (x0 := .slice pa0 n0 k0) (x1 := .slice pa1 n1 k1) (x2 := .int .i64 x2) (.slice pa0 n0 k0) (.slice pa1 n1 k1) (.int .i64 x2) ?_
  rw [bS _ _ _ _ (by simp; omega)]; exact set_res (.slice pa0 n0 k0) (.slice pa1 n1 k1) (.int .i64 x2) eA.out
 have hzE : w3.heap[w.heap.size + 1]? = some (.cells #[.nilIface] 48) := by
  rw [hw3]; refine (Joins.block_setCell (cs := #[.nilIface]) (t := 48) (fr := (0, 0)) ?_ _).trans rfl
  rw [bS _ _ _ _ (by simp), bS _ _ _ _ (by simp), bS _ _ _ _ (by simp), bS _ _ _ _ (by simp), bS _ _ _ _ (by simp), bS _ _ _ _ (by simp), bS _ _ _ _ (by simp)]; exact e0.out
 have hk3 : Below w.heap.size w2 w3 := by
  rw [hw3]; refine Below.setCell ?_ (by simp) _
  refine Below.setCell ?_ (by simp) _
  refine Below.setCell ?_ (by simp) _
  refine Below.setCell ?_ (by simp) _
  refine Below.setCell ?_ (by simp; omega) _
  refine Below.setCell ?_ (by simp) _
  refine Below.setCell ?_ (by simp) _
  refine Below.setCell ?_ (by simp) _
  exact Below.refl _ _
 have b0 : w3.cell? ⟨w.heap.size, 0, none⟩ = some (.slice pa0 n0 k0) := by simp [World.cell?, hzA]
 have b1 : w3.cell? ⟨w.heap.size, 1, none⟩ = some (.slice pa1 n1 k1) := by simp [World.cell?, hzA]
 have b2 : w3.cell? ⟨w.heap.size, 2, none⟩ = some (.int .i64 x2) := by simp [World.cell?, hzA]
 have bE : w3.cell? ⟨w.heap.size + 1, 0, none⟩ = some .nilIface := by simp [World.cell?, hzE]
 have hq3 : ∀ b, b ≠ w.heap.size → b ≠ w.heap.size + 1 → b ≠ w.heap.size + 1 + 1 → w3.heap[b]? = w2.heap[b]? := by
  intro b h0 h1 h2; rw [hw3]
  repeat rw [bS _ _ _ _ (by first | exact h0 | exact h1 | exact h2)]
 clear hw3
 simp [Leaves, settle, results, Tryz.results53, go_sem, b0, b1, b2, bE]
 exact ⟨_, HB.out, HS.out, _, hG, hk3, hq3⟩
theorem try_res_panic (ads : List Addr) (k : Nat) (hk : k < ads.length) (f : FuncId) (caps : Array Value) (w : World) (G : World → World → Prop) (hf : ∀ w, (callFunc f caps).run Tryz.prog w = .ok (.enter f caps) w)
  (H : ∀ w1, Below w.heap.size w w1 → w1.heap.size = w.heap.size + 3 → Calls Tryz.prog f caps w1 fun e w2 => e = .panicked [{ v := snt ads[k], recovered := false }] ∧ St ads w2 ∧ Past w.heap.size w1 w2 ∧ G w1 w2) :
  Calls Tryz.prog 53 #[.func (.func f) #[] caps] w fun e w' => e = .returned (.tuple #[.agg #[.slice none 0 0, .slice none 0 0, (0:Int)], snt ads[k]]) ∧ ∃ w1 w2, Below w.heap.size w w1 ∧ w1.heap.size = w.heap.size + 3 ∧ G w1 w2 ∧ Below w.heap.size w2 w' := by
 have hmf : ∀ (fn : Fn) (first cap : Array Value) (w : World), (Instr.makeFunc fn first cap).run Tryz.prog w = .ok (.func fn first cap) w := fun _ _ _ _ => rfl
 have hA : (((w.alloc (.cells #[.slice none 0 0, .slice none 0 0, (0:Int)] 34)).alloc (.cells #[.nilIface] 48)).alloc (.cells #[.bool true] 4)).heap[w.heap.size]? = some (.cells #[.slice none 0 0, .slice none 0 0, (0:Int)] 34) := by
  rw [Below.heap_alloc _ _ _ (by simp; omega), Below.heap_alloc _ _ _ (by simp)]; exact (mH w _)
 have hN : (((w.alloc (.cells #[.slice none 0 0, .slice none 0 0, (0:Int)] 34)).alloc (.cells #[.nilIface] 48)).alloc (.cells #[.bool true] 4)).heap[w.heap.size + 1]? = some (.cells #[.nilIface] 48) := by
  have := try_new0 (w.alloc (.cells #[.slice none 0 0, .slice none 0 0, (0:Int)] 34)) (.cells #[.nilIface] 48) (.cells #[.bool true] 4); rwa [show (w.alloc (.cells #[.slice none 0 0, .slice none 0 0, (0:Int)] 34)).heap.size = w.heap.size + 1 by simp] at this
 have hM : (((w.alloc (.cells #[.slice none 0 0, .slice none 0 0, (0:Int)] 34)).alloc (.cells #[.nilIface] 48)).alloc (.cells #[.bool true] 4)).heap[w.heap.size + 1 + 1]? = some (.cells #[.bool true] 4) := by
  have := try_new1 (w.alloc (.cells #[.slice none 0 0, .slice none 0 0, (0:Int)] 34)) (.cells #[.nilIface] 48) (.cells #[.bool true] 4); rwa [show (w.alloc (.cells #[.slice none 0 0, .slice none 0 0, (0:Int)] 34)).heap.size + 1 = w.heap.size + 1 + 1 by simp] at this
 have hB : Below w.heap.size w (((w.alloc (.cells #[.slice none 0 0, .slice none 0 0, (0:Int)] 34)).alloc (.cells #[.nilIface] 48)).alloc (.cells #[.bool true] 4)) := (((Below.refl _ _).alloc (Nat.le_refl _) _).alloc (by simp) _).alloc (by have h1 := Below.size (kA w (.cells #[.slice none 0 0, .slice none 0 0, (0:Int)] 34)); have h2 := Below.size (kA (w.alloc (.cells #[.slice none 0 0, .slice none 0 0, (0:Int)] 34)) (.cells #[.nilIface] 48)); omega) _; have hS : (((w.alloc (.cells #[.slice none 0 0, .slice none 0 0, (0:Int)] 34)).alloc (.cells #[.nilIface] 48)).alloc (.cells #[.bool true] 4)).heap.size = w.heap.size + 3 := by simp
 obtain ⟨HH, HA, HN, HM, HB, HS⟩ := hD6 H hA hN hM hB hS; clear H hA hN hM hB hS; go_enter_defers Tryz.func53, Tryz.ntmps53
 go_wp2
 with_reducible refine (HH.out _ HB.out HS.out).mono ?_
 rintro e w2 ⟨rfl, hV, hP, hG⟩; have eA : w2.heap[w.heap.size]? = some (.cells #[.slice none 0 0, .slice none 0 0, (0:Int)] 34) := (hP.2 _ (by omega) (by rw [HS.out]; omega)).trans HA.out; have e0 : w2.heap[w.heap.size + 1]? = some (.cells #[.nilIface] 48) := (hP.2 _ (by omega) (by rw [HS.out]; omega)).trans HN.out; have e1 : w2.heap[w.heap.size + 1 + 1]? = some (.cells #[.bool true] 4) := (hP.2 _ (by omega) (by rw [HS.out]; omega)).trans HM.out; have a0 : w2.cell? ⟨w.heap.size, 0, none⟩ = some (.slice none 0 0) := by simp [World.cell?, eA]
 have a1 : w2.cell? ⟨w.heap.size, 1, none⟩ = some (.slice none 0 0) := by simp [World.cell?, eA]
 have a2 : w2.cell? ⟨w.heap.size, 2, none⟩ = some (.int .i64 0) := by simp [World.cell?, eA]
 have zA : ∀ i, w2.frozen? ⟨w.heap.size, i, none⟩ = false := fun i => by simp [World.frozen?, eA]
 have c0 : w2.cell? ⟨w.heap.size + 1, 0, none⟩ = some .nilIface := by simp [World.cell?, e0]
 have c1 : w2.cell? ⟨w.heap.size + 1 + 1, 0, none⟩ = some (.bool true) := by simp [World.cell?, e1]
 have z0 : w2.frozen? ⟨w.heap.size + 1, 0, none⟩ = false := by simp [World.frozen?, e0]
 have hd := door_res_panic ads ⟨w.heap.size + 1 + 1, 0, none⟩ ⟨w.heap.size + 1, 0, none⟩ .nilIface k hk [] w2 hV c1 c0 z0; have hltA : w.heap.size < w2.heap.size := oZ eA; have hlt : w.heap.size + 1 < w2.heap.size := old_of_cell c0; clear e0 e1; refine leaves_cons (f := 95) (args := #[.pointer (some ⟨w.heap.size + 1 + 1, 0, none⟩), .pointer (some ⟨w.heap.size + 1, 0, none⟩)]) (by simp) (by simp [go_sem]) ?_
 refine hd.mono ?_
 rintro e u' w3 ⟨rfl, rfl, w4, hw4, rfl⟩; have c4 : w4.cell? ⟨w.heap.size + 1, 0, none⟩ = some .nilIface := by rw [Below.cell hw4 hlt]; exact c0
 have eA4 : w4.heap[w.heap.size]? = some (.cells #[.slice none 0 0, .slice none 0 0, (0:Int)] 34) := by rw [Below.block hw4 _ hltA]; exact eA
 have b0 : w4.cell? ⟨w.heap.size, 0, none⟩ = some (.slice none 0 0) := by simp [World.cell?, eA4]
 have b1 : w4.cell? ⟨w.heap.size, 1, none⟩ = some (.slice none 0 0) := by simp [World.cell?, eA4]
 have b2 : w4.cell? ⟨w.heap.size, 2, none⟩ = some (.int .i64 0) := by simp [World.cell?, eA4]
 have c5 : (w4.setCell ⟨w.heap.size + 1, 0, none⟩ (snt ads[k])).cell? ⟨w.heap.size + 1, 0, none⟩ = some (snt ads[k]) := by simp [go_sem, c4]
 have d0 : (w4.setCell ⟨w.heap.size + 1, 0, none⟩ (snt ads[k])).cell? ⟨w.heap.size, 0, none⟩ = some (.slice none 0 0) := by simp [go_sem, b0]
 have d1 : (w4.setCell ⟨w.heap.size + 1, 0, none⟩ (snt ads[k])).cell? ⟨w.heap.size, 1, none⟩ = some (.slice none 0 0) := by simp [go_sem, b1]
 have d2 : (w4.setCell ⟨w.heap.size + 1, 0, none⟩ (snt ads[k])).cell? ⟨w.heap.size, 2, none⟩ = some (.int .i64 0) := by simp [go_sem, b2]
 have hk5 : Below w.heap.size w2 (w4.setCell ⟨w.heap.size + 1, 0, none⟩ (snt ads[k])) := (Below.mono hw4 (by omega)).setCell (show w.heap.size ≤ w.heap.size + 1 by omega) _; obtain ⟨w5, hw5⟩ : ∃ w5, w4.setCell ⟨w.heap.size + 1, 0, none⟩ (snt ads[k]) = w5 := ⟨_, rfl⟩
 rw [hw5] at c5 d0 d1 d2 hk5 ⊢
 simp [Leaves, settle, results, Tryz.results53, go_sem, c5, d0, d1, d2]
 exact ⟨_, HB.out, HS.out, _, hG, hk5⟩
theorem try_res_val (f : FuncId) (caps : Array Value) (w : World) (G : Value → World → Prop) (hf : ∀ w, (callFunc f caps).run Tryz.prog w = .ok (.enter f caps) w)
  (hG : ∀ v w2 w', G v w2 → (∀ b, w.heap.size + 3 ≤ b → w'.heap[b]? = w2.heap[b]?) → G v w')
  (H : ∀ w1, Kp w w1 → w1.heap.size = w.heap.size + 3 → Calls Tryz.prog f caps w1 fun e w2 => ∃ pa0 n0 k0 pa1 n1 k1, ∃ x2 : Int, e = .returned (.agg #[.slice pa0 n0 k0, .slice pa1 n1 k1, x2]) ∧ G (.agg #[.slice pa0 n0 k0, .slice pa1 n1 k1, x2]) w2 ∧ Kp w1 w2) :
  Calls Tryz.prog 53 #[.func (.func f) #[] caps] w fun e w' => ∃ v, e = .returned (.tuple #[v, .nilIface]) ∧ G v w' ∧ Kp w w' := by
 refine (try_res_ret f caps w (fun v w1 w2 => G v w2 ∧ Kp w1 w2) hf fun w1 hb hs => ?_).mono ?_
 ·refine (H w1 hb hs).mono ?_
  rintro e w2 ⟨pa0, n0, k0, pa1, n1, k1, x2, rfl, hg, hk⟩; exact ⟨pa0, n0, k0, pa1, n1, k1, x2, rfl, past_of hk, hg, hk⟩
 ·rintro e w' ⟨v, rfl, w1, w2, hb, _, ⟨hg, hk⟩, hb2, hq⟩; exact ⟨v, rfl, hG v w2 w' hg (fun b h => hq b (by omega) (by omega) (by omega)), Below.trans (kT hb hk) hb2⟩
theorem try_res_err (ads : List Addr) (k : Nat) (hk : k < ads.length) (f : FuncId) (caps : Array Value) (w : World) (V : St ads w) (hf : ∀ w, (callFunc f caps).run Tryz.prog w = .ok (.enter f caps) w)
  (H : ∀ w1, Kp w w1 → Calls Tryz.prog f caps w1 fun e w2 => e = .panicked [{ v := snt ads[k], recovered := false }] ∧ Kp w1 w2) :
  Calls Tryz.prog 53 #[.func (.func f) #[] caps] w fun e w' => e = .returned (.tuple #[.agg #[.slice none 0 0, .slice none 0 0, (0:Int)], snt ads[k]]) ∧ Kp w w' := by
 refine (try_res_panic ads k hk f caps w (fun w1 w2 => Kp w1 w2) hf fun w1 hb _ => ?_).mono ?_
 ·refine (H w1 hb).mono ?_
  rintro e w2 ⟨rfl, hk2⟩; exact ⟨rfl, V.below (kT hb hk2), past_of hk2, hk2⟩
 ·rintro e w' ⟨rfl, w1, w2, hb, _, hk2, hb2⟩; exact ⟨rfl, Below.trans (kT hb hk2) hb2⟩
end Go.Proofs.YtncoofnhifcnhaaGreatDoor
