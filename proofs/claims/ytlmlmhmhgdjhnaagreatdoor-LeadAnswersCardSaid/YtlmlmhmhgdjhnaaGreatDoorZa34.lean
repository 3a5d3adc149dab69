/- Parts of this proof (own work). -/
import Derived.Test.YtlmlmhmhgdjhnaaGreatDoorZa33
set_option maxRecDepth 100000
set_option maxHeartbeats 40000000
namespace Go.Proofs.YtlmlmhmhgdjhnaaGreatDoor
open Go.RowKit Go.ChangeShapes Go.WideShapes
variable {w0 w w' W w3 : World} {ads : List Addr}
theorem eff_eq {y1 y2 y3 y4 ys yf yw z1 z2 z3 z4 zs zf zw : Int} {yc zc : Bool} (h : (⟨⟨y1, y2, y3, y4⟩, ys, yf, yw, yc⟩ : EffM) = ⟨⟨z1, z2, z3, z4⟩, zs, zf, zw, zc⟩) : (#[.int .i64 y1, .int .i64 y2, .int .i64 y3, .int .i64 y4, .int .i64 ys, .int .i64 yf, .int .i64 yw, .bool yc] : Array Value) = #[.int .i64 z1, .int .i64 z2, .int .i64 z3, .int .i64 z4, .int .i64 zs, .int .i64 zf, .int .i64 zw, .bool zc] := by
 injection h with h1 h2 h3 h4 h5
 injection h1 with a b c d
 rw [a, b, c, d, h2, h3, h4, h5]
def ToE (w : World) (L M Z E : Obj) (p : Nat) (w' : World) : Prop := w'.heap[w.heap.size]? = some L ∧ w'.heap[w.heap.size + 1]? = some M ∧ w'.heap[w.heap.size + 1 + 1]? = some Z ∧ w'.heap[p]? = some E ∧ Kp w w'
def ToL (w : World) (M Z : Obj) (p : Nat) (r : RsM) (w' : World) : Prop := w'.heap[w.heap.size + 1]? = some M ∧ w'.heap[w.heap.size + 1 + 1]? = some Z ∧ ResB 37 87 w.heap.size p r w' ∧ Kp w w'
theorem lTold (TC : TabC ads w) (TS : TabS ads w) (ce : w.cell? ⟨3, 0, none⟩ = some (errI ads 4)) (rn rp rq re rs rh : Int) (an aw ao ad : Int) (ax : Nat) (ap ac : Int) (av : Option Addr) (al ak : Nat) (ri : Int) (mk mf mt mn ms mr mp mo mc : Int) (hz : SeatM.ok ⟨rq, re, rs, rh⟩) (ik : i64M mk) (y1 y2 y3 y4 ys yf yw : Int) (yc : Bool) (hy : ((⟨rq, re, rs, rh⟩ : SeatM).tell mk).2 = ⟨⟨y1, y2, y3, y4⟩, ys, yf, yw, yc⟩) (hz5 : SeatM.ok ⟨y1, y2, y3, y4⟩) (z1 z2 z3 z4 zs zf zw : Int) (zc : Bool) (hzz : (if yc = true ∧ y3 = 5 ∧ ac = 2 then (((⟨y1, y2, y3, y4⟩ : SeatM).act 11).2) else ⟨⟨y1, y2, y3, y4⟩, ys, yf, yw, yc⟩) = ⟨⟨z1, z2, z3, z4⟩, zs, zf, zw, zc⟩) (FS : List FX) (hFS : (if zc = true then [(⟨3, an, aw, ri, 0, 0, 0, 0, 0, 0, z3, z4, 0, 0⟩ : FX)] else []) = FS) (S2 S3 : List MM) (hS2 : (if zs ≠ 0 then [(⟨zs, an, rn, an, aw, ri, rp, 0, 0⟩ : MM)] else []) = S2) (hS3 : (if zf ≠ 0 then [(⟨19, mt, mf, mn, ms, mr, mp, 0, zf⟩ : MM)] else []) = S3) :
  Calls Tryz.prog 134 #[.agg #[rn, rp, rq, re, rs, rh, an, aw, ao, ad, ax, ap, ac, .slice av al ak, ri], .agg #[mk, mf, mt, mn, ms, mr, mp, mo, mc]] w fun r w' => ∃ v, r = .returned v ∧ RsV 87 w.heap.size ⟨FS, S2 ++ S3, 0⟩ v w' ∧ Kp w w' := by
 have htl := fun w1 (hk : Kp w w1) => msTell_any (ads := ads) ⟨rq, re, rs, rh⟩ mk hz ik w1 (TC.kp hk) (kZ hk ce)
 rw [hy] at htl; obtain ⟨er, her⟩ : ∃ x, errI ads ((⟨rq, re, rs, rh⟩ : SeatM).tell mk).1 = x := ⟨_, rfl⟩
 rw [her] at htl; have hdo := fun w1 (hk : Kp w w1) => msAct_any (ads := ads) ⟨y1, y2, y3, y4⟩ 11 hz5 (by unfold i64M; omega) w1 (TC.kp hk) (TS.kp hk) (kZ hk ce)
 obtain ⟨ed, hed⟩ : ∃ x, errI ads (((⟨y1, y2, y3, y4⟩ : SeatM).act 11).1) = x := ⟨_, rfl⟩
 rw [hed] at hdo; dsimp only [effV, seatV] at htl; have HTL := hD htl; have hrs := fun w => lResult (w := w) rn rp rq re rs rh an aw ao ad ax ap ac av al ak ri z1 z2 z3 z4 zs zf zw zc FS hFS S2 hS2
 have han := fun w => answer_any (⟨mk, mf, mt, mn, ms, mr, mp, mo, mc⟩ : MM) 19 zf w
 dsimp only [MM.cells, answerM] at han; have HAN := hD han; obtain ⟨lf, hlf⟩ : ∃ x, FS.length = x := ⟨_, rfl⟩
 obtain ⟨lm, hlm⟩ : ∃ x, S2.length = x := ⟨_, rfl⟩
 have HRS := hD (fun w => (hrs w).mono (R' := fun r w' => ∃ fa fc la lc, r = .returned (.agg #[.slice fa lf fc, .slice la lm lc, (0:Int)]) ∧ w'.ownsRow w.heap.size 87 14 (.slice fa lf fc) lf (fcE.row FS) ∧ w'.ownsRow w.heap.size 63 9 (.slice la lm lc) lm (mmE.row S2) ∧ Kp w w') (by
  rintro e w2 ⟨v, rfl, h, hk⟩; obtain ⟨fa, fc, ma, mc, rfl, h1, h2⟩ := RsV.form (t := 87) (r := ⟨FS, S2, 0⟩) (v := v) h hlf hlm; exact ⟨fa, fc, ma, mc, rfl, h1, h2, hk⟩))
 obtain ⟨HLF, HLM⟩ := hD2 hlf hlm; have HM2 := hD (show lm ≤ 1 by rw [← hlm, ← hS2]; split <;> simp); have HS3 := hD hS3; have R0 := hD (p3_0 w (.cells #[rn, rp, rq, re, rs, rh, an, aw, ao, ad, ax, ap, ac, .slice av al ak, ri] 137) (.cells #[mk, mf, mt, mn, ms, mr, mp, mo, mc] 63) (.cells #[.slice none 0 0, .slice none 0 0, (0:Int)] 37)); have R1 := hD (p3_1 w (.cells #[rn, rp, rq, re, rs, rh, an, aw, ao, ad, ax, ap, ac, .slice av al ak, ri] 137) (.cells #[mk, mf, mt, mn, ms, mr, mp, mo, mc] 63) (.cells #[.slice none 0 0, .slice none 0 0, (0:Int)] 37)); have R2 := hD (p3_2 w (.cells #[rn, rp, rq, re, rs, rh, an, aw, ao, ad, ax, ap, ac, .slice av al ak, ri] 137) (.cells #[mk, mf, mt, mn, ms, mr, mp, mo, mc] 63) (.cells #[.slice none 0 0, .slice none 0 0, (0:Int)] 37)); have K3 := hD (pk3 w (.cells #[rn, rp, rq, re, rs, rh, an, aw, ao, ad, ax, ap, ac, .slice av al ak, ri] 137) (.cells #[mk, mf, mt, mn, ms, mr, mp, mo, mc] 63) (.cells #[.slice none 0 0, .slice none 0 0, (0:Int)] 37))
 obtain ⟨a0, a1, a2, a3, a4, a5, a6, a7, a8, a9, a10, a11, a12, a13, a14⟩ := cells15 R0.out; obtain ⟨b0, b1, b2, b3, b4, b5, b6, b7, b8⟩ := cells9 R1.out; obtain ⟨HZZ, HDO0⟩ := hD2 hzz hdo; clear TC TS ce hz ik hy hFS hS2 hS3 htl her hrs han hlf hlm hzz hz5 hdo hed; go_enter Tryz.func134, Tryz.ntmps134; obtain ⟨t5, ht5⟩ : ∃ b, (y3 == 5) = b := ⟨_, rfl⟩
 obtain ⟨t2, ht2⟩ : ∃ b, (ac == 2) = b := ⟨_, rfl⟩
 obtain ⟨HT5, HT2⟩ := hD2 ht5 ht2; obtain ⟨cb, hcb⟩ : ∃ b, decide (yc = true ∧ y3 = 5 ∧ ac = 2) = b := ⟨_, rfl⟩
 have HCB := hD hcb; clear hcb; go_upto_region 2 with (go_at_call 173; (with_reducible refine (HTL.out _ K3.out).mono ?_); rintro e' w5 ⟨rfl, hk⟩; have kz := kT hk (kA w5 (.cells #[y1, y2, y3, y4, ys, yf, yw, .bool yc] 143)); have K5 := hD (kT K3.out kz); have R50 := hD (rZ kz R0.out); have R51 := hD (rZ kz R1.out); have R52 := hD (rZ kz R2.out); have R5E := hD (mH w5 (.cells #[y1, y2, y3, y4, ys, yf, yw, .bool yc] 143)); have B5 := hD (kS (kT K3.out hk)); have B52 := hD (show w.heap.size + 1 + 1 < w5.heap.size from oZ (rZ hk R2.out)); obtain ⟨a50, a51, a52, a53, a54, a55, a56, a57, a58, a59, a510, a511, a512, a513, a514⟩ := cells15 R50.out; obtain ⟨b50, b51, b52, b53, b54, b55, b56, b57, b58⟩ := cells9 R51.out; obtain ⟨e50, e51, e52, e53, e54, e55, e56, e57⟩ := c8X R5E.out; have f5 := frozN R5E.out; clear hk kz)
 go_cut [30] from 8 (fun s30 w' => s30 = .bool cb ∧ ToE w (.cells #[rn, rp, rq, re, rs, rh, an, aw, ao, ad, ax, ap, ac, .slice av al ak, ri] 137) (.cells #[mk, mf, mt, mn, ms, mr, mp, mo, mc] 63) (.cells #[.slice none 0 0, .slice none 0 0, (0:Int)] 37) (.cells #[y1, y2, y3, y4, ys, yf, yw, .bool yc] 143) w5.heap.size w')
 case first =>
  cases yc
  ·have hc : cb = false := by rw [← HCB.out]; rfl
   subst hc; clear HT5 HT2 HCB HZZ HDO0; go_wp2_with fail
   go_meet
   case rel => exact ⟨rfl, R50.out, R51.out, R52.out, R5E.out, K5.out⟩
  cases t5
  ·have hc : cb = false := by rw [← HCB.out]; exact dF (fun h => by have := HT5.out; rw [h.2.1] at this; cases this)
   subst hc; clear HT5 HT2 HCB HZZ HDO0; go_wp2_with fail
   go_meet
   case rel => exact ⟨rfl, R50.out, R51.out, R52.out, R5E.out, K5.out⟩
  have hc : t2 = cb := by rw [← HCB.out, ← HT2.out]; simp only [eq_of_beq HT5.out, true_and]; rfl
  subst hc; clear HT5 HT2 HCB HZZ HDO0; go_wp2_with fail
  go_meet
  case rel => exact ⟨rfl, R50.out, R51.out, R52.out, R5E.out, K5.out⟩
 case rest =>
 clear ht5 ht2 HT5 HT2 R50 R51 R52 R5E K5 a50 a51 a52 a53 a54 a55 a56 a57 a58 a59 a510 a511 a512 a513 a514 b50 b51 b52 b53 b54 b55 b56 b57 b58 e50 e51 e52 e53 e54 e55 e56 e57 f5; obtain ⟨rfl, hcut⟩ := hcut; have K5 := hD hcut.2.2.2.2; have R50 := hD hcut.1; have R51 := hD hcut.2.1; have R52 := hD hcut.2.2.1; have R5E := hD hcut.2.2.2.1; have f5 := frozN R5E.out; obtain ⟨a50, a51, a52, a53, a54, a55, a56, a57, a58, a59, a510, a511, a512, a513, a514⟩ := cells15 R50.out; obtain ⟨b50, b51, b52, b53, b54, b55, b56, b57, b58⟩ := cells9 R51.out; obtain ⟨e50, e51, e52, e53, e54, e55, e56, e57⟩ := c8X R5E.out; clear hcut; obtain ⟨wb, hwb⟩ : ∃ x, x = wc := ⟨_, rfl⟩
 go_upto_if 30 with fail
 go_cut [] from 8 (ToE w (.cells #[rn, rp, rq, re, rs, rh, an, aw, ao, ad, ax, ap, ac, .slice av al ak, ri] 137) (.cells #[mk, mf, mt, mn, ms, mr, mp, mo, mc] 63) (.cells #[.slice none 0 0, .slice none 0 0, (0:Int)] 37) (.cells #[z1, z2, z3, z4, zs, zf, zw, .bool zc] 143) w5.heap.size)
 case first =>
  clear hwb
  cases cb
  ·have hzz := HZZ.out; rw [if_neg (of_decide_eq_false HCB.out)] at hzz; have hzz := eff_eq hzz; clear HZZ HDO0 HCB; go_wp2_with fail
   go_meet
   case rel => exact ⟨R50.out, R51.out, R52.out, by rw [← hzz]; exact R5E.out, K5.out⟩
  ·have hzz := HZZ.out; rw [if_pos (of_decide_eq_true HCB.out)] at hzz; have hdo := HDO0.out; rw [hzz] at hdo; dsimp only [effV, seatV] at hdo; have HDO := hD hdo; clear hzz HZZ HDO0 hdo HCB; go_wp2_with (go_at_call 65; (with_reducible refine (HDO.out _ K5.out).mono ?_); rintro e' w7 ⟨rfl, hk⟩; have K7 := hD (kT K5.out hk); have R70 := hD (rZ hk R50.out); have R71 := hD (rZ hk R51.out); have R72 := hD (rZ hk R52.out); have R7E := hD (rZ hk R5E.out); obtain ⟨e70, e71, e72, e73, e74, e75, e76, e77⟩ := c8X R7E.out; have f7 := frozN R7E.out; clear hk)
   go_meet
   case rel => exact ⟨(set8_ne (show w.heap.size ≠ w5.heap.size by have := B52.out; omega) _ _ _ _ _ _ _ _).trans R70.out, (set8_ne (show w.heap.size + 1 ≠ w5.heap.size by have := B52.out; omega) _ _ _ _ _ _ _ _).trans R71.out, (set8_ne (show w.heap.size + 1 + 1 ≠ w5.heap.size by have := B52.out; omega) _ _ _ _ _ _ _ _).trans R72.out, set_8 _ _ _ _ _ _ _ _ R7E.out, set_8_kp K7.out (by have := B5.out; have := B52.out; omega) _ _ _ _ _ _ _ _⟩
 case rest =>
  have KC := hD hcut.2.2.2.2; have RC0 := hD hcut.1; have RC1 := hD hcut.2.1; have RC2 := hD hcut.2.2.1; have RCE := hD hcut.2.2.2.1; have BC := hD (show w5.heap.size < wc.heap.size from oZ RCE.out); clear hcut hwb HZZ HDO0 HCB a50 a51 a52 a53 a54 a55 a56 a57 a58 a59 a510 a511 a512 a513 a514 b50 b51 b52 b53 b54 b55 b56 b57 b58 e50 e51 e52 e53 e54 e55 e56 e57; obtain ⟨q0, q1, q2, q3, q4, q5, q6, q7, q8, q9, q10, q11, q12, q13, q14⟩ := cells15 RC0.out; obtain ⟨v0, v1, v2, v3, v4, v5, v6, v7, v8⟩ := cells9 RC1.out; obtain ⟨h0, h1, h2, h3, h4, h5, h6, h7⟩ := c8X RCE.out; go_upto_if 42 with (go_at_call 63; (with_reducible refine (HRS.out _).mono ?_); rintro e' w6 ⟨fa, fc, la, lc, rfl, of, om, hk⟩; have kz := kT hk (kA w6 (.cells #[.slice fa lf fc, .slice la lm lc, (0:Int)] 37)); have K6 := hD (kT KC.out kz); have R61 := hD (rZ kz RC1.out); have R62 := hD (rZ kz RC2.out); have R6E := hD (rZ kz RCE.out); have R6R := hD (mH w6 (.cells #[.slice fa lf fc, .slice la lm lc, (0:Int)] 37)); have OF6 := hD (bG (oK of (kA w6 (.cells #[.slice fa lf fc, .slice la lm lc, (0:Int)] 37))) (kS KC.out)); have OM6 := hD (bG (base' := w5.heap.size) (oK om (kA w6 (.cells #[.slice fa lf fc, .slice la lm lc, (0:Int)] 37))) (Nat.le_of_lt BC.out)); have B6 := hD (show w5.heap.size < w6.heap.size from oZ (rZ hk RCE.out)); obtain ⟨r60, r61, r62⟩ := cellsR3 R6R.out; obtain ⟨e60, e61, e62, e63, e64, e65, e66, e67⟩ := c8X R6E.out; clear hk kz of om)
  go_cut [] from 8 (ToL w (.cells #[mk, mf, mt, mn, ms, mr, mp, mo, mc] 63) (.cells #[.slice none 0 0, .slice none 0 0, (0:Int)] 37) w6.heap.size ⟨FS, S2 ++ S3, 0⟩)
  case first =>
   by_cases h : zf = 0
   ·have g1 : (zf != 0) = false := by simp [h]
    have hE : S3 = [] := by rw [← HS3.out, if_neg (by simpa using h)]
    subst hE; clear h HS3; go_wp2_with fail
    go_meet
    case rel => exact ⟨R61.out, R62.out, ⟨_, _, _, _, _, _, R6R.out, HLF.out, (by simp only [List.append_nil]; exact HLM.out), OF6.out, (by simp only [List.append_nil]; exact bG OM6.out B5.out)⟩, K6.out⟩
   ·have g1 : (zf != 0) = true := by simp [h]
    have hE : S3 = [(⟨19, mt, mf, mn, ms, mr, mp, 0, zf⟩ : MM)] := by rw [← HS3.out, if_pos h]
    subst hE; clear h HS3; go_wp2_with fail
    obtain ⟨WD, hWD⟩ : ∃ x, ((w6.alloc (.cells #[.slice fa lf fc, .slice la lm lc, (0:Int)] 37))).drew = x := ⟨_, rfl⟩
    have kD : Kp ((w6.alloc (.cells #[.slice fa lf fc, .slice la lm lc, (0:Int)] 37))) WD := by rw [← hWD]; exact dQ (Kp.refl _)
    have HWD := hD hWD; have kDD := Kp.refl WD; clear hWD; have R3D := hD (rZ kD R6R.out); have HC3 := hD (cellsR3 R3D.out).2.1; have OFD := hD (oK OF6.out kD); have OSD := hD (oK OM6.out kD); have HB8 := hD (show w5.heap.size < WD.heap.size from oZ (rZ kD R6E.out)); refine rgW (fun w' => w'.heap[(w.heap.size + 1)]? = some (.cells #[mk, mf, mt, mn, ms, mr, mp, mo, mc] 63) ∧ w'.heap[w5.heap.size]? = some (.cells #[z1, z2, z3, z4, zs, zf, zw, .bool zc] 143) ∧ w'.heap[(w.heap.size + 1 + 1)]? = some (.cells #[.slice none 0 0, .slice none 0 0, (0:Int)] 37) ∧ Kp w w') ?_ fun hH => ?_
    ·exact by rw [HWD.out]; exact ⟨rZ kD R61.out, rZ kD R6E.out, rZ kD R62.out, kT K6.out kD⟩
    rw [HWD.out] at hH ⊢; refine tkP 0 ?_
    go_simp; refine tkP 2 ?_ (y := by intro w hZ; obtain ⟨y0, y1, y2, y3, y4, y5, y6, y7, y8⟩ := cells9 hZ.1; go_simp; try rfl)
    go_simp; refine tkP 3 ?_
    go_simp; refine tkP 4 ?_ (y := by intro w hZ; obtain ⟨g0, g1, g2, g3, g4, g5, g6, g7⟩ := c8X hZ.2.1; go_simp; try rfl)
    go_simp; refine wpAnyH_ready (rs := [1, 5]) (by kernel_rfl) (by simp) ?_
    refine aC (fun K hK => ?_) (aC (fun K hK => ?_) aN0)
    ·have gl := kZ kDD HC3.out; go_simp; refine hK.out _ _ (hH) fun hH => ?_
     clear hK K; refine rdW 5 fun K hK => ?_
     go_simp; go_wp2_with (go_at_call 171; (with_reducible refine (HAN.out _).mono ?_); rintro e' W3 ⟨rfl, hk3⟩)
     refine hK.out _ _ (⟨rZ hk3 hH.1, rZ hk3 hH.2.1, rZ hk3 hH.2.2.1, kT hH.2.2.2 hk3⟩) fun hH => ?_
     clear hK K; have k3 := kT kDD hk3; refine rdW 6 fun K hK => ?_
     go_simp; refine hK.out _ _ (⟨rZ (kA _ _) hH.1, rZ (kA _ _) hH.2.1, rZ (kA _ _) hH.2.2.1, kT hH.2.2.2 (kA _ _)⟩) fun hH => ?_
     clear hK K; have o4 := own_oneM (w := W3) (B := W3.heap.size) (⟨19, mt, mf, mn, ms, mr, mp, 0, zf⟩ : MM) (Nat.le_refl _); obtain ⟨W4, hW4⟩ : ∃ x, W3.alloc (.cells #[(19:Int), mt, mf, mn, ms, mr, mp, (0:Int), zf] 63) = x := ⟨_, rfl⟩
     have c4 : Kp W3 W4 := by rw [← hW4]; exact kA _ _
     dsimp only [FX.cells, MM.cells] at o4; rw [hW4] at o4; obtain ⟨p4, hp4⟩ : ∃ x, W3.heap.size = x := ⟨_, rfl⟩
     have k4 := kT k3 c4; rw [hp4] at o4; rw [hW4] at hH ⊢
     try rw [hp4]
     clear hW4 hp4 c4; refine wpAnyH_ready (rs := [7]) (by kernel_rfl) (by simp) ?_
     refine AllReadyH.consLG rfl (fun K hK => ?_) aN0
     have P2 := qG (E := mmE) (by decide) o4; have OX := oK OSD.out k4; go_simp; refine aG (E := mmE) ty_mm (by decide) _ rfl _ _ rfl w5.heap.size _ _ S2 rfl OX _ _ rfl P2 ?f3 ?f4 ?_
     case f3 => (have := HM2.out; simp; omega)
     case f4 => have := kS k4; have := HB8.out; omega
     rintro v5 W5 o5 hg hb; obtain ⟨a5, c5, rfl⟩ := fG o5; refine hK.out _ _ (⟨(hg.block _ (oZ hH.1) (fun e => by have := (OX.lt _ e.symm).1; have := B52.out; omega)).trans hH.1, (hg.block _ (oZ hH.2.1) (Ne.symm (own_neP OX hH.2.1 (by decide)))).trans hH.2.1, (hg.block _ (oZ hH.2.2.1) (Ne.symm (own_neP OX hH.2.2.1 (by decide)))).trans hH.2.2.1, Below.grown hH.2.2.2 hg (kS hH.2.2.2) (fun b hk => Nat.le_trans B5.out (OX.lt b hk).1)⟩) fun hH => ?_
     clear hK K; have r5 := (hg.block _ (oZ (rZ k4 R3D.out)) (Ne.symm (own_neP OX (rZ k4 R3D.out) (by decide)))).trans (rZ k4 R3D.out); have o6 := sG (oK OFD.out k4) (fun b e => (hg.block b ((oK OFD.out k4).lt b e).2 (fun e2 => aQ (oK OFD.out k4) OX (by decide) b e e2.symm))); clear hg hb P2 OX; refine tkP 8 ?_
     go_simp; refine rdW 9 fun K hK => ?_
     obtain ⟨s0, s1, s2⟩ := cellsR3 r5; have fz5 := frozN r5; go_simp; refine hK.out _ _ (⟨(bS _ _ _ _ (show w.heap.size + 1 ≠ w6.heap.size by have := B52.out; have := B6.out; omega)).trans hH.1, (bS _ _ _ _ (show w5.heap.size ≠ w6.heap.size by have := B6.out; omega)).trans hH.2.1, (bS _ _ _ _ (show w.heap.size + 1 + 1 ≠ w6.heap.size by have := B52.out; have := B6.out; omega)).trans hH.2.2.1, Below.setCell hH.2.2.2 (show w.heap.size ≤ w6.heap.size by have := B5.out; have := B6.out; omega) _⟩) fun hH => ?_
     clear hK K; refine dnW ?_ _
     have O5' := hD o5; have RR5 := hD r5; clear o5; have O6' := hD o6; clear o6; have KZ := hD hH; clear r5; go_wp2_with fail
     go_meet
     case rel => exact ⟨KZ.out.1, KZ.out.2.2.1, ⟨_, _, _, _, _, _, (Joins.block_setCell RR5.out _).trans rfl, HLF.out, by rw [List.length_append, HLM.out]; rfl, sG O6'.out (fun b e => bS _ _ _ _ (fun e2 => own_neP O6'.out RR5.out (by decide) ((show b = w6.heap.size from e2) ▸ e))), bG (sG O5'.out (fun b e => bS _ _ _ _ (fun e2 => own_neP O5'.out RR5.out (by decide) ((show b = w6.heap.size from e2) ▸ e)))) B5.out⟩, KZ.out.2.2.2⟩
    ·go_simp; go_wp2_with (go_at_call 171; (with_reducible refine (HAN.out _).mono ?_); rintro e' W3 ⟨rfl, hk3⟩)
     refine hK.out _ _ (⟨rZ hk3 hH.1, rZ hk3 hH.2.1, rZ hk3 hH.2.2.1, kT hH.2.2.2 hk3⟩) fun hH => ?_
     clear hK K; have k3 := kT kDD hk3; refine wpAnyH_ready (rs := [1, 6]) (by kernel_rfl) (by simp) ?_
     refine aC (fun K hK => ?_) (aC (fun K hK => ?_) aN0)
     ·have gl := kZ k3 HC3.out; go_simp; refine hK.out _ _ (hH) fun hH => ?_
      clear hK K; refine rdW 6 fun K hK => ?_
      go_simp; refine hK.out _ _ (⟨rZ (kA _ _) hH.1, rZ (kA _ _) hH.2.1, rZ (kA _ _) hH.2.2.1, kT hH.2.2.2 (kA _ _)⟩) fun hH => ?_
      clear hK K; have o4 := own_oneM (w := W3) (B := W3.heap.size) (⟨19, mt, mf, mn, ms, mr, mp, 0, zf⟩ : MM) (Nat.le_refl _); obtain ⟨W4, hW4⟩ : ∃ x, W3.alloc (.cells #[(19:Int), mt, mf, mn, ms, mr, mp, (0:Int), zf] 63) = x := ⟨_, rfl⟩
      have c4 : Kp W3 W4 := by rw [← hW4]; exact kA _ _
      dsimp only [FX.cells, MM.cells] at o4; rw [hW4] at o4; obtain ⟨p4, hp4⟩ : ∃ x, W3.heap.size = x := ⟨_, rfl⟩
      have k4 := kT k3 c4; rw [hp4] at o4; rw [hW4] at hH ⊢
      try rw [hp4]
      clear hW4 hp4 c4; refine wpAnyH_ready (rs := [7]) (by kernel_rfl) (by simp) ?_
      refine AllReadyH.consLG rfl (fun K hK => ?_) aN0
      have P2 := qG (E := mmE) (by decide) o4; have OX := oK OSD.out k4; go_simp; refine aG (E := mmE) ty_mm (by decide) _ rfl _ _ rfl w5.heap.size _ _ S2 rfl OX _ _ rfl P2 ?f3 ?f4 ?_
      case f3 => (have := HM2.out; simp; omega)
      case f4 => have := kS k4; have := HB8.out; omega
      rintro v5 W5 o5 hg hb; obtain ⟨a5, c5, rfl⟩ := fG o5; refine hK.out _ _ (⟨(hg.block _ (oZ hH.1) (fun e => by have := (OX.lt _ e.symm).1; have := B52.out; omega)).trans hH.1, (hg.block _ (oZ hH.2.1) (Ne.symm (own_neP OX hH.2.1 (by decide)))).trans hH.2.1, (hg.block _ (oZ hH.2.2.1) (Ne.symm (own_neP OX hH.2.2.1 (by decide)))).trans hH.2.2.1, Below.grown hH.2.2.2 hg (kS hH.2.2.2) (fun b hk => Nat.le_trans B5.out (OX.lt b hk).1)⟩) fun hH => ?_
      clear hK K; have r5 := (hg.block _ (oZ (rZ k4 R3D.out)) (Ne.symm (own_neP OX (rZ k4 R3D.out) (by decide)))).trans (rZ k4 R3D.out); have o6 := sG (oK OFD.out k4) (fun b e => (hg.block b ((oK OFD.out k4).lt b e).2 (fun e2 => aQ (oK OFD.out k4) OX (by decide) b e e2.symm))); clear hg hb P2 OX; refine tkP 8 ?_
      go_simp; refine rdW 9 fun K hK => ?_
      obtain ⟨s0, s1, s2⟩ := cellsR3 r5; have fz5 := frozN r5; go_simp; refine hK.out _ _ (⟨(bS _ _ _ _ (show w.heap.size + 1 ≠ w6.heap.size by have := B52.out; have := B6.out; omega)).trans hH.1, (bS _ _ _ _ (show w5.heap.size ≠ w6.heap.size by have := B6.out; omega)).trans hH.2.1, (bS _ _ _ _ (show w.heap.size + 1 + 1 ≠ w6.heap.size by have := B52.out; have := B6.out; omega)).trans hH.2.2.1, Below.setCell hH.2.2.2 (show w.heap.size ≤ w6.heap.size by have := B5.out; have := B6.out; omega) _⟩) fun hH => ?_
      clear hK K; refine dnW ?_ _
      have O5' := hD o5; have RR5 := hD r5; clear o5; have O6' := hD o6; clear o6; have KZ := hD hH; clear r5; go_wp2_with fail
      go_meet
      case rel => exact ⟨KZ.out.1, KZ.out.2.2.1, ⟨_, _, _, _, _, _, (Joins.block_setCell RR5.out _).trans rfl, HLF.out, by rw [List.length_append, HLM.out]; rfl, sG O6'.out (fun b e => bS _ _ _ _ (fun e2 => own_neP O6'.out RR5.out (by decide) ((show b = w6.heap.size from e2) ▸ e))), bG (sG O5'.out (fun b e => bS _ _ _ _ (fun e2 => own_neP O5'.out RR5.out (by decide) ((show b = w6.heap.size from e2) ▸ e)))) B5.out⟩, KZ.out.2.2.2⟩
     ·go_simp; refine hK.out _ _ (⟨rZ (kA _ _) hH.1, rZ (kA _ _) hH.2.1, rZ (kA _ _) hH.2.2.1, kT hH.2.2.2 (kA _ _)⟩) fun hH => ?_
      clear hK K; have o4 := own_oneM (w := W3) (B := W3.heap.size) (⟨19, mt, mf, mn, ms, mr, mp, 0, zf⟩ : MM) (Nat.le_refl _); obtain ⟨W4, hW4⟩ : ∃ x, W3.alloc (.cells #[(19:Int), mt, mf, mn, ms, mr, mp, (0:Int), zf] 63) = x := ⟨_, rfl⟩
      have c4 : Kp W3 W4 := by rw [← hW4]; exact kA _ _
      dsimp only [FX.cells, MM.cells] at o4; rw [hW4] at o4; obtain ⟨p4, hp4⟩ : ∃ x, W3.heap.size = x := ⟨_, rfl⟩
      have k4 := kT k3 c4; rw [hp4] at o4; rw [hW4] at hH ⊢
      try rw [hp4]
      clear hW4 hp4 c4; refine rdW 1 fun K hK => ?_
      have gl := kZ k4 HC3.out; go_simp; refine hK.out _ _ (hH) fun hH => ?_
      clear hK K; refine wpAnyH_ready (rs := [7]) (by kernel_rfl) (by simp) ?_
      refine AllReadyH.consLG rfl (fun K hK => ?_) aN0
      have P2 := qG (E := mmE) (by decide) o4; have OX := oK OSD.out k4; go_simp; refine aG (E := mmE) ty_mm (by decide) _ rfl _ _ rfl w5.heap.size _ _ S2 rfl OX _ _ rfl P2 ?f3 ?f4 ?_
      case f3 => (have := HM2.out; simp; omega)
      case f4 => have := kS k4; have := HB8.out; omega
      rintro v5 W5 o5 hg hb; obtain ⟨a5, c5, rfl⟩ := fG o5; refine hK.out _ _ (⟨(hg.block _ (oZ hH.1) (fun e => by have := (OX.lt _ e.symm).1; have := B52.out; omega)).trans hH.1, (hg.block _ (oZ hH.2.1) (Ne.symm (own_neP OX hH.2.1 (by decide)))).trans hH.2.1, (hg.block _ (oZ hH.2.2.1) (Ne.symm (own_neP OX hH.2.2.1 (by decide)))).trans hH.2.2.1, Below.grown hH.2.2.2 hg (kS hH.2.2.2) (fun b hk => Nat.le_trans B5.out (OX.lt b hk).1)⟩) fun hH => ?_
      clear hK K; have r5 := (hg.block _ (oZ (rZ k4 R3D.out)) (Ne.symm (own_neP OX (rZ k4 R3D.out) (by decide)))).trans (rZ k4 R3D.out); have o6 := sG (oK OFD.out k4) (fun b e => (hg.block b ((oK OFD.out k4).lt b e).2 (fun e2 => aQ (oK OFD.out k4) OX (by decide) b e e2.symm))); clear hg hb P2 OX; refine tkP 8 ?_
      go_simp; refine rdW 9 fun K hK => ?_
      obtain ⟨s0, s1, s2⟩ := cellsR3 r5; have fz5 := frozN r5; go_simp; refine hK.out _ _ (⟨(bS _ _ _ _ (show w.heap.size + 1 ≠ w6.heap.size by have := B52.out; have := B6.out; omega)).trans hH.1, (bS _ _ _ _ (show w5.heap.size ≠ w6.heap.size by have := B6.out; omega)).trans hH.2.1, (bS _ _ _ _ (show w.heap.size + 1 + 1 ≠ w6.heap.size by have := B52.out; have := B6.out; omega)).trans hH.2.2.1, Below.setCell hH.2.2.2 (show w.heap.size ≤ w6.heap.size by have := B5.out; have := B6.out; omega) _⟩) fun hH => ?_
      clear hK K; refine dnW ?_ _
      have O5' := hD o5; have RR5 := hD r5; clear o5; have O6' := hD o6; clear o6; have KZ := hD hH; clear r5; go_wp2_with fail
      go_meet
      case rel => exact ⟨KZ.out.1, KZ.out.2.2.1, ⟨_, _, _, _, _, _, (Joins.block_setCell RR5.out _).trans rfl, HLF.out, by rw [List.length_append, HLM.out]; rfl, sG O6'.out (fun b e => bS _ _ _ _ (fun e2 => own_neP O6'.out RR5.out (by decide) ((show b = w6.heap.size from e2) ▸ e))), bG (sG O5'.out (fun b e => bS _ _ _ _ (fun e2 => own_neP O5'.out RR5.out (by decide) ((show b = w6.heap.size from e2) ▸ e)))) B5.out⟩, KZ.out.2.2.2⟩
  case rest =>
   obtain ⟨r1, r2, ⟨qa, qn, qc, qd, qm, qe, r3, hnf, hnm, of, om⟩, kc⟩ := hcut; dsimp only at r3 hnf hnm of om; obtain ⟨HQN, HQM⟩ := hD2 hnf hnm; obtain ⟨j0, j1, j2⟩ := cellsR3 r3; obtain ⟨u0, u1', u2⟩ := cellsR3 r2; have fz := frozN r2; obtain ⟨R2, K4, OF, OM⟩ := hD4 r2 kc of om; clear r1 r2 r3 kc of om hnf hnm; go_wp2; refine bodyPost_ret (results_cell_row (p := 4) rfl _ _ (w.heap.size + 1 + 1) 37 _ (0, 0) _ rfl (setR3 _ _ _ R2.out) Tryz.underlying37 rfl (by kernel_rfl)) rfl ?_
   exact ⟨_, rfl, RsV.setN (r := ⟨FS, S2 ++ S3, 0⟩) R2.out (by decide) (by decide) HQN.out HQM.out OF.out OM.out, setR3_kp K4.out (show w.heap.size ≤ w.heap.size + 1 + 1 by omega) _ _ _⟩
end Go.Proofs.YtlmlmhmhgdjhnaaGreatDoor
