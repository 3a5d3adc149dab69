/-
  PARTS OF THIS PROOF (own work): SdB.
-/
import Derived.Test.YtpemeenfhkgmpaaGreatDoorZb01
import Derived.Test.YtpemeenfhkgmpaaGreatDoorZb12
import Derived.StillTailTactics
namespace Go.Proofs.YtpemeenfhkgmpaaGreatDoor
open Go.RowKit Go.ChangeShapes Go.WideShapes

variable {w0 w w' W w3 : World} {B q : Nat} {m : StM} {gs : List AcG} {va vp : Value}

set_option maxRecDepth 100000 in
set_option maxHeartbeats 2000000 in
theorem refAct4 (Hs : GS tyD B q m gs va vp w) (h8 : gs.length ≤ 8) {i : Nat} {ii : Int} (hii : (i : Int) = ii) {xn xs xo xd xp xc : Int} {xx : Nat} {xr : List RgM} {xb : Option Addr} {xk : Nat} (hg : gs[i]? = some ⟨⟨⟨xn, xs, xo, xd, xx⟩, xp, xc, xr⟩, xb, xk⟩) (h6 : xr.length ≤ 6) (fn fs fr fe fp fq fo fd fa ft fh fc : Int) (fx : Nat) : Calls Tryz.prog 33 #[.pointer (some ⟨q, 0, none⟩), .int .i64 ii, .agg #[.int .i64 4, .int .i64 fn, .int .i64 fs, .int .i64 fr, .int .i64 fe, .int .i64 fp, .int .i64 fq, .int .i64 fo, .int .i64 fd, .int .i64 fa, .int .i64 ft, .int .i64 fh, .int .i64 fc, .float .f64 fx]] w fun r w' => r = .returned (.bool (actS m i ⟨⟨xn, xs, xo, xd, xx⟩, xp, xc, xr⟩ (⟨4, fn, fs, fr, fe, fp, fq, fo, fd, fa, ft, fh, fc, fx⟩ : FX)).isSome) ∧ ∃ gs' va', GS tyD B q ((actS m i ⟨⟨xn, xs, xo, xd, xx⟩, xp, xc, xr⟩ (⟨4, fn, fs, fr, fe, fp, fq, fo, fd, fa, ft, fh, fc, fx⟩ : FX)).getD m) gs' va' vp w' ∧ Asd (Ow q gs va vp) (Ow q gs' va' vp) w w' := by
  have _u := And.intro h8 h6
  clear _u
  obtain ⟨hi, hgi⟩ := List.getElem?_eq_some_iff.1 hg
  obtain ⟨ga, cpa, rfl, hcpa, hgB, hgl, hfz, hcell⟩ := own_cellQ (E := acE) Hs.oa rfl hi
  rw [hgi, show acE.k = 8 from rfl] at hcell
  have HR := Lib.hid (Hs.og _ (List.mem_of_getElem? hg))
  obtain ⟨len, hl⟩ : ∃ x, gs.length = x := ⟨_, rfl⟩
  obtain ⟨n, hn⟩ : ∃ x, xr.length = x := ⟨_, rfl⟩
  have htn : ii.toNat = i := by omega
  have hi0 : 0 ≤ ii := by omega
  have hiL : ii < (len : Int) := by omega
  have x2 : w.cell? ⟨ga, ii.toNat * 8 + 2, none⟩ = some (.int .i64 xo) := by rw [htn]; exact hcell 2 _ (by decide) rfl
  have x6 : w.cell? ⟨ga, ii.toNat * 8 + 6, none⟩ = some (.int .i64 xc) := by rw [htn]; exact hcell 6 _ (by decide) rfl
  have x7 : w.cell? ⟨ga, ii.toNat * 8 + 7, none⟩ = some (.slice xb n xk) := by rw [htn, ← hn]; exact hcell 7 _ (by decide) rfl
  have e0 : w.cell? ⟨q, 2, none⟩ = some (.slice (some ⟨ga, 0, none⟩) len cpa) := by rw [← hl]; exact cellU (i := 2) Hs.row rfl
  have hkW := kp_alloc w (.cells #[.int .i64 4, .int .i64 fn, .int .i64 fs, .int .i64 fr, .int .i64 fe, .int .i64 fp, .int .i64 fq, .int .i64 fo, .int .i64 fd, .int .i64 fa, .int .i64 ft, .int .i64 fh, .int .i64 fc, .float .f64 fx] 42)
  obtain ⟨f0, f1, f2, f3, f4, f5, f6, f7, f8, f9, f10, f11, f12, f13⟩ := cells14 (MapKept.heap_alloc w (.cells #[.int .i64 4, .int .i64 fn, .int .i64 fs, .int .i64 fr, .int .i64 fe, .int .i64 fp, .int .i64 fq, .int .i64 fo, .int .i64 fd, .int .i64 fa, .int .i64 ft, .int .i64 fh, .int .i64 fc, .float .f64 fx] 42)).1
  obtain ⟨W, hW⟩ : ∃ W, w.alloc (.cells #[.int .i64 4, .int .i64 fn, .int .i64 fs, .int .i64 fr, .int .i64 fe, .int .i64 fp, .int .i64 fq, .int .i64 fo, .int .i64 fd, .int .i64 fa, .int .i64 ft, .int .i64 fh, .int .i64 fc, .float .f64 fx] 42) = W := ⟨_, rfl⟩
  rw [hW] at hkW f0 f1 f2 f3 f4 f5 f6 f7 f8 f9 f10 f11 f12 f13
  have x2 := kp_cell hkW x2
  have x6 := kp_cell hkW x6
  have x7 := kp_cell hkW x7
  have e0 := kp_cell hkW e0
  have hL : ∃ L : Int, (len : Int) = L := ⟨_, rfl⟩
  obtain ⟨L, hL⟩ := hL
  rw [hL] at hiL
  obtain ⟨N, hN⟩ : ∃ N : Int, (n : Int) = N := ⟨_, rfl⟩
  have hN6 : N ≤ 6 := by omega
  have HS := Lib.hid Hs
  have HG := Lib.hid hg
  have HL := Lib.hid hl
  have HN := Lib.hid hn
  have HNN := Lib.hid hN
  have HI := Lib.hid hi
  have HII := Lib.hid hii
  have HTN := Lib.hid htn
  have KW := Lib.hid hkW
  have HZ := Lib.hid (show ∀ w', Kp w w' → ∀ j, w'.frozen? ⟨ga, j, none⟩ = false from fun w' h j => by rw [Below.frozen h hgl]; exact hfz j)
  have hsf := store_fl
  by_cases h1 : xo = 1
  · by_cases h2 : xc = 0
    · have hm : actS m i ⟨⟨xn, xs, xo, xd, xx⟩, xp, xc, xr⟩ (⟨4, fn, fs, fr, fe, fp, fq, fo, fd, fa, ft, fh, fc, fx⟩ : FX) = some { m with acts := m.acts.set i ⟨⟨xn, xs, xo, xd, xx⟩, xp, fc, xr⟩ } := by
        unfold actS
        simp [h1, h2]
      have HM := Lib.hid hm
      have fin2 := (Hs.kp hkW).setA tyD_ok hg (i := 6) (y := .int .i64 fc) (x' := ⟨⟨⟨xn, xs, xo, xd, xx⟩, xp, fc, xr⟩, xb, xk⟩) (by decide) rfl rfl rfl
      rw [show i * 8 + 6 = ii.toNat * 8 + 6 by omega] at fin2
      have FIN := Lib.hid fin2
      have z6 : W.frozen? ⟨ga, ii.toNat * 8 + 6, none⟩ = false := HZ.out W hkW _
      subst h1 h2
      rw [hm]
      clear hm fin2 Hs hg hl hn hi hgi hcell htn hgB hgl hfz hii hcpa hkW
      go_enter Tryz.func33, Tryz.ntmps33
      go_wp2
      go_ret
      exact ⟨rfl, _, _, FIN.out.1, (Asd.of_kp _ KW.out).trans FIN.out.2⟩
    · have HM := Lib.hid (show actS m i ⟨⟨xn, xs, xo, xd, xx⟩, xp, xc, xr⟩ (⟨4, fn, fs, fr, fe, fp, fq, fo, fd, fa, ft, fh, fc, fx⟩ : FX) = none by unfold actS; simp [h2])
      have g2 : (xc == 0) = false := by simpa using h2
      rw [HM.out]
      subst h1
      clear h2 Hs hg hl hn hi hgi hcell htn hgB hgl hfz hii hcpa hkW
      go_enter Tryz.func33, Tryz.ntmps33
      go_wp2
      go_ret
      exact ⟨rfl, gs, _, HS.out.kp KW.out, Asd.of_kp _ KW.out⟩
  · have HM := Lib.hid (show actS m i ⟨⟨xn, xs, xo, xd, xx⟩, xp, xc, xr⟩ (⟨4, fn, fs, fr, fe, fp, fq, fo, fd, fa, ft, fh, fc, fx⟩ : FX) = none by unfold actS; simp [h1])
    have g1 : (xo == 1) = false := by simpa using h1
    rw [HM.out]
    clear h1 Hs hg hl hn hi hgi hcell htn hgB hgl hfz hii hcpa hkW
    go_enter Tryz.func33, Tryz.ntmps33
    go_wp2
    go_ret
    exact ⟨rfl, gs, _, HS.out.kp KW.out, Asd.of_kp _ KW.out⟩
set_option maxRecDepth 100000 in
set_option maxHeartbeats 4000000 in
theorem refAct3 (Hs : GS tyD B q m gs va vp w) (h8 : gs.length ≤ 8) {i : Nat} {ii : Int} (hii : (i : Int) = ii) {xn xs xo xd xp xc : Int} {xx : Nat} {xr : List RgM} {xb : Option Addr} {xk : Nat} (hg : gs[i]? = some ⟨⟨⟨xn, xs, xo, xd, xx⟩, xp, xc, xr⟩, xb, xk⟩) (h6 : xr.length ≤ 6) (fn fs fr fe fp fq fo fd fa ft fh fc : Int) (fx : Nat) (hr0 : 0 ≤ fr) : Calls Tryz.prog 33 #[.pointer (some ⟨q, 0, none⟩), .int .i64 ii, .agg #[.int .i64 3, .int .i64 fn, .int .i64 fs, .int .i64 fr, .int .i64 fe, .int .i64 fp, .int .i64 fq, .int .i64 fo, .int .i64 fd, .int .i64 fa, .int .i64 ft, .int .i64 fh, .int .i64 fc, .float .f64 fx]] w fun r w' => r = .returned (.bool (actS m i ⟨⟨xn, xs, xo, xd, xx⟩, xp, xc, xr⟩ (⟨3, fn, fs, fr, fe, fp, fq, fo, fd, fa, ft, fh, fc, fx⟩ : FX)).isSome) ∧ ∃ gs' va', GS tyD B q ((actS m i ⟨⟨xn, xs, xo, xd, xx⟩, xp, xc, xr⟩ (⟨3, fn, fs, fr, fe, fp, fq, fo, fd, fa, ft, fh, fc, fx⟩ : FX)).getD m) gs' va' vp w' ∧ Asd (Ow q gs va vp) (Ow q gs' va' vp) w w' := by
  have _u := And.intro h8 h6
  clear _u
  obtain ⟨hi, hgi⟩ := List.getElem?_eq_some_iff.1 hg
  obtain ⟨ga, cpa, rfl, hcpa, hgB, hgl, hfz, hcell⟩ := own_cellQ (E := acE) Hs.oa rfl hi
  rw [hgi, show acE.k = 8 from rfl] at hcell
  have HR := Lib.hid (Hs.og _ (List.mem_of_getElem? hg))
  obtain ⟨len, hl⟩ : ∃ x, gs.length = x := ⟨_, rfl⟩
  obtain ⟨n, hn⟩ : ∃ x, xr.length = x := ⟨_, rfl⟩
  have htn : ii.toNat = i := by omega
  have hi0 : 0 ≤ ii := by omega
  have hiL : ii < (len : Int) := by omega
  have x2 : w.cell? ⟨ga, ii.toNat * 8 + 2, none⟩ = some (.int .i64 xo) := by rw [htn]; exact hcell 2 _ (by decide) rfl
  have x6 : w.cell? ⟨ga, ii.toNat * 8 + 6, none⟩ = some (.int .i64 xc) := by rw [htn]; exact hcell 6 _ (by decide) rfl
  have x7 : w.cell? ⟨ga, ii.toNat * 8 + 7, none⟩ = some (.slice xb n xk) := by rw [htn, ← hn]; exact hcell 7 _ (by decide) rfl
  have e0 : w.cell? ⟨q, 2, none⟩ = some (.slice (some ⟨ga, 0, none⟩) len cpa) := by rw [← hl]; exact cellU (i := 2) Hs.row rfl
  have hkW := kp_alloc w (.cells #[.int .i64 3, .int .i64 fn, .int .i64 fs, .int .i64 fr, .int .i64 fe, .int .i64 fp, .int .i64 fq, .int .i64 fo, .int .i64 fd, .int .i64 fa, .int .i64 ft, .int .i64 fh, .int .i64 fc, .float .f64 fx] 42)
  obtain ⟨f0, f1, f2, f3, f4, f5, f6, f7, f8, f9, f10, f11, f12, f13⟩ := cells14 (MapKept.heap_alloc w (.cells #[.int .i64 3, .int .i64 fn, .int .i64 fs, .int .i64 fr, .int .i64 fe, .int .i64 fp, .int .i64 fq, .int .i64 fo, .int .i64 fd, .int .i64 fa, .int .i64 ft, .int .i64 fh, .int .i64 fc, .float .f64 fx] 42)).1
  obtain ⟨W, hW⟩ : ∃ W, w.alloc (.cells #[.int .i64 3, .int .i64 fn, .int .i64 fs, .int .i64 fr, .int .i64 fe, .int .i64 fp, .int .i64 fq, .int .i64 fo, .int .i64 fd, .int .i64 fa, .int .i64 ft, .int .i64 fh, .int .i64 fc, .float .f64 fx] 42) = W := ⟨_, rfl⟩
  rw [hW] at hkW f0 f1 f2 f3 f4 f5 f6 f7 f8 f9 f10 f11 f12 f13
  have x2 := kp_cell hkW x2
  have x6 := kp_cell hkW x6
  have x7 := kp_cell hkW x7
  have e0 := kp_cell hkW e0
  have hL : ∃ L : Int, (len : Int) = L := ⟨_, rfl⟩
  obtain ⟨L, hL⟩ := hL
  rw [hL] at hiL
  obtain ⟨N, hN⟩ : ∃ N : Int, (n : Int) = N := ⟨_, rfl⟩
  have hN6 : N ≤ 6 := by omega
  have HS := Lib.hid Hs
  have HG := Lib.hid hg
  have HL := Lib.hid hl
  have HN := Lib.hid hn
  have HNN := Lib.hid hN
  have HI := Lib.hid hi
  have HII := Lib.hid hii
  have HTN := Lib.hid htn
  have KW := Lib.hid hkW
  have HZ := Lib.hid (show ∀ w', Kp w w' → ∀ j, w'.frozen? ⟨ga, j, none⟩ = false from fun w' h j => by rw [Below.frozen h hgl]; exact hfz j)
  have hsf := store_fl
  by_cases h1 : fr < N
  · have hfn : fr.toNat < xr.length := by have := HN.out; omega
    obtain ⟨⟨rn, rp, ⟨zp, ze, zt, zh⟩⟩, hr⟩ : ∃ r, xr[fr.toNat]? = some r := ⟨_, List.getElem?_eq_getElem hfn⟩
    obtain ⟨gr, ck, exb, hck, hgrB, hgrl, hfzr, hcr⟩ := own_cellQ (E := rgE) HR.out rfl hfn
    rw [(List.getElem?_eq_some_iff.1 hr).2, show rgE.k = 6 from rfl] at hcr
    unfold AcG.v at exb
    have exb := congrArg (fun v => match v with | Value.slice a _ _ => a | _ => none) exb
    dsimp only at exb
    subst exb
    have y2 := kp_cell hkW (hcr 2 _ (by decide) rfl)
    have y3 := kp_cell hkW (hcr 3 _ (by decide) rfl)
    have y4 := kp_cell hkW (hcr 4 _ (by decide) rfl)
    have y5 := kp_cell hkW (hcr 5 _ (by decide) rfl)
    have HRR := Lib.hid hr
    have HT := Lib.hid (fun w1 : World => refTurned15 ⟨zp, ze, zt, zh⟩ (⟨3, fn, fs, fr, fe, fp, fq, fo, fd, fa, ft, fh, fc, fx⟩ : FX) w1)
    dsimp only [seatV, FX.cells] at HT
    have hzr : ∀ w', Kp w w' → ∀ j, w'.frozen? ⟨gr, j, none⟩ = false := fun w' h j => by rw [Below.frozen h hgrl]; exact hfzr j
    have HZR := Lib.hid hzr
    have hact : actS m i ⟨⟨xn, xs, xo, xd, xx⟩, xp, xc, xr⟩ (⟨3, fn, fs, fr, fe, fp, fq, fo, fd, fa, ft, fh, fc, fx⟩ : FX) = if turnOk ⟨zp, ze, zt, zh⟩ ft fh = true then some { m with acts := m.acts.set i ⟨⟨xn, xs, xo, xd, xx⟩, xp, xc, xr.set fr.toNat ⟨rn, rp, ⟨zp, ze, ft, fh⟩⟩⟩ } else none := by
      unfold actS
      dsimp only
      rw [if_neg (show ¬ (3 : Int) = 2 by decide), if_pos rfl, hr]
      dsimp only
      rw [turnS_eq]
      by_cases ht : turnOk ⟨zp, ze, zt, zh⟩ ft fh = true
      · rw [if_pos ht, if_pos ht]
        rfl
      · rw [if_neg ht, if_neg ht]
        rfl
    obtain ⟨tk, htk⟩ : ∃ b, turnOk ⟨zp, ze, zt, zh⟩ ft fh = b := ⟨_, rfl⟩
    rw [htk] at HT hact
    rw [hact]
    have Y := Lib.hid (And.intro y2 (And.intro y3 (And.intro y4 y5)))
    have X := Lib.hid (And.intro x7 e0)
    have FF := Lib.hid (And.intro f2 (And.intro f10 f11))
    clear hr hcr hzr hact htk hck hgrB hgrl hfzr hfn Hs hg hl hn hi hgi hcell htn hgB hgl hfz hii hcpa hkW
    go_enter Tryz.func33, Tryz.ntmps33
    go_wp2_with fail
    go_region
    go_wp2_with fail
    obtain ⟨WD, hWD⟩ : ∃ x, W.drew.drew = x := ⟨_, rfl⟩
    have kD : Kp W WD := by rw [← hWD]; exact drewQ (drewQ (Kp.refl W))
    have HWD := Lib.hid hWD
    clear hWD
    refine wp_region_held_drew (S := fun w' => Kp W w') (by kernel_rfl) ?_ (fun hHeld => ?_)
    · exact by rw [HWD.out]; exact kD
    rw [HWD.out] at hHeld ⊢
    have hDD : Kp W WD := hHeld
    refine tkW ?_ 0 ?_ ?_; rotate_left
    · intro w hSw; go_simp; try rfl
    go_simp
    refine tkW ?_ 1 ?_ ?_; rotate_left
    · intro w hSw; go_simp; try rfl
    go_simp
    refine tkW ?_ 2 ?_ ?_; rotate_left
    · intro w hSw; go_simp; try rfl
    go_simp
    refine tkW ?_ 3 ?_ ?_; rotate_left
    · intro w hSw; have g7 := kp_cell hSw x7; go_simp; try rfl
    go_simp
    refine tkW ?_ 4 ?_ ?_; rotate_left
    · intro w hSw; go_simp; try rfl
    go_simp
    refine tkW ?_ 5 ?_ ?_; rotate_left
    · intro w hSw; have gf := kp_cell hSw f3; go_simp; try rfl
    go_simp
    refine tkW ?_ 6 ?_ ?_; rotate_left
    · intro w hSw; go_simp; try rfl
    go_simp
    refine tkW ?_ 7 ?_ ?_; rotate_left
    · intro w hSw; go_simp; try rfl
    go_simp
    refine tkW ?_ 8 ?_ ?_; rotate_left
    · intro w hSw; have a2 := kp_cell hSw y2; have a3 := kp_cell hSw y3; have a4 := kp_cell hSw y4; have a5 := kp_cell hSw y5; go_simp; try rfl
    go_simp
    refine tkW ?_ 9 ?_ ?_; rotate_left
    · intro w hSw; have a0 := kp_cell hSw f0; have a1 := kp_cell hSw f1; have a2 := kp_cell hSw f2; have a3 := kp_cell hSw f3; have a4 := kp_cell hSw f4; have a5 := kp_cell hSw f5; have a6 := kp_cell hSw f6; have a7 := kp_cell hSw f7; have a8 := kp_cell hSw f8; have a9 := kp_cell hSw f9; have a10 := kp_cell hSw f10; have a11 := kp_cell hSw f11; have a12 := kp_cell hSw f12; have a13 := kp_cell hSw f13; go_simp; try rfl
    go_simp
    refine wpAnyH_ready (rs := [10, 14]) (by kernel_rfl) (by simp) ?_
    refine AllReadyH.cons rfl (fun K hK => ?_) (AllReadyH.cons rfl (fun K hK => ?_) AllReadyH.nil)
    · go_simp
      go_wp2_with (go_at_call 31; (with_reducible refine (HT.out _).mono ?_); rintro e' w5 ⟨rfl, hk5⟩)
      refine hK.out _ _ ?_ (fun hHeld => ?_)
      · exact Kp.trans hHeld hk5
      clear hK K
      have h55 : Kp W w5 := hHeld
      refine tkW ?_ 11 ?_ ?_; rotate_left
      · intro w hSw; go_simp; try rfl
      go_simp
      refine tkW ?_ 12 ?_ ?_; rotate_left
      · intro w hSw; go_simp; try rfl
      go_simp
      refine tkW ?_ 13 ?_ ?_; rotate_left
      · intro w hSw; go_simp; try rfl
      go_simp
      refine wpAnyH_ready (rs := [14]) (by kernel_rfl) (by simp) ?_
      refine AllReadyH.cons rfl (fun K hK => ?_) AllReadyH.nil
      go_simp
      refine hK.out _ _ ?_ (fun hHeld => ?_)
      · exact Kp.trans hHeld (kp_alloc _ _)
      clear hK K
      obtain ⟨Y14, hY14⟩ : ∃ x, w5.alloc (.cells #[.int .i64 0, .int .i64 0, .int .i64 0, .int .i64 0] 90) = x := ⟨_, rfl⟩
      have r14 : Y14.heap[w5.heap.size]? = some (.cells #[.int .i64 0, .int .i64 0, .int .i64 0, .int .i64 0] 90) := by rw [← hY14]; exact (MapKept.heap_alloc w5 (.cells #[.int .i64 0, .int .i64 0, .int .i64 0, .int .i64 0] 90)).1
      have b14 : W.heap.size ≤ w5.heap.size := kp_size (show Kp W w5 from by assumption)
      obtain ⟨p14, hp14⟩ : ∃ x, w5.heap.size = x := ⟨_, rfl⟩
      rw [hp14] at r14 b14
      rw [hY14] at hHeld ⊢
      try rw [hp14]
      clear hY14 hp14
      have hYY : Kp W Y14 := hHeld
      refine wpAnyH_ready (rs := [15]) (by kernel_rfl) (by simp) ?_
      refine AllReadyH.cons rfl (fun K hK => ?_) AllReadyH.nil
      obtain ⟨v0, v1, v2, v3⟩ := cells_4 r14
      have fz5 := frozQ r14
      go_simp
      refine hK.out _ _ ?_ (fun hHeld => ?_)
      · exact set_4_kp hHeld b14 _ _ _ _
      clear hK K
      obtain ⟨w6, hw6⟩ : ∃ x, (((Y14.setCell ⟨p14, 0, none⟩ (.int .i64 zp)).setCell ⟨p14, 1, none⟩ (.int .i64 ze)).setCell ⟨p14, 2, none⟩ (.int .i64 ft)).setCell ⟨p14, 3, none⟩ (.int .i64 fh) = x := ⟨_, rfl⟩
      have r10 : w6.heap[p14]? = some (.cells #[.int .i64 zp, .int .i64 ze, .int .i64 ft, .int .i64 fh] 90) := by rw [← hw6]; exact set_4 _ _ _ _ r14
      rw [hw6] at hHeld ⊢
      have kw6 : Kp W w6 := hHeld
      clear hw6 v0 v1 v2 v3 fz5
      refine tkW ?_ 16 ?_ ?_; rotate_left
      · intro w hSw; go_simp; try rfl
      go_simp
      refine wpAnyH_done (by kernel_rfl) ?_ _
      have g0 := kp_cell kw6 e0
      have g7 := kp_cell kw6 x7
      have gf := kp_cell kw6 f3
      have h2 := kp_cell kw6 y2
      have h3 := kp_cell kw6 y3
      have h4 := kp_cell kw6 y4
      have h5 := kp_cell kw6 y5
      obtain ⟨s0, s1, s2, s3⟩ := cells_4 r10
      have zz := HZR.out w6 (Kp.trans KW.out kw6)
      have KW6 := Lib.hid kw6
      cases tk with
      | false =>
        clear kw6 hHeld
        go_wp2
        go_ret
        exact ⟨rfl, gs, _, HS.out.kp (Kp.trans KW.out KW6.out), Asd.of_kp _ (Kp.trans KW.out KW6.out)⟩
      | true =>
        clear kw6 hHeld
        go_wp2_with fail
        go_still_tail 9, (by kernel_rfl)
        change wpList _ _ _ _ _ w6.drew
        go_wp2
        have FIN := (HS.out.kp (Kp.trans KW.out KW6.out).drew).seatR tyD_ok HG.out HRR.out ⟨zp, ze, ft, fh⟩
        go_ret
        exact ⟨rfl, _, _, FIN.1, (Asd.of_kp _ (Kp.trans KW.out KW6.out).drew).trans FIN.2⟩
    · go_simp
      refine hK.out _ _ ?_ (fun hHeld => ?_)
      · exact Kp.trans hHeld (kp_alloc _ _)
      clear hK K
      obtain ⟨Y14, hY14⟩ : ∃ x, WD.alloc (.cells #[.int .i64 0, .int .i64 0, .int .i64 0, .int .i64 0] 90) = x := ⟨_, rfl⟩
      have r14 : Y14.heap[WD.heap.size]? = some (.cells #[.int .i64 0, .int .i64 0, .int .i64 0, .int .i64 0] 90) := by rw [← hY14]; exact (MapKept.heap_alloc WD (.cells #[.int .i64 0, .int .i64 0, .int .i64 0, .int .i64 0] 90)).1
      have b14 : W.heap.size ≤ WD.heap.size := kp_size (show Kp W WD from by assumption)
      obtain ⟨p14, hp14⟩ : ∃ x, WD.heap.size = x := ⟨_, rfl⟩
      rw [hp14] at r14 b14
      rw [hY14] at hHeld ⊢
      try rw [hp14]
      clear hY14 hp14
      have hYY : Kp W Y14 := hHeld
      refine wpAnyH_ready (rs := [10]) (by kernel_rfl) (by simp) ?_
      refine AllReadyH.cons rfl (fun K hK => ?_) AllReadyH.nil
      go_simp
      go_wp2_with (go_at_call 31; (with_reducible refine (HT.out _).mono ?_); rintro e' w5 ⟨rfl, hk5⟩)
      refine hK.out _ _ ?_ (fun hHeld => ?_)
      · exact Kp.trans hHeld hk5
      clear hK K
      have h55 : Kp W w5 := hHeld
      have r14 := kp_row hk5 r14
      refine tkW ?_ 11 ?_ ?_; rotate_left
      · intro w hSw; go_simp; try rfl
      go_simp
      refine tkW ?_ 12 ?_ ?_; rotate_left
      · intro w hSw; go_simp; try rfl
      go_simp
      refine tkW ?_ 13 ?_ ?_; rotate_left
      · intro w hSw; go_simp; try rfl
      go_simp
      refine wpAnyH_ready (rs := [15]) (by kernel_rfl) (by simp) ?_
      refine AllReadyH.cons rfl (fun K hK => ?_) AllReadyH.nil
      obtain ⟨v0, v1, v2, v3⟩ := cells_4 r14
      have fz5 := frozQ r14
      go_simp
      refine hK.out _ _ ?_ (fun hHeld => ?_)
      · exact set_4_kp hHeld b14 _ _ _ _
      clear hK K
      obtain ⟨w6, hw6⟩ : ∃ x, (((w5.setCell ⟨p14, 0, none⟩ (.int .i64 zp)).setCell ⟨p14, 1, none⟩ (.int .i64 ze)).setCell ⟨p14, 2, none⟩ (.int .i64 ft)).setCell ⟨p14, 3, none⟩ (.int .i64 fh) = x := ⟨_, rfl⟩
      have r10 : w6.heap[p14]? = some (.cells #[.int .i64 zp, .int .i64 ze, .int .i64 ft, .int .i64 fh] 90) := by rw [← hw6]; exact set_4 _ _ _ _ r14
      rw [hw6] at hHeld ⊢
      have kw6 : Kp W w6 := hHeld
      clear hw6 v0 v1 v2 v3 fz5
      refine tkW ?_ 16 ?_ ?_; rotate_left
      · intro w hSw; go_simp; try rfl
      go_simp
      refine wpAnyH_done (by kernel_rfl) ?_ _
      have g0 := kp_cell kw6 e0
      have g7 := kp_cell kw6 x7
      have gf := kp_cell kw6 f3
      have h2 := kp_cell kw6 y2
      have h3 := kp_cell kw6 y3
      have h4 := kp_cell kw6 y4
      have h5 := kp_cell kw6 y5
      obtain ⟨s0, s1, s2, s3⟩ := cells_4 r10
      have zz := HZR.out w6 (Kp.trans KW.out kw6)
      have KW6 := Lib.hid kw6
      cases tk with
      | false =>
        clear kw6 hHeld
        go_wp2
        go_ret
        exact ⟨rfl, gs, _, HS.out.kp (Kp.trans KW.out KW6.out), Asd.of_kp _ (Kp.trans KW.out KW6.out)⟩
      | true =>
        clear kw6 hHeld
        go_wp2_with fail
        go_still_tail 9, (by kernel_rfl)
        change wpList _ _ _ _ _ w6.drew
        go_wp2
        have FIN := (HS.out.kp (Kp.trans KW.out KW6.out).drew).seatR tyD_ok HG.out HRR.out ⟨zp, ze, ft, fh⟩
        go_ret
        exact ⟨rfl, _, _, FIN.1, (Asd.of_kp _ (Kp.trans KW.out KW6.out).drew).trans FIN.2⟩
  · have g1 : ¬ fr < N := h1
    have hno : xr[fr.toNat]? = none := List.getElem?_eq_none (by have := HN.out; omega)
    have HM := Lib.hid (show actS m i ⟨⟨xn, xs, xo, xd, xx⟩, xp, xc, xr⟩ (⟨3, fn, fs, fr, fe, fp, fq, fo, fd, fa, ft, fh, fc, fx⟩ : FX) = none by unfold actS; dsimp only; rw [if_neg (show ¬ (3 : Int) = 2 by decide), if_pos rfl, hno])
    rw [HM.out]
    clear hno h1 Hs hg hl hn hi hgi hcell htn hgB hgl hfz hii hcpa hkW
    go_enter Tryz.func33, Tryz.ntmps33
    go_wp2_with fail
    go_region
    go_wp2
    go_ret
    exact ⟨rfl, gs, _, HS.out.kp (drewQ KW.out), Asd.of_kp _ (drewQ KW.out)⟩
end Go.Proofs.YtpemeenfhkgmpaaGreatDoor
