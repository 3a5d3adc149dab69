/- Parts of this proof (own work). -/
import Derived.Test.YtlmlmhmhgdjhnaaGreatDoorZa09
import Derived.Test.YtlmlmhmhgdjhnaaGreatDoorZa10
set_option maxRecDepth 100000
set_option maxHeartbeats 40000000
namespace Go.Proofs.YtlmlmhmhgdjhnaaGreatDoor
open Go.RowKit Go.ChangeShapes Go.WideShapes
theorem info_rgD0 : (Tryz.prog.info? 152).map (fun i => (i.zero, i.size, i.bytes)) = some (some (.agg #[(0:Int), (0:Int), (0:Int), (0:Int), (0:Int), (0:Int)]), 6, 48) := by kernel_rfl
theorem info_rgD : ∃ i0, Tryz.prog.info? 152 = some i0 ∧ i0.zero = some (.agg #[(0:Int), (0:Int), (0:Int), (0:Int), (0:Int), (0:Int)]) ∧ i0.size = 6 ∧ i0.bytes = 48 := by
 have h := info_rgD0
 cases g : Tryz.prog.info? 152 with
 | none => rw [g] at h; cases h
 | some i0 =>
  rw [g] at h; simp only [Option.map_some, Option.some.injEq, Prod.mk.injEq] at h
  exact ⟨i0, rfl, h.1, h.2.1, h.2.2⟩
theorem ty_rgD : TyG Tryz.prog 70 152 6 (.agg #[(0:Int), (0:Int), (0:Int), (0:Int), (0:Int), (0:Int)]) 48 := ⟨Tryz.underlying70, info_rgD, rfl, by decide⟩
theorem pG {α : Type} {E : EncG α} {W : World} {bx : Nat} {t : TypeId} {x : α} {cs : Array Value} (h : W.heap[bx]? = some (.cells cs t (0, 0))) (he : E.enc x = cs.toList) : PartG E (.slice (some ⟨bx, 0, none⟩) 1 1) [x] W := by
 refine ⟨_, _, rfl, fun e => (by cases e), fun ad e j u hj => ?_⟩
 injection e with e
 subst e; rw [Addr.add_lit, Nat.zero_add]; refine cU h ?_
 have : E.row [x] = E.enc x := by unfold EncG.row; simp
 rw [this, he] at hj
 simpa using hj
theorem no_dup {xr : List RgM} {e p : Int} (h : ∀ i (hi : i < xr.length), ¬ (xr[i].node = e ∧ xr[i].part = p)) : xr.any (fun g => decide (g.node = e ∧ g.part = p)) = false := by
 rw [List.any_eq_false]; intro x hx; obtain ⟨i, hi, rfl⟩ := List.getElem_of_mem hx; exact fun q => h i hi (of_decide_eq_true q)
theorem has_dup {xr : List RgM} {e p : Int} {j : Nat} (hj : j < xr.length) (h : xr[j].node = e ∧ xr[j].part = p) : xr.any (fun g => decide (g.node = e ∧ g.part = p)) = true := by
 rw [List.any_eq_true]; exact ⟨xr[j], List.getElem_mem hj, dT h⟩
variable {w0 w w' W w3 : World} {B q : Nat} {m : StM} {gs : List AcG} {va vp : Value}
theorem refAct2 (Hs : GS tyD B q m gs va vp w) (h8 : gs.length ≤ 8) {i : Nat} {ii : Int} (hii : (i : Int) = ii) {xn xs xo xd xp xc : Int} {xx : Nat} {xr : List RgM} {xb : Option Addr} {xk : Nat} (hg : gs[i]? = some ⟨⟨⟨xn, xs, xo, xd, xx⟩, xp, xc, xr⟩, xb, xk⟩) (h6 : xr.length ≤ 6) (fn fs fr fe fp fq fo fd fa ft fh fc : Int) (fx : Nat) : Calls Tryz.prog 89 #[.pointer (some ⟨q, 0, none⟩), .int .i64 ii, .agg #[(2:Int), fn, fs, fr, fe, fp, fq, fo, fd, fa, ft, fh, fc, fx]] w fun r w' => r = .returned (.bool (actS m i ⟨⟨xn, xs, xo, xd, xx⟩, xp, xc, xr⟩ (⟨2, fn, fs, fr, fe, fp, fq, fo, fd, fa, ft, fh, fc, fx⟩ : FX)).isSome) ∧ ∃ gs' va', GS tyD B q ((actS m i ⟨⟨xn, xs, xo, xd, xx⟩, xp, xc, xr⟩ (⟨2, fn, fs, fr, fe, fp, fq, fo, fd, fa, ft, fh, fc, fx⟩ : FX)).getD m) gs' va' vp w' ∧ Asd (Ow q gs va vp) (Ow q gs' va' vp) w w' := by
 have _u := And.intro h8 h6; clear _u; obtain ⟨hi, hgi⟩ := List.getElem?_eq_some_iff.1 hg; obtain ⟨ga, cpa, rfl, hcpa, hgB, hgl, hfz, hcell⟩ := cQ (E := acE) Hs.oa rfl hi; rw [hgi, show acE.k = 8 from rfl] at hcell; have HR := hD (Hs.og _ (List.mem_of_getElem? hg)); obtain ⟨len, hl⟩ : ∃ x, gs.length = x := ⟨_, rfl⟩
 obtain ⟨n, hn⟩ : ∃ x, xr.length = x := ⟨_, rfl⟩
 have htn : ii.toNat = i := by omega
 have hi0 : 0 ≤ ii := by omega
 have hiL : ii < (len : Int) := by omega
 have x2 : w.cell? ⟨ga, ii.toNat * 8 + 2, none⟩ = some (.int .i64 xo) := by rw [htn]; exact hcell 2 _ (by decide) rfl
 have x6 : w.cell? ⟨ga, ii.toNat * 8 + 6, none⟩ = some (.int .i64 xc) := by rw [htn]; exact hcell 6 _ (by decide) rfl
 have x7 : w.cell? ⟨ga, ii.toNat * 8 + 7, none⟩ = some (.slice xb n xk) := by rw [htn, ← hn]; exact hcell 7 _ (by decide) rfl
 have e0 : w.cell? ⟨q, 2, none⟩ = some (.slice (some ⟨ga, 0, none⟩) len cpa) := by rw [← hl]; exact cU (i := 2) Hs.row rfl
 have hkW := kA w (.cells #[(2:Int), fn, fs, fr, fe, fp, fq, fo, fd, fa, ft, fh, fc, fx] 102); obtain ⟨f0, f1, f2, f3, f4, f5, f6, f7, f8, f9, f10, f11, f12, f13⟩ := cZ (mH w (.cells #[(2:Int), fn, fs, fr, fe, fp, fq, fo, fd, fa, ft, fh, fc, fx] 102)); obtain ⟨W, hW⟩ : ∃ W, w.alloc (.cells #[(2:Int), fn, fs, fr, fe, fp, fq, fo, fd, fa, ft, fh, fc, fx] 102) = W := ⟨_, rfl⟩
 rw [hW] at hkW f0 f1 f2 f3 f4 f5 f6 f7 f8 f9 f10 f11 f12 f13; obtain ⟨x2, x6, x7, e0⟩ := kZ4 hkW x2 x6 x7 e0; have hL : ∃ L : Int, (len : Int) = L := ⟨_, rfl⟩
 obtain ⟨L, hL⟩ := hL; rw [hL] at hiL; obtain ⟨N, hN⟩ : ∃ N : Int, (n : Int) = N := ⟨_, rfl⟩
 have hN6 : N ≤ 6 := by omega
 obtain ⟨HS, HG, HL, HN, HNN, HI, HII, HTN⟩ := hD8 Hs hg hl hn hN hi hii htn; have KW := hD hkW; have HZ := hD (show ∀ w', Kp w w' → ∀ j, w'.frozen? ⟨ga, j, none⟩ = false from fun w' h j => by rw [Below.frozen h hgl]; exact hfz j); have hsf := sF; have hgw : ga ≠ w.heap.size := by omega
 have HP := hD (show PartG rgE (.slice xb n xk) xr W from by have := (qG (by decide) HR.out).kp hkW; unfold AcG.v at this; dsimp only at this; rw [hn] at this; exact this)
 by_cases h1 : fr = N
 rotate_left
 ·have g1 : (fr == N) = false := by simpa using h1
  have g2 : (fr != N) = true := by simp [h1]
  have HM := hD (show actS m i ⟨⟨xn, xs, xo, xd, xx⟩, xp, xc, xr⟩ (⟨2, fn, fs, fr, fe, fp, fq, fo, fd, fa, ft, fh, fc, fx⟩ : FX) = none by unfold actS; dsimp only; rw [if_pos rfl, if_pos (.inl (by have := HN.out; have := HNN.out; omega))]); rw [HM.out]; clear h1 Hs hg hl hn hi hgi hcell htn hgB hgl hfz hii hcpa hkW; go_enter Tryz.func89, Tryz.ntmps89; go_wp2_with fail
  go_region
  go_wp2; go_ret; exact ⟨rfl, gs, _, HS.out.kp (dQ KW.out), Asd.of_kp _ (dQ KW.out)⟩
 subst h1
 by_cases h2 : xc = 0
 rotate_left
 ·have g1 : (xc == 0) = false := by simpa using h2
  have g2 : (xc != 0) = true := by simp [h2]
  have HM := hD (show actS m i ⟨⟨xn, xs, xo, xd, xx⟩, xp, xc, xr⟩ (⟨2, fn, fs, fr, fe, fp, fq, fo, fd, fa, ft, fh, fc, fx⟩ : FX) = none by unfold actS; dsimp only; rw [if_pos rfl, if_pos (.inr (.inl h2))]); rw [HM.out]; clear h2 Hs hg hl hn hi hgi hcell htn hgB hgl hfz hii hcpa hkW; go_enter Tryz.func89, Tryz.ntmps89; go_wp2_with fail
  go_region
  go_wp2; go_ret; exact ⟨rfl, gs, _, HS.out.kp (dQ KW.out), Asd.of_kp _ (dQ KW.out)⟩
 subst h2; obtain ⟨RES, hRES⟩ : ∃ R, actS m i ⟨⟨xn, xs, xo, xd, xx⟩, xp, 0, xr⟩ (⟨2, fn, fs, fr, fe, fp, fq, fo, fd, fa, ft, fh, fc, fx⟩ : FX) = R := ⟨_, rfl⟩
 have hres : RES = if xr.any (fun g => decide (g.node = fe ∧ g.part = fp)) = true then none else some { m with acts := m.acts.set i ⟨⟨xn, xs, xo, xd, xx⟩, xp, 0, xr ++ [(⟨fe, fp, ⟨fq, 1, 1, 0⟩⟩ : RgM)]⟩ } := by
  rw [← hRES]; unfold actS; dsimp only; rw [if_pos rfl]
  by_cases q : xr.any (fun g => decide (g.node = fe ∧ g.part = fp)) = true
  ·rw [if_pos (.inr (.inr q)), if_pos q]
  ·rw [if_neg (by rintro (e | e | e); exact e (by have := HN.out; have := HNN.out; omega); exact e rfl; exact q e), if_neg q]
 rw [hRES]; have HRES := hD hres; obtain ⟨WD, hWD⟩ : ∃ x, W.drew = x := ⟨_, rfl⟩
 have kD : Kp W WD := by rw [← hWD]; exact dQ (Kp.refl W)
 have HGW := hD hgw; have FF := hD (And.intro f4 (And.intro f5 f6)); obtain ⟨X7, KD, HWD⟩ := hD3 x7 kD hWD; obtain ⟨e7, l4, l5⟩ := kZ3 kD x7 f4 f5; clear hRES hres hgw kD hWD Hs hg hl hn hi hgi hcell htn hgB hgl hfz hii hcpa hkW; go_enter Tryz.func89, Tryz.ntmps89; go_wp2_with fail
 go_region
 rw [HWD.out]; go_wp2_with fail
 go_loopw [44] (fun v wr => ∃ k : Nat, k ≤ n ∧ v = .int .i64 k ∧ (∀ p (hp : p < xr.length), p < k → ¬ (xr[p].node = fe ∧ xr[p].part = fp)) ∧ Kp WD wr) (fun v _ => n - (intOf v).toNat)
 case atStart => exact ⟨0, Nat.zero_le _, rfl, fun k _ h => by omega, Kp.refl _⟩
 case round =>
  obtain ⟨k, hk, rfl, hq, hkr⟩ := hrel; obtain ⟨KR, HQ⟩ := hD2 hkr hq; obtain ⟨kk, hkk⟩ : ∃ kk : Int, (k : Int) = kk := ⟨_, rfl⟩
  rw [hkk]; have HKK := hD hkk
  by_cases hlt : k < n
  ·have hjl : kk < fr := by have := HNN.out; omega
   have hk0 : 0 ≤ kk := by omega
   have htk : kk.toNat = k := by omega
   have hko : k < xr.length := by have := HN.out; omega
   have kx := kT KW.out (kT KD.out hkr); obtain ⟨gr, ck, exb, hck, hgrB, hgrl, hfzr, hcr⟩ := cQ (E := rgE) (oK HR.out kx) rfl hko; obtain ⟨⟨yn, yp, ⟨y1, y2, y3, y4⟩⟩, hy⟩ : ∃ r, xr[k]'hko = r := ⟨_, rfl⟩
   have hcr2 : ∀ (i : Nat) (u : Value), i < rgE.k → (rgE.enc (xr[k]'hko))[i]? = some u → wr.cell? ⟨gr, k * rgE.k + i, none⟩ = some u := hcr; rw [hy, show rgE.k = 6 from rfl, ← htk] at hcr2; have exb := congrArg (fun v => match v with | Value.slice a _ _ => a | _ => none) exb; unfold AcG.v at exb; dsimp only at exb; subst exb; obtain ⟨c0, c1, c2, c3, c4, c5⟩ := cW6 hcr2; have hbox := (mH wr (.cells #[yn, yp, y1, y2, y3, y4] 152))
   have d0 : (wr.alloc (.cells #[yn, yp, y1, y2, y3, y4] 152)).cell? ⟨wr.heap.size, 0, none⟩ = some (.int .i64 yn) := cU (i := 0) hbox rfl; have d1 : (wr.alloc (.cells #[yn, yp, y1, y2, y3, y4] 152)).cell? ⟨wr.heap.size, 1, none⟩ = some (.int .i64 yp) := cU (i := 1) hbox rfl; have m4 := kZ (kT hkr (kA wr (.cells #[yn, yp, y1, y2, y3, y4] 152))) l4; have m5 := kZ (kT hkr (kA wr (.cells #[yn, yp, y1, y2, y3, y4] 152))) l5; have KN := hD (kT hkr (kA wr (.cells #[yn, yp, y1, y2, y3, y4] 152))); obtain ⟨HLT, HY, HKO⟩ := hD3 hlt hy hko
   by_cases he : yn = fe ∧ yp = fp
   ·obtain ⟨rfl, rfl⟩ := he; have HD := hD (has_dup hko (by rw [hy]; exact ⟨rfl, rfl⟩)); clear hcr hcr2 hkr hq hkk hk hlt htk hbox kx hck hgrB hgrl hfzr hy; go_wp2; go_ret; rw [HRES.out, if_pos HD.out]; exact ⟨rfl, gs, _, HS.out.kp (kT KW.out (kT KD.out KN.out)), Asd.of_kp _ (kT KW.out (kT KD.out KN.out))⟩
   ·have HE := hD he; have hw1 : wrap64 (kk + 1) = kk + 1 := IntWalk.wrap64_in _ (by omega)
    by_cases hn1 : yn = fe
    ·subst hn1; have p1 : (yp == fp) = false := by simpa using he
     clear he hcr hcr2 hkr hq hkk hk hlt htk hbox kx hck hgrB hgrl hfzr hy; go_wp2; go_roundw
     case rel => exact ⟨k + 1, by have := HLT.out; omega, by have := HKK.out; rw [show ((k + 1 : Nat) : Int) = kk + 1 by omega], fun p hp hp2 => by
      rcases Nat.lt_or_eq_of_le (Nat.le_of_lt_succ hp2) with g | rfl
      ·exact HQ.out p hp g
      ·rw [HY.out]; exact HE.out, KN.out⟩
     case measure => have := HKK.out; have := HLT.out; simp [intOf]; omega
    ·have p1 : (yn == fe) = false := by simpa using hn1
     clear hn1 he hcr hcr2 hkr hq hkk hk hlt htk hbox kx hck hgrB hgrl hfzr hy; go_wp2; go_roundw
     case rel => exact ⟨k + 1, by have := HLT.out; omega, by have := HKK.out; rw [show ((k + 1 : Nat) : Int) = kk + 1 by omega], fun p hp hp2 => by
      rcases Nat.lt_or_eq_of_le (Nat.le_of_lt_succ hp2) with g | rfl
      ·exact HQ.out p hp g
      ·rw [HY.out]; exact HE.out, KN.out⟩
     case measure => have := HKK.out; have := HLT.out; simp [intOf]; omega
  ·have hje : ¬ kk < fr := by have := HNN.out; omega
   have HD := no_dup (fun p hp => hq p hp (by have := HN.out; omega)); have HDN := hD HD; obtain ⟨WR, hWR⟩ : ∃ x, wr.drew = x := ⟨_, rfl⟩
   have kR : Kp W WR := by rw [← hWR]; exact dQ (kT KD.out hkr)
   have HWR := hD hWR; have hgw : ga ≠ w.heap.size := HGW.out; have hgw2 : w.heap.size ≠ ga := fun e => hgw e.symm
   clear hkr hq hkk hk hlt hWR HD; go_wp2_with fail
   refine rgW (fun w' => Xb ga W w') ?_ fun hH => ?_
   ·exact by rw [HWR.out]; exact Xb.of_kp kR
   rw [HWR.out] at hH ⊢; refine tkP 0 ?_
   go_simp; refine tkP 2 ?_
   go_simp; refine tkP 3 ?_
   go_simp; refine tkP 4 ?_
   go_simp; refine tkP 7 ?_
   go_simp; refine tkP 8 ?_ (y := by intro w hZ; have c := hZ.cell (by dsimp only; omega) f4; go_simp; try rfl)
   go_simp; refine tkP 9 ?_
   go_simp; refine tkP 10 ?_ (y := by intro w hZ; have c := hZ.cell (by dsimp only; omega) f5; go_simp; try rfl)
   go_simp; refine tkP 11 ?_
   go_simp; refine tkP 12 ?_ (y := by intro w hZ; have c := hZ.cell (by dsimp only; omega) f6; go_simp; try rfl)
   go_simp; refine tkP 13 ?_
   go_simp; refine tkP 14 ?_
   go_simp; refine wpAnyH_ready (rs := [1, 5, 15]) (by kernel_rfl) (by simp) ?_
   refine aC (fun K hK => ?_) (aC (fun K hK => ?_) (aC (fun K hK => ?_) aN0))
   ·go_simp; refine hK.out _ _ (Xb.kp hH (kA _ _)) fun hH => ?_
    clear hK K; obtain ⟨Y1, hY1⟩ : ∃ x, WR.alloc (.cells #[] 152) = x := ⟨_, rfl⟩
    have c1 : Kp WR Y1 := by rw [← hY1]; exact kA _ _
    have o1 : Y1.ownsRow WR.heap.size 152 6 (.slice (some ⟨WR.heap.size, 0, none⟩) 0 0) 0 (rgE.row []) := by rw [← hY1]; exact ⟨by simp [EncG.row], Or.inr ⟨WR.heap.size, 0, #[], rfl, Nat.le_refl _, (mH WR _), Nat.le_refl _, by omega, by simp, by simp [EncG.row]⟩⟩
    obtain ⟨p1, hp1⟩ : ∃ x, WR.heap.size = x := ⟨_, rfl⟩
    have b1 : W.heap.size ≤ p1 := by rw [← hp1]; exact kS kR
    have k1 := kT kR c1; have z1 : p1 ≤ Y1.heap.size := by rw [← hp1]; exact kS c1
    rw [hp1] at o1; rw [hY1] at hH ⊢
    try rw [hp1]
    clear hY1 hp1 c1; refine wpAnyH_ready (rs := [5, 15]) (by kernel_rfl) (by simp) ?_
    refine aC (fun K hK => ?_) (aC (fun K hK => ?_) aN0)
    ·have g7 := kZ k1 x7; go_simp; refine hK.out _ _ (hH) fun hH => ?_
     clear hK K; refine wpAnyH_ready (rs := [6, 15]) (by kernel_rfl) (by simp) ?_
     refine AllReadyH.consLG rfl (fun K hK => ?_) (aC (fun K hK => ?_) aN0)
     ·have P1 := (HP.out).kp k1; go_simp; refine aG (E := rgE) ty_rgD (by decide) _ rfl _ _ rfl p1 _ _ [] rfl o1 _ xr rfl P1 ?f1 ?f2 ?_
      case f1 => have := HN.out; omega
      case f2 => exact z1
      rintro v6 Y6 o6 hg hb6; rw [Nat.zero_add, HN.out, List.nil_append] at o6; obtain ⟨a6, c6, rfl⟩ := fG o6; have k6 : Kp W Y6 := Below.grown k1 hg (Below.size k1) (fun k hk => by have := (o1.lt k hk).1; omega); have z1 := Nat.le_trans z1 hg.size; refine hK.out _ _ (Xb.of_kp k6) fun hH => ?_
      clear hK K; clear hg hb6 P1; refine rdW 15 fun K hK => ?_
      go_simp; refine hK.out _ _ (Xb.kp hH (kA _ _)) fun hH => ?_
      clear hK K; obtain ⟨Y15, hY15⟩ : ∃ x, Y6.alloc (.cells #[fe, fp, fq, (1:Int), (1:Int), (0:Int)] 152) = x := ⟨_, rfl⟩
      have c15 : Kp Y6 Y15 := by rw [← hY15]; exact kA _ _
      have r15 : Y15.heap[Y6.heap.size]? = some (.cells #[fe, fp, fq, (1:Int), (1:Int), (0:Int)] 152) := by rw [← hY15]; exact (mH Y6 _)
      obtain ⟨p15, hp15⟩ : ∃ x, Y6.heap.size = x := ⟨_, rfl⟩
      have k15 := kT k6 c15; have z1 := Nat.le_trans z1 (kS c15); have o6 := oK o6 c15; rw [hp15] at r15; rw [hY15] at hH ⊢
      try rw [hp15]
      clear hY15 hp15 c15; refine wpAnyH_ready (rs := [16]) (by kernel_rfl) (by simp) ?_
      refine AllReadyH.consLG rfl (fun K hK => ?_) aN0
      have P2 : PartG rgE (.slice (some ⟨p15, 0, none⟩) 1 1) [(⟨fe, fp, ⟨fq, 1, 1, 0⟩⟩ : RgM)] Y15 := pG r15 rfl; go_simp; refine aG (E := rgE) ty_rgD (by decide) _ rfl _ _ rfl p1 _ _ xr rfl o6 _ _ rfl P2 ?f3 ?f4 ?_
      case f3 => simp; have := HN.out; omega
      case f4 => exact z1
      rintro v16 Y16 o16 hg hb16; obtain ⟨a16, c16, rfl⟩ := fG o16; have k16 : Kp W Y16 := Below.grown k15 hg (Below.size k15) (fun k hk => by have := (o6.lt k hk).1; omega); refine hK.out _ _ (Xb.of_kp k16) fun hH => ?_
      clear hK K; clear hg hb16 P2; refine tkP 17 ?_
      go_simp; refine tkP 18 ?_
      go_simp; refine rdW 19 fun K hK => ?_
      have g7 := kZ k16 x7; have z7 := HZ.out Y16 (kT KW.out k16) (ii.toNat * 8 + 7); go_simp; refine hK.out _ _ ((Xb.of_kp k16).set _ _) fun hH => ?_
      clear hK K; have RF := HS.out.repR tyD_ok HG.out (kT KW.out k16) (w3 := Y16) ⟨rfl, rfl, rfl, Nat.le_refl _, fun _ _ _ => rfl⟩ (L := n + 1) (c' := c16) (o' := a16) (rs := xr ++ [(⟨fe, fp, ⟨fq, 1, 1, 0⟩⟩ : RgM)]) (by rw [List.length_append, HN.out]; rfl) (bG o16 (by have := HS.out.bq; have := oZ HS.out.row; have := kS KW.out; omega)) (fun b e => .inr (by have := (o16.lt b e).1; have := kS KW.out; omega)); rw [show i * 8 + 7 = ii.toNat * 8 + 7 by have := HTN.out; omega] at RF; refine dnW ?_ _
      go_wp2; go_ret; rw [HRES.out, if_neg (by rw [HDN.out]; decide)]; exact ⟨rfl, _, _, RF.1, RF.2⟩
     ·go_simp; refine hK.out _ _ (Xb.kp hH (kA _ _)) fun hH => ?_
      clear hK K; obtain ⟨Y15, hY15⟩ : ∃ x, Y1.alloc (.cells #[fe, fp, fq, (1:Int), (1:Int), (0:Int)] 152) = x := ⟨_, rfl⟩
      have c15 : Kp Y1 Y15 := by rw [← hY15]; exact kA _ _
      have r15 : Y15.heap[Y1.heap.size]? = some (.cells #[fe, fp, fq, (1:Int), (1:Int), (0:Int)] 152) := by rw [← hY15]; exact (mH Y1 _)
      obtain ⟨p15, hp15⟩ : ∃ x, Y1.heap.size = x := ⟨_, rfl⟩
      have k15 := kT k1 c15; have z1 := Nat.le_trans z1 (kS c15); have n15 : p15 ≠ p1 := by have := o1.lt p1 rfl; omega
      have o1 := oK o1 c15; rw [hp15] at r15; rw [hY15] at hH ⊢
      try rw [hp15]
      clear hY15 hp15 c15; refine wpAnyH_ready (rs := [6]) (by kernel_rfl) (by simp) ?_
      refine AllReadyH.consLG rfl (fun K hK => ?_) aN0
      have P1 := (HP.out).kp k15; go_simp; refine aG (E := rgE) ty_rgD (by decide) _ rfl _ _ rfl p1 _ _ [] rfl o1 _ xr rfl P1 ?f1 ?f2 ?_
      case f1 => have := HN.out; omega
      case f2 => exact z1
      rintro v6 Y6 o6 hg hb6; rw [Nat.zero_add, HN.out, List.nil_append] at o6; obtain ⟨a6, c6, rfl⟩ := fG o6; have k6 : Kp W Y6 := Below.grown k15 hg (Below.size k15) (fun k hk => by have := (o1.lt k hk).1; omega); have z1 := Nat.le_trans z1 hg.size; have r15 := (hg.block p15 (oZ r15) (fun e => n15 (by injection e))).trans r15; refine hK.out _ _ (Xb.of_kp k6) fun hH => ?_
      clear hK K; clear hg hb6 P1; refine wpAnyH_ready (rs := [16]) (by kernel_rfl) (by simp) ?_
      refine AllReadyH.consLG rfl (fun K hK => ?_) aN0
      have P2 : PartG rgE (.slice (some ⟨p15, 0, none⟩) 1 1) [(⟨fe, fp, ⟨fq, 1, 1, 0⟩⟩ : RgM)] Y6 := pG r15 rfl; go_simp; refine aG (E := rgE) ty_rgD (by decide) _ rfl _ _ rfl p1 _ _ xr rfl o6 _ _ rfl P2 ?f3 ?f4 ?_
      case f3 => simp; have := HN.out; omega
      case f4 => exact z1
      rintro v16 Y16 o16 hg hb16; obtain ⟨a16, c16, rfl⟩ := fG o16; have k16 : Kp W Y16 := Below.grown k6 hg (Below.size k6) (fun k hk => by have := (o6.lt k hk).1; omega); refine hK.out _ _ (Xb.of_kp k16) fun hH => ?_
      clear hK K; clear hg hb16 P2; refine tkP 17 ?_
      go_simp; refine tkP 18 ?_
      go_simp; refine rdW 19 fun K hK => ?_
      have g7 := kZ k16 x7; have z7 := HZ.out Y16 (kT KW.out k16) (ii.toNat * 8 + 7); go_simp; refine hK.out _ _ ((Xb.of_kp k16).set _ _) fun hH => ?_
      clear hK K; have RF := HS.out.repR tyD_ok HG.out (kT KW.out k16) (w3 := Y16) ⟨rfl, rfl, rfl, Nat.le_refl _, fun _ _ _ => rfl⟩ (L := n + 1) (c' := c16) (o' := a16) (rs := xr ++ [(⟨fe, fp, ⟨fq, 1, 1, 0⟩⟩ : RgM)]) (by rw [List.length_append, HN.out]; rfl) (bG o16 (by have := HS.out.bq; have := oZ HS.out.row; have := kS KW.out; omega)) (fun b e => .inr (by have := (o16.lt b e).1; have := kS KW.out; omega)); rw [show i * 8 + 7 = ii.toNat * 8 + 7 by have := HTN.out; omega] at RF; refine dnW ?_ _
      go_wp2; go_ret; rw [HRES.out, if_neg (by rw [HDN.out]; decide)]; exact ⟨rfl, _, _, RF.1, RF.2⟩
    ·go_simp; refine hK.out _ _ (Xb.kp hH (kA _ _)) fun hH => ?_
     clear hK K; obtain ⟨Y15, hY15⟩ : ∃ x, Y1.alloc (.cells #[fe, fp, fq, (1:Int), (1:Int), (0:Int)] 152) = x := ⟨_, rfl⟩
     have c15 : Kp Y1 Y15 := by rw [← hY15]; exact kA _ _
     have r15 : Y15.heap[Y1.heap.size]? = some (.cells #[fe, fp, fq, (1:Int), (1:Int), (0:Int)] 152) := by rw [← hY15]; exact (mH Y1 _)
     obtain ⟨p15, hp15⟩ : ∃ x, Y1.heap.size = x := ⟨_, rfl⟩
     have k15 := kT k1 c15; have z1 := Nat.le_trans z1 (kS c15); have n15 : p15 ≠ p1 := by have := o1.lt p1 rfl; omega
     have o1 := oK o1 c15; rw [hp15] at r15; rw [hY15] at hH ⊢
     try rw [hp15]
     clear hY15 hp15 c15; refine rdW 5 fun K hK => ?_
     have g7 := kZ k15 x7; go_simp; refine hK.out _ _ (hH) fun hH => ?_
     clear hK K; refine wpAnyH_ready (rs := [6]) (by kernel_rfl) (by simp) ?_
     refine AllReadyH.consLG rfl (fun K hK => ?_) aN0
     have P1 := (HP.out).kp k15; go_simp; refine aG (E := rgE) ty_rgD (by decide) _ rfl _ _ rfl p1 _ _ [] rfl o1 _ xr rfl P1 ?f1 ?f2 ?_
     case f1 => have := HN.out; omega
     case f2 => exact z1
     rintro v6 Y6 o6 hg hb6; rw [Nat.zero_add, HN.out, List.nil_append] at o6; obtain ⟨a6, c6, rfl⟩ := fG o6; have k6 : Kp W Y6 := Below.grown k15 hg (Below.size k15) (fun k hk => by have := (o1.lt k hk).1; omega); have z1 := Nat.le_trans z1 hg.size; have r15 := (hg.block p15 (oZ r15) (fun e => n15 (by injection e))).trans r15; refine hK.out _ _ (Xb.of_kp k6) fun hH => ?_
     clear hK K; clear hg hb6 P1; refine wpAnyH_ready (rs := [16]) (by kernel_rfl) (by simp) ?_
     refine AllReadyH.consLG rfl (fun K hK => ?_) aN0
     have P2 : PartG rgE (.slice (some ⟨p15, 0, none⟩) 1 1) [(⟨fe, fp, ⟨fq, 1, 1, 0⟩⟩ : RgM)] Y6 := pG r15 rfl; go_simp; refine aG (E := rgE) ty_rgD (by decide) _ rfl _ _ rfl p1 _ _ xr rfl o6 _ _ rfl P2 ?f3 ?f4 ?_
     case f3 => simp; have := HN.out; omega
     case f4 => exact z1
     rintro v16 Y16 o16 hg hb16; obtain ⟨a16, c16, rfl⟩ := fG o16; have k16 : Kp W Y16 := Below.grown k6 hg (Below.size k6) (fun k hk => by have := (o6.lt k hk).1; omega); refine hK.out _ _ (Xb.of_kp k16) fun hH => ?_
     clear hK K; clear hg hb16 P2; refine tkP 17 ?_
     go_simp; refine tkP 18 ?_
     go_simp; refine rdW 19 fun K hK => ?_
     have g7 := kZ k16 x7; have z7 := HZ.out Y16 (kT KW.out k16) (ii.toNat * 8 + 7); go_simp; refine hK.out _ _ ((Xb.of_kp k16).set _ _) fun hH => ?_
     clear hK K; have RF := HS.out.repR tyD_ok HG.out (kT KW.out k16) (w3 := Y16) ⟨rfl, rfl, rfl, Nat.le_refl _, fun _ _ _ => rfl⟩ (L := n + 1) (c' := c16) (o' := a16) (rs := xr ++ [(⟨fe, fp, ⟨fq, 1, 1, 0⟩⟩ : RgM)]) (by rw [List.length_append, HN.out]; rfl) (bG o16 (by have := HS.out.bq; have := oZ HS.out.row; have := kS KW.out; omega)) (fun b e => .inr (by have := (o16.lt b e).1; have := kS KW.out; omega)); rw [show i * 8 + 7 = ii.toNat * 8 + 7 by have := HTN.out; omega] at RF; refine dnW ?_ _
     go_wp2; go_ret; rw [HRES.out, if_neg (by rw [HDN.out]; decide)]; exact ⟨rfl, _, _, RF.1, RF.2⟩
   ·have g7 := kZ kR x7; go_simp; refine hK.out _ _ (hH) fun hH => ?_
    clear hK K; refine wpAnyH_ready (rs := [1, 15]) (by kernel_rfl) (by simp) ?_
    refine aC (fun K hK => ?_) (aC (fun K hK => ?_) aN0)
    ·go_simp; refine hK.out _ _ (Xb.kp hH (kA _ _)) fun hH => ?_
     clear hK K; obtain ⟨Y1, hY1⟩ : ∃ x, WR.alloc (.cells #[] 152) = x := ⟨_, rfl⟩
     have c1 : Kp WR Y1 := by rw [← hY1]; exact kA _ _
     have o1 : Y1.ownsRow WR.heap.size 152 6 (.slice (some ⟨WR.heap.size, 0, none⟩) 0 0) 0 (rgE.row []) := by rw [← hY1]; exact ⟨by simp [EncG.row], Or.inr ⟨WR.heap.size, 0, #[], rfl, Nat.le_refl _, (mH WR _), Nat.le_refl _, by omega, by simp, by simp [EncG.row]⟩⟩
     obtain ⟨p1, hp1⟩ : ∃ x, WR.heap.size = x := ⟨_, rfl⟩
     have b1 : W.heap.size ≤ p1 := by rw [← hp1]; exact kS kR
     have k1 := kT kR c1; have z1 : p1 ≤ Y1.heap.size := by rw [← hp1]; exact kS c1
     rw [hp1] at o1; rw [hY1] at hH ⊢
     try rw [hp1]
     clear hY1 hp1 c1; refine wpAnyH_ready (rs := [6, 15]) (by kernel_rfl) (by simp) ?_
     refine AllReadyH.consLG rfl (fun K hK => ?_) (aC (fun K hK => ?_) aN0)
     ·have P1 := (HP.out).kp k1; go_simp; refine aG (E := rgE) ty_rgD (by decide) _ rfl _ _ rfl p1 _ _ [] rfl o1 _ xr rfl P1 ?f1 ?f2 ?_
      case f1 => have := HN.out; omega
      case f2 => exact z1
      rintro v6 Y6 o6 hg hb6; rw [Nat.zero_add, HN.out, List.nil_append] at o6; obtain ⟨a6, c6, rfl⟩ := fG o6; have k6 : Kp W Y6 := Below.grown k1 hg (Below.size k1) (fun k hk => by have := (o1.lt k hk).1; omega); have z1 := Nat.le_trans z1 hg.size; refine hK.out _ _ (Xb.of_kp k6) fun hH => ?_
      clear hK K; clear hg hb6 P1; refine rdW 15 fun K hK => ?_
      go_simp; refine hK.out _ _ (Xb.kp hH (kA _ _)) fun hH => ?_
      clear hK K; obtain ⟨Y15, hY15⟩ : ∃ x, Y6.alloc (.cells #[fe, fp, fq, (1:Int), (1:Int), (0:Int)] 152) = x := ⟨_, rfl⟩
      have c15 : Kp Y6 Y15 := by rw [← hY15]; exact kA _ _
      have r15 : Y15.heap[Y6.heap.size]? = some (.cells #[fe, fp, fq, (1:Int), (1:Int), (0:Int)] 152) := by rw [← hY15]; exact (mH Y6 _)
      obtain ⟨p15, hp15⟩ : ∃ x, Y6.heap.size = x := ⟨_, rfl⟩
      have k15 := kT k6 c15; have z1 := Nat.le_trans z1 (kS c15); have o6 := oK o6 c15; rw [hp15] at r15; rw [hY15] at hH ⊢
      try rw [hp15]
      clear hY15 hp15 c15; refine wpAnyH_ready (rs := [16]) (by kernel_rfl) (by simp) ?_
      refine AllReadyH.consLG rfl (fun K hK => ?_) aN0
      have P2 : PartG rgE (.slice (some ⟨p15, 0, none⟩) 1 1) [(⟨fe, fp, ⟨fq, 1, 1, 0⟩⟩ : RgM)] Y15 := pG r15 rfl; go_simp; refine aG (E := rgE) ty_rgD (by decide) _ rfl _ _ rfl p1 _ _ xr rfl o6 _ _ rfl P2 ?f3 ?f4 ?_
      case f3 => simp; have := HN.out; omega
      case f4 => exact z1
      rintro v16 Y16 o16 hg hb16; obtain ⟨a16, c16, rfl⟩ := fG o16; have k16 : Kp W Y16 := Below.grown k15 hg (Below.size k15) (fun k hk => by have := (o6.lt k hk).1; omega); refine hK.out _ _ (Xb.of_kp k16) fun hH => ?_
      clear hK K; clear hg hb16 P2; refine tkP 17 ?_
      go_simp; refine tkP 18 ?_
      go_simp; refine rdW 19 fun K hK => ?_
      have g7 := kZ k16 x7; have z7 := HZ.out Y16 (kT KW.out k16) (ii.toNat * 8 + 7); go_simp; refine hK.out _ _ ((Xb.of_kp k16).set _ _) fun hH => ?_
      clear hK K; have RF := HS.out.repR tyD_ok HG.out (kT KW.out k16) (w3 := Y16) ⟨rfl, rfl, rfl, Nat.le_refl _, fun _ _ _ => rfl⟩ (L := n + 1) (c' := c16) (o' := a16) (rs := xr ++ [(⟨fe, fp, ⟨fq, 1, 1, 0⟩⟩ : RgM)]) (by rw [List.length_append, HN.out]; rfl) (bG o16 (by have := HS.out.bq; have := oZ HS.out.row; have := kS KW.out; omega)) (fun b e => .inr (by have := (o16.lt b e).1; have := kS KW.out; omega)); rw [show i * 8 + 7 = ii.toNat * 8 + 7 by have := HTN.out; omega] at RF; refine dnW ?_ _
      go_wp2; go_ret; rw [HRES.out, if_neg (by rw [HDN.out]; decide)]; exact ⟨rfl, _, _, RF.1, RF.2⟩
     ·go_simp; refine hK.out _ _ (Xb.kp hH (kA _ _)) fun hH => ?_
      clear hK K; obtain ⟨Y15, hY15⟩ : ∃ x, Y1.alloc (.cells #[fe, fp, fq, (1:Int), (1:Int), (0:Int)] 152) = x := ⟨_, rfl⟩
      have c15 : Kp Y1 Y15 := by rw [← hY15]; exact kA _ _
      have r15 : Y15.heap[Y1.heap.size]? = some (.cells #[fe, fp, fq, (1:Int), (1:Int), (0:Int)] 152) := by rw [← hY15]; exact (mH Y1 _)
      obtain ⟨p15, hp15⟩ : ∃ x, Y1.heap.size = x := ⟨_, rfl⟩
      have k15 := kT k1 c15; have z1 := Nat.le_trans z1 (kS c15); have n15 : p15 ≠ p1 := by have := o1.lt p1 rfl; omega
      have o1 := oK o1 c15; rw [hp15] at r15; rw [hY15] at hH ⊢
      try rw [hp15]
      clear hY15 hp15 c15; refine wpAnyH_ready (rs := [6]) (by kernel_rfl) (by simp) ?_
      refine AllReadyH.consLG rfl (fun K hK => ?_) aN0
      have P1 := (HP.out).kp k15; go_simp; refine aG (E := rgE) ty_rgD (by decide) _ rfl _ _ rfl p1 _ _ [] rfl o1 _ xr rfl P1 ?f1 ?f2 ?_
      case f1 => have := HN.out; omega
      case f2 => exact z1
      rintro v6 Y6 o6 hg hb6; rw [Nat.zero_add, HN.out, List.nil_append] at o6; obtain ⟨a6, c6, rfl⟩ := fG o6; have k6 : Kp W Y6 := Below.grown k15 hg (Below.size k15) (fun k hk => by have := (o1.lt k hk).1; omega); have z1 := Nat.le_trans z1 hg.size; have r15 := (hg.block p15 (oZ r15) (fun e => n15 (by injection e))).trans r15; refine hK.out _ _ (Xb.of_kp k6) fun hH => ?_
      clear hK K; clear hg hb6 P1; refine wpAnyH_ready (rs := [16]) (by kernel_rfl) (by simp) ?_
      refine AllReadyH.consLG rfl (fun K hK => ?_) aN0
      have P2 : PartG rgE (.slice (some ⟨p15, 0, none⟩) 1 1) [(⟨fe, fp, ⟨fq, 1, 1, 0⟩⟩ : RgM)] Y6 := pG r15 rfl; go_simp; refine aG (E := rgE) ty_rgD (by decide) _ rfl _ _ rfl p1 _ _ xr rfl o6 _ _ rfl P2 ?f3 ?f4 ?_
      case f3 => simp; have := HN.out; omega
      case f4 => exact z1
      rintro v16 Y16 o16 hg hb16; obtain ⟨a16, c16, rfl⟩ := fG o16; have k16 : Kp W Y16 := Below.grown k6 hg (Below.size k6) (fun k hk => by have := (o6.lt k hk).1; omega); refine hK.out _ _ (Xb.of_kp k16) fun hH => ?_
      clear hK K; clear hg hb16 P2; refine tkP 17 ?_
      go_simp; refine tkP 18 ?_
      go_simp; refine rdW 19 fun K hK => ?_
      have g7 := kZ k16 x7; have z7 := HZ.out Y16 (kT KW.out k16) (ii.toNat * 8 + 7); go_simp; refine hK.out _ _ ((Xb.of_kp k16).set _ _) fun hH => ?_
      clear hK K; have RF := HS.out.repR tyD_ok HG.out (kT KW.out k16) (w3 := Y16) ⟨rfl, rfl, rfl, Nat.le_refl _, fun _ _ _ => rfl⟩ (L := n + 1) (c' := c16) (o' := a16) (rs := xr ++ [(⟨fe, fp, ⟨fq, 1, 1, 0⟩⟩ : RgM)]) (by rw [List.length_append, HN.out]; rfl) (bG o16 (by have := HS.out.bq; have := oZ HS.out.row; have := kS KW.out; omega)) (fun b e => .inr (by have := (o16.lt b e).1; have := kS KW.out; omega)); rw [show i * 8 + 7 = ii.toNat * 8 + 7 by have := HTN.out; omega] at RF; refine dnW ?_ _
      go_wp2; go_ret; rw [HRES.out, if_neg (by rw [HDN.out]; decide)]; exact ⟨rfl, _, _, RF.1, RF.2⟩
    ·go_simp; refine hK.out _ _ (Xb.kp hH (kA _ _)) fun hH => ?_
     clear hK K; obtain ⟨Y15, hY15⟩ : ∃ x, WR.alloc (.cells #[fe, fp, fq, (1:Int), (1:Int), (0:Int)] 152) = x := ⟨_, rfl⟩
     have c15 : Kp WR Y15 := by rw [← hY15]; exact kA _ _
     have r15 : Y15.heap[WR.heap.size]? = some (.cells #[fe, fp, fq, (1:Int), (1:Int), (0:Int)] 152) := by rw [← hY15]; exact (mH WR _)
     obtain ⟨p15, hp15⟩ : ∃ x, WR.heap.size = x := ⟨_, rfl⟩
     have k15 := kT kR c15; rw [hp15] at r15; rw [hY15] at hH ⊢
     try rw [hp15]
     clear hY15 hp15 c15; refine rdW 1 fun K hK => ?_
     go_simp; refine hK.out _ _ (Xb.kp hH (kA _ _)) fun hH => ?_
     clear hK K; obtain ⟨Y1, hY1⟩ : ∃ x, Y15.alloc (.cells #[] 152) = x := ⟨_, rfl⟩
     have c1 : Kp Y15 Y1 := by rw [← hY1]; exact kA _ _
     have o1 : Y1.ownsRow Y15.heap.size 152 6 (.slice (some ⟨Y15.heap.size, 0, none⟩) 0 0) 0 (rgE.row []) := by rw [← hY1]; exact ⟨by simp [EncG.row], Or.inr ⟨Y15.heap.size, 0, #[], rfl, Nat.le_refl _, (mH Y15 _), Nat.le_refl _, by omega, by simp, by simp [EncG.row]⟩⟩
     obtain ⟨p1, hp1⟩ : ∃ x, Y15.heap.size = x := ⟨_, rfl⟩
     have b1 : W.heap.size ≤ p1 := by rw [← hp1]; exact kS k15
     have k1 := kT k15 c1; have z1 : p1 ≤ Y1.heap.size := by rw [← hp1]; exact kS c1
     have n15 : p15 ≠ p1 := by have := oZ r15; omega
     have r15 := rZ c1 r15; rw [hp1] at o1; rw [hY1] at hH ⊢
     try rw [hp1]
     clear hY1 hp1 c1; refine wpAnyH_ready (rs := [6]) (by kernel_rfl) (by simp) ?_
     refine AllReadyH.consLG rfl (fun K hK => ?_) aN0
     have P1 := (HP.out).kp k1; go_simp; refine aG (E := rgE) ty_rgD (by decide) _ rfl _ _ rfl p1 _ _ [] rfl o1 _ xr rfl P1 ?f1 ?f2 ?_
     case f1 => have := HN.out; omega
     case f2 => exact z1
     rintro v6 Y6 o6 hg hb6; rw [Nat.zero_add, HN.out, List.nil_append] at o6; obtain ⟨a6, c6, rfl⟩ := fG o6; have k6 : Kp W Y6 := Below.grown k1 hg (Below.size k1) (fun k hk => by have := (o1.lt k hk).1; omega); have z1 := Nat.le_trans z1 hg.size; have r15 := (hg.block p15 (oZ r15) (fun e => n15 (by injection e))).trans r15; refine hK.out _ _ (Xb.of_kp k6) fun hH => ?_
     clear hK K; clear hg hb6 P1; refine wpAnyH_ready (rs := [16]) (by kernel_rfl) (by simp) ?_
     refine AllReadyH.consLG rfl (fun K hK => ?_) aN0
     have P2 : PartG rgE (.slice (some ⟨p15, 0, none⟩) 1 1) [(⟨fe, fp, ⟨fq, 1, 1, 0⟩⟩ : RgM)] Y6 := pG r15 rfl; go_simp; refine aG (E := rgE) ty_rgD (by decide) _ rfl _ _ rfl p1 _ _ xr rfl o6 _ _ rfl P2 ?f3 ?f4 ?_
     case f3 => simp; have := HN.out; omega
     case f4 => exact z1
     rintro v16 Y16 o16 hg hb16; obtain ⟨a16, c16, rfl⟩ := fG o16; have k16 : Kp W Y16 := Below.grown k6 hg (Below.size k6) (fun k hk => by have := (o6.lt k hk).1; omega); refine hK.out _ _ (Xb.of_kp k16) fun hH => ?_
     clear hK K; clear hg hb16 P2; refine tkP 17 ?_
     go_simp; refine tkP 18 ?_
     go_simp; refine rdW 19 fun K hK => ?_
     have g7 := kZ k16 x7; have z7 := HZ.out Y16 (kT KW.out k16) (ii.toNat * 8 + 7); go_simp; refine hK.out _ _ ((Xb.of_kp k16).set _ _) fun hH => ?_
     clear hK K; have RF := HS.out.repR tyD_ok HG.out (kT KW.out k16) (w3 := Y16) ⟨rfl, rfl, rfl, Nat.le_refl _, fun _ _ _ => rfl⟩ (L := n + 1) (c' := c16) (o' := a16) (rs := xr ++ [(⟨fe, fp, ⟨fq, 1, 1, 0⟩⟩ : RgM)]) (by rw [List.length_append, HN.out]; rfl) (bG o16 (by have := HS.out.bq; have := oZ HS.out.row; have := kS KW.out; omega)) (fun b e => .inr (by have := (o16.lt b e).1; have := kS KW.out; omega)); rw [show i * 8 + 7 = ii.toNat * 8 + 7 by have := HTN.out; omega] at RF; refine dnW ?_ _
     go_wp2; go_ret; rw [HRES.out, if_neg (by rw [HDN.out]; decide)]; exact ⟨rfl, _, _, RF.1, RF.2⟩
   ·go_simp; refine hK.out _ _ (Xb.kp hH (kA _ _)) fun hH => ?_
    clear hK K; obtain ⟨Y15, hY15⟩ : ∃ x, WR.alloc (.cells #[fe, fp, fq, (1:Int), (1:Int), (0:Int)] 152) = x := ⟨_, rfl⟩
    have c15 : Kp WR Y15 := by rw [← hY15]; exact kA _ _
    have r15 : Y15.heap[WR.heap.size]? = some (.cells #[fe, fp, fq, (1:Int), (1:Int), (0:Int)] 152) := by rw [← hY15]; exact (mH WR _)
    obtain ⟨p15, hp15⟩ : ∃ x, WR.heap.size = x := ⟨_, rfl⟩
    have k15 := kT kR c15; rw [hp15] at r15; rw [hY15] at hH ⊢
    try rw [hp15]
    clear hY15 hp15 c15; refine wpAnyH_ready (rs := [1, 5]) (by kernel_rfl) (by simp) ?_
    refine aC (fun K hK => ?_) (aC (fun K hK => ?_) aN0)
    ·go_simp; refine hK.out _ _ (Xb.kp hH (kA _ _)) fun hH => ?_
     clear hK K; obtain ⟨Y1, hY1⟩ : ∃ x, Y15.alloc (.cells #[] 152) = x := ⟨_, rfl⟩
     have c1 : Kp Y15 Y1 := by rw [← hY1]; exact kA _ _
     have o1 : Y1.ownsRow Y15.heap.size 152 6 (.slice (some ⟨Y15.heap.size, 0, none⟩) 0 0) 0 (rgE.row []) := by rw [← hY1]; exact ⟨by simp [EncG.row], Or.inr ⟨Y15.heap.size, 0, #[], rfl, Nat.le_refl _, (mH Y15 _), Nat.le_refl _, by omega, by simp, by simp [EncG.row]⟩⟩
     obtain ⟨p1, hp1⟩ : ∃ x, Y15.heap.size = x := ⟨_, rfl⟩
     have b1 : W.heap.size ≤ p1 := by rw [← hp1]; exact kS k15
     have k1 := kT k15 c1; have z1 : p1 ≤ Y1.heap.size := by rw [← hp1]; exact kS c1
     have n15 : p15 ≠ p1 := by have := oZ r15; omega
     have r15 := rZ c1 r15; rw [hp1] at o1; rw [hY1] at hH ⊢
     try rw [hp1]
     clear hY1 hp1 c1; refine rdW 5 fun K hK => ?_
     have g7 := kZ k1 x7; go_simp; refine hK.out _ _ (hH) fun hH => ?_
     clear hK K; refine wpAnyH_ready (rs := [6]) (by kernel_rfl) (by simp) ?_
     refine AllReadyH.consLG rfl (fun K hK => ?_) aN0
     have P1 := (HP.out).kp k1; go_simp; refine aG (E := rgE) ty_rgD (by decide) _ rfl _ _ rfl p1 _ _ [] rfl o1 _ xr rfl P1 ?f1 ?f2 ?_
     case f1 => have := HN.out; omega
     case f2 => exact z1
     rintro v6 Y6 o6 hg hb6; rw [Nat.zero_add, HN.out, List.nil_append] at o6; obtain ⟨a6, c6, rfl⟩ := fG o6; have k6 : Kp W Y6 := Below.grown k1 hg (Below.size k1) (fun k hk => by have := (o1.lt k hk).1; omega); have z1 := Nat.le_trans z1 hg.size; have r15 := (hg.block p15 (oZ r15) (fun e => n15 (by injection e))).trans r15; refine hK.out _ _ (Xb.of_kp k6) fun hH => ?_
     clear hK K; clear hg hb6 P1; refine wpAnyH_ready (rs := [16]) (by kernel_rfl) (by simp) ?_
     refine AllReadyH.consLG rfl (fun K hK => ?_) aN0
     have P2 : PartG rgE (.slice (some ⟨p15, 0, none⟩) 1 1) [(⟨fe, fp, ⟨fq, 1, 1, 0⟩⟩ : RgM)] Y6 := pG r15 rfl; go_simp; refine aG (E := rgE) ty_rgD (by decide) _ rfl _ _ rfl p1 _ _ xr rfl o6 _ _ rfl P2 ?f3 ?f4 ?_
     case f3 => simp; have := HN.out; omega
     case f4 => exact z1
     rintro v16 Y16 o16 hg hb16; obtain ⟨a16, c16, rfl⟩ := fG o16; have k16 : Kp W Y16 := Below.grown k6 hg (Below.size k6) (fun k hk => by have := (o6.lt k hk).1; omega); refine hK.out _ _ (Xb.of_kp k16) fun hH => ?_
     clear hK K; clear hg hb16 P2; refine tkP 17 ?_
     go_simp; refine tkP 18 ?_
     go_simp; refine rdW 19 fun K hK => ?_
     have g7 := kZ k16 x7; have z7 := HZ.out Y16 (kT KW.out k16) (ii.toNat * 8 + 7); go_simp; refine hK.out _ _ ((Xb.of_kp k16).set _ _) fun hH => ?_
     clear hK K; have RF := HS.out.repR tyD_ok HG.out (kT KW.out k16) (w3 := Y16) ⟨rfl, rfl, rfl, Nat.le_refl _, fun _ _ _ => rfl⟩ (L := n + 1) (c' := c16) (o' := a16) (rs := xr ++ [(⟨fe, fp, ⟨fq, 1, 1, 0⟩⟩ : RgM)]) (by rw [List.length_append, HN.out]; rfl) (bG o16 (by have := HS.out.bq; have := oZ HS.out.row; have := kS KW.out; omega)) (fun b e => .inr (by have := (o16.lt b e).1; have := kS KW.out; omega)); rw [show i * 8 + 7 = ii.toNat * 8 + 7 by have := HTN.out; omega] at RF; refine dnW ?_ _
     go_wp2; go_ret; rw [HRES.out, if_neg (by rw [HDN.out]; decide)]; exact ⟨rfl, _, _, RF.1, RF.2⟩
    ·have g7 := kZ k15 x7; go_simp; refine hK.out _ _ (hH) fun hH => ?_
     clear hK K; refine rdW 1 fun K hK => ?_
     go_simp; refine hK.out _ _ (Xb.kp hH (kA _ _)) fun hH => ?_
     clear hK K; obtain ⟨Y1, hY1⟩ : ∃ x, Y15.alloc (.cells #[] 152) = x := ⟨_, rfl⟩
     have c1 : Kp Y15 Y1 := by rw [← hY1]; exact kA _ _
     have o1 : Y1.ownsRow Y15.heap.size 152 6 (.slice (some ⟨Y15.heap.size, 0, none⟩) 0 0) 0 (rgE.row []) := by rw [← hY1]; exact ⟨by simp [EncG.row], Or.inr ⟨Y15.heap.size, 0, #[], rfl, Nat.le_refl _, (mH Y15 _), Nat.le_refl _, by omega, by simp, by simp [EncG.row]⟩⟩
     obtain ⟨p1, hp1⟩ : ∃ x, Y15.heap.size = x := ⟨_, rfl⟩
     have b1 : W.heap.size ≤ p1 := by rw [← hp1]; exact kS k15
     have k1 := kT k15 c1; have z1 : p1 ≤ Y1.heap.size := by rw [← hp1]; exact kS c1
     have n15 : p15 ≠ p1 := by have := oZ r15; omega
     have r15 := rZ c1 r15; rw [hp1] at o1; rw [hY1] at hH ⊢
     try rw [hp1]
     clear hY1 hp1 c1; refine wpAnyH_ready (rs := [6]) (by kernel_rfl) (by simp) ?_
     refine AllReadyH.consLG rfl (fun K hK => ?_) aN0
     have P1 := (HP.out).kp k1; go_simp; refine aG (E := rgE) ty_rgD (by decide) _ rfl _ _ rfl p1 _ _ [] rfl o1 _ xr rfl P1 ?f1 ?f2 ?_
     case f1 => have := HN.out; omega
     case f2 => exact z1
     rintro v6 Y6 o6 hg hb6; rw [Nat.zero_add, HN.out, List.nil_append] at o6; obtain ⟨a6, c6, rfl⟩ := fG o6; have k6 : Kp W Y6 := Below.grown k1 hg (Below.size k1) (fun k hk => by have := (o1.lt k hk).1; omega); have z1 := Nat.le_trans z1 hg.size; have r15 := (hg.block p15 (oZ r15) (fun e => n15 (by injection e))).trans r15; refine hK.out _ _ (Xb.of_kp k6) fun hH => ?_
     clear hK K; clear hg hb6 P1; refine wpAnyH_ready (rs := [16]) (by kernel_rfl) (by simp) ?_
     refine AllReadyH.consLG rfl (fun K hK => ?_) aN0
     have P2 : PartG rgE (.slice (some ⟨p15, 0, none⟩) 1 1) [(⟨fe, fp, ⟨fq, 1, 1, 0⟩⟩ : RgM)] Y6 := pG r15 rfl; go_simp; refine aG (E := rgE) ty_rgD (by decide) _ rfl _ _ rfl p1 _ _ xr rfl o6 _ _ rfl P2 ?f3 ?f4 ?_
     case f3 => simp; have := HN.out; omega
     case f4 => exact z1
     rintro v16 Y16 o16 hg hb16; obtain ⟨a16, c16, rfl⟩ := fG o16; have k16 : Kp W Y16 := Below.grown k6 hg (Below.size k6) (fun k hk => by have := (o6.lt k hk).1; omega); refine hK.out _ _ (Xb.of_kp k16) fun hH => ?_
     clear hK K; clear hg hb16 P2; refine tkP 17 ?_
     go_simp; refine tkP 18 ?_
     go_simp; refine rdW 19 fun K hK => ?_
     have g7 := kZ k16 x7; have z7 := HZ.out Y16 (kT KW.out k16) (ii.toNat * 8 + 7); go_simp; refine hK.out _ _ ((Xb.of_kp k16).set _ _) fun hH => ?_
     clear hK K; have RF := HS.out.repR tyD_ok HG.out (kT KW.out k16) (w3 := Y16) ⟨rfl, rfl, rfl, Nat.le_refl _, fun _ _ _ => rfl⟩ (L := n + 1) (c' := c16) (o' := a16) (rs := xr ++ [(⟨fe, fp, ⟨fq, 1, 1, 0⟩⟩ : RgM)]) (by rw [List.length_append, HN.out]; rfl) (bG o16 (by have := HS.out.bq; have := oZ HS.out.row; have := kS KW.out; omega)) (fun b e => .inr (by have := (o16.lt b e).1; have := kS KW.out; omega)); rw [show i * 8 + 7 = ii.toNat * 8 + 7 by have := HTN.out; omega] at RF; refine dnW ?_ _
     go_wp2; go_ret; rw [HRES.out, if_neg (by rw [HDN.out]; decide)]; exact ⟨rfl, _, _, RF.1, RF.2⟩
end Go.Proofs.YtlmlmhmhgdjhnaaGreatDoor
