/- Parts of this proof (own work). -/
import Derived.Test.YtlmlmhmhgdjhnaaGreatDoorZa11
set_option maxRecDepth 100000
set_option maxHeartbeats 40000000
namespace Go.Proofs.YtlmlmhmhgdjhnaaGreatDoor
open Go.RowKit Go.ChangeShapes Go.WideShapes
theorem info_acD0 : (Tryz.prog.info? 72).map (fun i => (i.zero, i.size, i.bytes)) = some (some (.agg #[(0:Int), (0:Int), (0:Int), (0:Int), .float .f64 0, (0:Int), (0:Int), .slice none 0 0]), 8, 80) := by kernel_rfl
theorem info_acD : ∃ i0, Tryz.prog.info? 72 = some i0 ∧ i0.zero = some (.agg #[(0:Int), (0:Int), (0:Int), (0:Int), .float .f64 0, (0:Int), (0:Int), .slice none 0 0]) ∧ i0.size = 8 ∧ i0.bytes = 80 := by
 have h := info_acD0
 cases g : Tryz.prog.info? 72 with
 | none => rw [g] at h; cases h
 | some i0 =>
  rw [g] at h; simp only [Option.map_some, Option.some.injEq, Prod.mk.injEq] at h
  exact ⟨i0, rfl, h.1, h.2.1, h.2.2⟩
theorem ty_acD : TyG Tryz.prog 73 72 8 (.agg #[(0:Int), (0:Int), (0:Int), (0:Int), .float .f64 0, (0:Int), (0:Int), .slice none 0 0]) 80 := ⟨Tryz.underlying73, info_acD, rfl, by decide⟩
theorem all_end {xr : List RgM} (h : ∀ i (hi : i < xr.length), xr[i].z.s = 14) : xr.any (fun g => decide (g.z.s ≠ 14)) = false := by
 rw [List.any_eq_false]; intro x hx; obtain ⟨i, hi, rfl⟩ := List.getElem_of_mem hx; exact fun q => of_decide_eq_true q (h i hi)
theorem not_end {xr : List RgM} {j : Nat} (hj : j < xr.length) (h : ¬ xr[j].z.s = 14) : xr.any (fun g => decide (g.z.s ≠ 14)) = true := by
 rw [List.any_eq_true]; exact ⟨xr[j], List.getElem_mem hj, dT h⟩
theorem erase_at {α : Type} {l : List α} {i k : Nat} {x : α} (h : (l.eraseIdx i)[k]? = some x) : l[if k < i then k else k + 1]? = some x := by
 rw [List.getElem?_eraseIdx] at h
 split at h
 ·rename_i e; rw [if_pos e]; exact h
 ·rename_i e; rw [if_neg e]; exact h
theorem dis_erase {gs : List AcG} {i : Nat} (hd : ∀ (i j : Nat) (g h : AcG), gs[i]? = some g → gs[j]? = some h → i ≠ j → ∀ b, g.v.ownBlock = some b → h.v.ownBlock ≠ some b) :
  ∀ (k j : Nat) (g h : AcG), (gs.eraseIdx i)[k]? = some g → (gs.eraseIdx i)[j]? = some h → k ≠ j → ∀ b, g.v.ownBlock = some b → h.v.ownBlock ≠ some b := by
 intro k j g h hk hj hne; exact hd _ _ g h (erase_at hk) (erase_at hj) (by split <;> split <;> omega)
theorem tD {α : Type} (l : List α) (i : Nat) : l.take i ++ l.drop (i + 1) = l.eraseIdx i := (List.eraseIdx_eq_take_drop_succ l i).symm
variable {w0 w w' W w3 : World} {B q : Nat} {m : StM} {gs : List AcG} {va vp : Value}
theorem refAct5 (Hs : GS tyD B q m gs va vp w) (h8 : gs.length ≤ 8) {i : Nat} {ii : Int} (hii : (i : Int) = ii) {xn xs xo xd xp xc : Int} {xx : Nat} {xr : List RgM} {xb : Option Addr} {xk : Nat} (hg : gs[i]? = some ⟨⟨⟨xn, xs, xo, xd, xx⟩, xp, xc, xr⟩, xb, xk⟩) (h6 : xr.length ≤ 6) (fn fs fr fe fp fq fo fd fa ft fh fc : Int) (fx : Nat) : Calls Tryz.prog 89 #[.pointer (some ⟨q, 0, none⟩), .int .i64 ii, .agg #[(5:Int), fn, fs, fr, fe, fp, fq, fo, fd, fa, ft, fh, fc, fx]] w fun r w' => r = .returned (.bool (actS m i ⟨⟨xn, xs, xo, xd, xx⟩, xp, xc, xr⟩ (⟨5, fn, fs, fr, fe, fp, fq, fo, fd, fa, ft, fh, fc, fx⟩ : FX)).isSome) ∧ ∃ gs' va', GS tyD B q ((actS m i ⟨⟨xn, xs, xo, xd, xx⟩, xp, xc, xr⟩ (⟨5, fn, fs, fr, fe, fp, fq, fo, fd, fa, ft, fh, fc, fx⟩ : FX)).getD m) gs' va' vp w' ∧ Asd (Ow q gs va vp) (Ow q gs' va' vp) w w' := by
 have _u := And.intro h8 h6; clear _u; obtain ⟨hi, hgi⟩ := List.getElem?_eq_some_iff.1 hg; obtain ⟨ga, cpa, rfl, hcpa, hgB, hgl, hfz, hcell⟩ := cQ (E := acE) Hs.oa rfl hi; rw [hgi, show acE.k = 8 from rfl] at hcell; have HR := hD (Hs.og _ (List.mem_of_getElem? hg)); obtain ⟨len, hl⟩ : ∃ x, gs.length = x := ⟨_, rfl⟩
 obtain ⟨n, hn⟩ : ∃ x, xr.length = x := ⟨_, rfl⟩
 have htn : ii.toNat = i := by omega
 have hi0 : 0 ≤ ii := by omega
 have hiL : ii < (len : Int) := by omega
 have x2 : w.cell? ⟨ga, ii.toNat * 8 + 2, none⟩ = some (.int .i64 xo) := by rw [htn]; exact hcell 2 _ (by decide) rfl
 have x6 : w.cell? ⟨ga, ii.toNat * 8 + 6, none⟩ = some (.int .i64 xc) := by rw [htn]; exact hcell 6 _ (by decide) rfl
 have x7 : w.cell? ⟨ga, ii.toNat * 8 + 7, none⟩ = some (.slice xb n xk) := by rw [htn, ← hn]; exact hcell 7 _ (by decide) rfl
 have e0 : w.cell? ⟨q, 2, none⟩ = some (.slice (some ⟨ga, 0, none⟩) len cpa) := by rw [← hl]; exact cU (i := 2) Hs.row rfl
 have hkW := kA w (.cells #[(5:Int), fn, fs, fr, fe, fp, fq, fo, fd, fa, ft, fh, fc, fx] 102); obtain ⟨f0, f1, f2, f3, f4, f5, f6, f7, f8, f9, f10, f11, f12, f13⟩ := cZ (mH w (.cells #[(5:Int), fn, fs, fr, fe, fp, fq, fo, fd, fa, ft, fh, fc, fx] 102)); obtain ⟨W, hW⟩ : ∃ W, w.alloc (.cells #[(5:Int), fn, fs, fr, fe, fp, fq, fo, fd, fa, ft, fh, fc, fx] 102) = W := ⟨_, rfl⟩
 rw [hW] at hkW f0 f1 f2 f3 f4 f5 f6 f7 f8 f9 f10 f11 f12 f13; obtain ⟨x2, x6, x7, e0⟩ := kZ4 hkW x2 x6 x7 e0; have hL : ∃ L : Int, (len : Int) = L := ⟨_, rfl⟩
 obtain ⟨L, hL⟩ := hL; rw [hL] at hiL; obtain ⟨N, hN⟩ : ∃ N : Int, (n : Int) = N := ⟨_, rfl⟩
 have hN6 : N ≤ 6 := by omega
 obtain ⟨HS, HG, HL, HN, HNN, HI, HII, HTN⟩ := hD8 Hs hg hl hn hN hi hii htn; have KW := hD hkW; have HZ := hD (show ∀ w', Kp w w' → ∀ j, w'.frozen? ⟨ga, j, none⟩ = false from fun w' h j => by rw [Below.frozen h hgl]; exact hfz j); have hsf := sF; have H8 := hD h8; have hTI : (gs.take i).length = i := by rw [List.length_take]; omega
 have hPA := own_takeG (E := acE) (by decide) Hs.oa (i := i) (Nat.le_of_lt hi); obtain ⟨jj, hjj⟩ : ∃ jj : Int, ii + 1 = jj := ⟨_, rfl⟩
 obtain ⟨at2, hat⟩ : ∃ x : Nat, (if cpa = i + 1 then 0 else (i + 1) * 8) = x := ⟨_, rfl⟩
 have hPB := own_dropG (E := acE) (by decide) Hs.oa (i := i + 1) (by omega) ⟨ga, at2, none⟩ (fun q => by rw [← hat, if_neg (by omega)]; rfl) (cpa - (i + 1)); have hsz : ∃ i0, Tryz.prog.info? 72 = some i0 ∧ i0.size = 8 := by obtain ⟨i0, h1, -, h3, -⟩ := info_acD; exact ⟨i0, h1, h3⟩
 have sh := fun w => sl_headG (P := Tryz.prog) (T := 73) (e := 72) (k := 8) (b := ga) (n := gs.length) (cp := cpa) (i := i) (ii := ii) Tryz.underlying73 hsz hii (Nat.le_of_lt hi) hcpa w
 have st := fun w => sl_tailG (P := Tryz.prog) (T := 73) (e := 72) (k := 8) (b := ga) (n := gs.length) (cp := cpa) (i := i + 1) (ii := jj) Tryz.underlying73 hsz (by omega) (by omega) w
 rw [hat] at st; have PA := hD (hPA.kp hkW); have PB := hD (hPB.kp hkW); have HTI := hD hTI; obtain ⟨L2, hL2⟩ : ∃ L, i + (gs.drop (i + 1)).length = L := ⟨_, rfl⟩
 have HL2 := hD hL2; clear hL2; rw [hl] at sh st PB; obtain ⟨q2, hq2⟩ : ∃ x, len - (i + 1) = x := ⟨_, rfl⟩
 obtain ⟨q3, hq3⟩ : ∃ x, cpa - (i + 1) = x := ⟨_, rfl⟩
 rw [hq2, hq3] at st PB; have hwj : IntKind.i64.wrap jj = jj := IntWalk.i64_in jj (by omega); have j0 : 0 ≤ jj := by omega
 obtain ⟨RES, hRES⟩ : ∃ R, actS m i ⟨⟨xn, xs, xo, xd, xx⟩, xp, xc, xr⟩ (⟨5, fn, fs, fr, fe, fp, fq, fo, fd, fa, ft, fh, fc, fx⟩ : FX) = R := ⟨_, rfl⟩
 have hres : RES = if xr.any (fun g => decide (g.z.s ≠ 14)) = true then none else some { m with acts := m.acts.eraseIdx i } := by
  rw [← hRES]; unfold actS; dsimp only; rw [if_neg (by decide), if_neg (by decide), if_neg (by decide), if_pos rfl]
 rw [hRES]; have HRES := hD hres; clear hRES hres hTI hPA hPB hat hsz hq2 hq3 Hs hg hl hn hi hgi hcell htn hgB hgl hfz hii hcpa hkW; go_enter Tryz.func89, Tryz.ntmps89; go_wp2_with fail
 go_loopw [142] (fun v wr => ∃ k : Nat, k ≤ n ∧ v = .int .i64 k ∧ (∀ p (hp : p < xr.length), p < k → xr[p].z.s = 14) ∧ Kp W wr) (fun v _ => n - (intOf v).toNat)
 case atStart => exact ⟨0, Nat.zero_le _, rfl, fun k _ h => by omega, Kp.refl _⟩
 case round =>
  obtain ⟨k, hk, rfl, hq, hkr⟩ := hrel; obtain ⟨KR, HQ⟩ := hD2 hkr hq; obtain ⟨kk, hkk⟩ : ∃ kk : Int, (k : Int) = kk := ⟨_, rfl⟩
  rw [hkk]; have HKK := hD hkk
  by_cases hlt : k < n
  ·have hjl : kk < N := by have := HNN.out; omega
   have hk0 : 0 ≤ kk := by omega
   have htk : kk.toNat = k := by omega
   have hko : k < xr.length := by have := HN.out; omega
   have kx := kT KW.out hkr; obtain ⟨gr, ck, exb, hck, hgrB, hgrl, hfzr, hcr⟩ := cQ (E := rgE) (oK HR.out kx) rfl hko; obtain ⟨⟨yn, yp, ⟨y1, y2, y3, y4⟩⟩, hy⟩ : ∃ r, xr[k]'hko = r := ⟨_, rfl⟩
   have hcr2 : ∀ (i : Nat) (u : Value), i < rgE.k → (rgE.enc (xr[k]'hko))[i]? = some u → wr.cell? ⟨gr, k * rgE.k + i, none⟩ = some u := hcr; rw [hy, show rgE.k = 6 from rfl, ← htk] at hcr2; have exb := congrArg (fun v => match v with | Value.slice a _ _ => a | _ => none) exb; unfold AcG.v at exb; dsimp only at exb; subst exb; obtain ⟨c0, c1, c2, c3, c4, c5⟩ := cW6 hcr2; have hbox := (mH wr (.cells #[yn, yp, y1, y2, y3, y4] 152))
   have d4 : (wr.alloc (.cells #[yn, yp, y1, y2, y3, y4] 152)).cell? ⟨wr.heap.size, 4, none⟩ = some (.int .i64 y3) := cU (i := 4) hbox rfl; have KN := hD (kT hkr (kA wr (.cells #[yn, yp, y1, y2, y3, y4] 152))); obtain ⟨HLT, HY, HKO⟩ := hD3 hlt hy hko
   by_cases he : y3 = 14
   ·have HE := hD he; have p1 : (y3 == 14) = true := beq_iff_eq.2 he; have hw1 : wrap64 (kk + 1) = kk + 1 := IntWalk.wrap64_in _ (by omega); clear he hcr hcr2 hkr hq hkk hk hlt htk hbox kx hck hgrB hgrl hfzr hy; go_wp2; go_roundw
    case rel => exact ⟨k + 1, by have := HLT.out; omega, by have := HKK.out; rw [show ((k + 1 : Nat) : Int) = kk + 1 by omega], fun p hp hp2 => by
     rcases Nat.lt_or_eq_of_le (Nat.le_of_lt_succ hp2) with g | rfl
     ·exact HQ.out p hp g
     ·rw [HY.out]; exact HE.out, KN.out⟩
    case measure => have := HKK.out; have := HLT.out; simp [intOf]; omega
   ·have HD := hD (not_end hko (by rw [hy]; exact he)); have p1 : (y3 == 14) = false := by simpa using he
    clear he hcr hcr2 hkr hq hkk hk hlt htk hbox kx hck hgrB hgrl hfzr hy; go_wp2; go_ret; rw [HRES.out, if_pos HD.out]; exact ⟨rfl, gs, _, HS.out.kp (kT KW.out KN.out), Asd.of_kp _ (kT KW.out KN.out)⟩
  ·have hje : ¬ kk < N := by have := HNN.out; omega
   have HDN := hD (all_end (fun p hp => hq p hp (by have := HN.out; omega))); obtain ⟨WR, hWR⟩ : ∃ x, wr.drew = x := ⟨_, rfl⟩
   have kR : Kp W WR := by rw [← hWR]; exact dQ hkr
   have HWR := hD hWR; clear hkr hq hkk hk hlt hWR; go_wp2_with fail
   refine rgW (fun w' => Xb q W w') ?_ fun hH => ?_
   ·exact by rw [HWR.out]; exact Xb.of_kp kR
   rw [HWR.out] at hH ⊢; refine tkP 0 ?_
   go_simp; refine tkP 2 ?_
   go_simp; refine tkP 3 ?_
   go_simp; refine tkP 4 ?_
   go_simp; refine tkP 6 ?_
   go_simp; refine tkP 9 ?_
   go_simp; refine tkP 10 ?_
   go_simp; refine tkP 11 ?_
   go_simp; refine tkP 13 ?_
   go_simp; refine tkP 14 ?_
   go_simp; refine wpAnyH_ready (rs := [1, 5, 12]) (by kernel_rfl) (by simp) ?_
   refine aC (fun K hK => ?_) (aC (fun K hK => ?_) (aC (fun K hK => ?_) aN0))
   ·go_simp; refine hK.out _ _ (Xb.kp hH (kA _ _)) fun hH => ?_
    clear hK K; obtain ⟨Y1, hY1⟩ : ∃ x, WR.alloc (.cells #[] 72) = x := ⟨_, rfl⟩
    have c1 : Kp WR Y1 := by rw [← hY1]; exact kA _ _
    have o1 : Y1.ownsRow WR.heap.size 72 8 (.slice (some ⟨WR.heap.size, 0, none⟩) 0 0) 0 (acE.row []) := by rw [← hY1]; exact ⟨by simp [EncG.row], Or.inr ⟨WR.heap.size, 0, #[], rfl, Nat.le_refl _, (mH WR _), Nat.le_refl _, by omega, by simp, by simp [EncG.row]⟩⟩
    obtain ⟨p1, hp1⟩ : ∃ x, WR.heap.size = x := ⟨_, rfl⟩
    have b1 : W.heap.size ≤ p1 := by rw [← hp1]; exact kS kR
    have k1 := kT kR c1; have z1 : p1 ≤ Y1.heap.size := by rw [← hp1]; exact kS c1
    rw [hp1] at o1; rw [hY1] at hH ⊢
    try rw [hp1]
    clear hY1 hp1 c1; refine wpAnyH_ready (rs := [5, 12]) (by kernel_rfl) (by simp) ?_
    refine aC (fun K hK => ?_) (aC (fun K hK => ?_) aN0)
    ·have g0 := kZ k1 e0; go_simp; refine hK.out _ _ (hH) fun hH => ?_
     clear hK K; refine tkP 7 ?_
     go_simp; refine wpAnyH_ready (rs := [8, 12]) (by kernel_rfl) (by simp) ?_
     refine AllReadyH.consLG rfl (fun K hK => ?_) (aC (fun K hK => ?_) aN0)
     ·have P1 := (PA.out).kp k1; go_simp; refine aG (E := acE) ty_acD (by decide) _ rfl _ _ rfl p1 _ _ [] rfl o1 _ (gs.take i) rfl P1 ?f1 ?f2 ?_
      case f1 => rw [HTI.out]; have := HI.out; have := H8.out; omega
      case f2 => exact z1
      rintro v8 Y8 o8 hg hb8; rw [Nat.zero_add, HTI.out, List.nil_append] at o8; obtain ⟨a8, c8, rfl⟩ := fG o8; have k8 : Kp W Y8 := Below.grown k1 hg (Below.size k1) (fun k hk => by have := (o1.lt k hk).1; omega); have z1 := Nat.le_trans z1 hg.size; refine hK.out _ _ (Xb.of_kp k8) fun hH => ?_
      clear hK K; clear hg hb8 P1; refine rdW 12 fun K hK => ?_
      have g0 := kZ k8 e0; go_simp; refine hK.out _ _ (hH) fun hH => ?_
      clear hK K; refine tkP 15 ?_
      go_simp; refine wpAnyH_ready (rs := [16]) (by kernel_rfl) (by simp) ?_
      refine AllReadyH.consLG rfl (fun K hK => ?_) aN0
      have P2 := (PB.out).kp k8; go_simp; refine aG (E := acE) ty_acD (by decide) _ rfl _ _ rfl p1 _ _ (gs.take i) rfl o8 _ (gs.drop (i + 1)) rfl P2 ?f3 ?f4 ?_
      case f3 => rw [List.length_drop]; have := HI.out; have := H8.out; omega
      case f4 => exact z1
      rintro v16 Y16 o16 hg hb16; rw [HL2.out] at o16; obtain ⟨a16, c16, rfl⟩ := fG o16; have k16 : Kp W Y16 := Below.grown k8 hg (Below.size k8) (fun k hk => by have := (o8.lt k hk).1; omega); refine hK.out _ _ (Xb.of_kp k16) fun hH => ?_
      clear hK K; clear hg hb16 P2; refine tkP 17 ?_
      go_simp; refine tkP 18 ?_
      go_simp; refine rdW 19 fun K hK => ?_
      have r16 := rZ (kT KW.out k16) HS.out.row; have q16 : Y16.cell? ⟨q, 2, none⟩ = some (.slice (some ⟨ga, 0, none⟩) len cpa) := by rw [← HL.out]; exact cU (i := 2) r16 rfl
      have z16 := fQ r16 2; go_simp; refine hK.out _ _ ((Xb.of_kp k16).set _ _) fun hH => ?_
      clear hK K; rw [tD] at o16; have RF := HS.out.repA tyD_ok (kT KW.out k16) (w3 := Y16) ⟨rfl, rfl, rfl, Nat.le_refl _, fun _ _ _ => rfl⟩ (L := L2) (gs' := gs.eraseIdx i) (by rw [← tD, List.length_append, HTI.out, HL2.out]) (bG o16 (by have := HS.out.bq; have := oZ HS.out.row; have := kS KW.out; omega)) (fun b e => .inr (by have := (o16.lt b e).1; have := kS KW.out; omega)) (fun g hg => .inl (List.mem_of_mem_eraseIdx hg)) (dis_erase HS.out.dis); refine dnW ?_ _
      go_wp2; go_ret; rw [HRES.out, if_neg (by rw [HDN.out]; decide)]; have hm : m.acts.eraseIdx i = (gs.eraseIdx i).map AcG.a := by rw [HS.out.acts, ← tD, ← tD]; simp [List.map_take, List.map_drop]
      rw [hm]; exact ⟨rfl, _, _, RF.1, RF.2⟩
     ·have g0 := kZ k1 e0; go_simp; refine hK.out _ _ (hH) fun hH => ?_
      clear hK K; refine tkP 15 ?_
      go_simp; refine wpAnyH_ready (rs := [8]) (by kernel_rfl) (by simp) ?_
      refine AllReadyH.consLG rfl (fun K hK => ?_) aN0
      have P1 := (PA.out).kp k1; go_simp; refine aG (E := acE) ty_acD (by decide) _ rfl _ _ rfl p1 _ _ [] rfl o1 _ (gs.take i) rfl P1 ?f1 ?f2 ?_
      case f1 => rw [HTI.out]; have := HI.out; have := H8.out; omega
      case f2 => exact z1
      rintro v8 Y8 o8 hg hb8; rw [Nat.zero_add, HTI.out, List.nil_append] at o8; obtain ⟨a8, c8, rfl⟩ := fG o8; have k8 : Kp W Y8 := Below.grown k1 hg (Below.size k1) (fun k hk => by have := (o1.lt k hk).1; omega); have z1 := Nat.le_trans z1 hg.size; refine hK.out _ _ (Xb.of_kp k8) fun hH => ?_
      clear hK K; clear hg hb8 P1; refine wpAnyH_ready (rs := [16]) (by kernel_rfl) (by simp) ?_
      refine AllReadyH.consLG rfl (fun K hK => ?_) aN0
      have P2 := (PB.out).kp k8; go_simp; refine aG (E := acE) ty_acD (by decide) _ rfl _ _ rfl p1 _ _ (gs.take i) rfl o8 _ (gs.drop (i + 1)) rfl P2 ?f3 ?f4 ?_
      case f3 => rw [List.length_drop]; have := HI.out; have := H8.out; omega
      case f4 => exact z1
      rintro v16 Y16 o16 hg hb16; rw [HL2.out] at o16; obtain ⟨a16, c16, rfl⟩ := fG o16; have k16 : Kp W Y16 := Below.grown k8 hg (Below.size k8) (fun k hk => by have := (o8.lt k hk).1; omega); refine hK.out _ _ (Xb.of_kp k16) fun hH => ?_
      clear hK K; clear hg hb16 P2; refine tkP 17 ?_
      go_simp; refine tkP 18 ?_
      go_simp; refine rdW 19 fun K hK => ?_
      have r16 := rZ (kT KW.out k16) HS.out.row; have q16 : Y16.cell? ⟨q, 2, none⟩ = some (.slice (some ⟨ga, 0, none⟩) len cpa) := by rw [← HL.out]; exact cU (i := 2) r16 rfl
      have z16 := fQ r16 2; go_simp; refine hK.out _ _ ((Xb.of_kp k16).set _ _) fun hH => ?_
      clear hK K; rw [tD] at o16; have RF := HS.out.repA tyD_ok (kT KW.out k16) (w3 := Y16) ⟨rfl, rfl, rfl, Nat.le_refl _, fun _ _ _ => rfl⟩ (L := L2) (gs' := gs.eraseIdx i) (by rw [← tD, List.length_append, HTI.out, HL2.out]) (bG o16 (by have := HS.out.bq; have := oZ HS.out.row; have := kS KW.out; omega)) (fun b e => .inr (by have := (o16.lt b e).1; have := kS KW.out; omega)) (fun g hg => .inl (List.mem_of_mem_eraseIdx hg)) (dis_erase HS.out.dis); refine dnW ?_ _
      go_wp2; go_ret; rw [HRES.out, if_neg (by rw [HDN.out]; decide)]; have hm : m.acts.eraseIdx i = (gs.eraseIdx i).map AcG.a := by rw [HS.out.acts, ← tD, ← tD]; simp [List.map_take, List.map_drop]
      rw [hm]; exact ⟨rfl, _, _, RF.1, RF.2⟩
    ·have g0 := kZ k1 e0; go_simp; refine hK.out _ _ (hH) fun hH => ?_
     clear hK K; refine tkP 15 ?_
     go_simp; refine rdW 5 fun K hK => ?_
     have g0 := kZ k1 e0; go_simp; refine hK.out _ _ (hH) fun hH => ?_
     clear hK K; refine tkP 7 ?_
     go_simp; refine wpAnyH_ready (rs := [8]) (by kernel_rfl) (by simp) ?_
     refine AllReadyH.consLG rfl (fun K hK => ?_) aN0
     have P1 := (PA.out).kp k1; go_simp; refine aG (E := acE) ty_acD (by decide) _ rfl _ _ rfl p1 _ _ [] rfl o1 _ (gs.take i) rfl P1 ?f1 ?f2 ?_
     case f1 => rw [HTI.out]; have := HI.out; have := H8.out; omega
     case f2 => exact z1
     rintro v8 Y8 o8 hg hb8; rw [Nat.zero_add, HTI.out, List.nil_append] at o8; obtain ⟨a8, c8, rfl⟩ := fG o8; have k8 : Kp W Y8 := Below.grown k1 hg (Below.size k1) (fun k hk => by have := (o1.lt k hk).1; omega); have z1 := Nat.le_trans z1 hg.size; refine hK.out _ _ (Xb.of_kp k8) fun hH => ?_
     clear hK K; clear hg hb8 P1; refine wpAnyH_ready (rs := [16]) (by kernel_rfl) (by simp) ?_
     refine AllReadyH.consLG rfl (fun K hK => ?_) aN0
     have P2 := (PB.out).kp k8; go_simp; refine aG (E := acE) ty_acD (by decide) _ rfl _ _ rfl p1 _ _ (gs.take i) rfl o8 _ (gs.drop (i + 1)) rfl P2 ?f3 ?f4 ?_
     case f3 => rw [List.length_drop]; have := HI.out; have := H8.out; omega
     case f4 => exact z1
     rintro v16 Y16 o16 hg hb16; rw [HL2.out] at o16; obtain ⟨a16, c16, rfl⟩ := fG o16; have k16 : Kp W Y16 := Below.grown k8 hg (Below.size k8) (fun k hk => by have := (o8.lt k hk).1; omega); refine hK.out _ _ (Xb.of_kp k16) fun hH => ?_
     clear hK K; clear hg hb16 P2; refine tkP 17 ?_
     go_simp; refine tkP 18 ?_
     go_simp; refine rdW 19 fun K hK => ?_
     have r16 := rZ (kT KW.out k16) HS.out.row; have q16 : Y16.cell? ⟨q, 2, none⟩ = some (.slice (some ⟨ga, 0, none⟩) len cpa) := by rw [← HL.out]; exact cU (i := 2) r16 rfl
     have z16 := fQ r16 2; go_simp; refine hK.out _ _ ((Xb.of_kp k16).set _ _) fun hH => ?_
     clear hK K; rw [tD] at o16; have RF := HS.out.repA tyD_ok (kT KW.out k16) (w3 := Y16) ⟨rfl, rfl, rfl, Nat.le_refl _, fun _ _ _ => rfl⟩ (L := L2) (gs' := gs.eraseIdx i) (by rw [← tD, List.length_append, HTI.out, HL2.out]) (bG o16 (by have := HS.out.bq; have := oZ HS.out.row; have := kS KW.out; omega)) (fun b e => .inr (by have := (o16.lt b e).1; have := kS KW.out; omega)) (fun g hg => .inl (List.mem_of_mem_eraseIdx hg)) (dis_erase HS.out.dis); refine dnW ?_ _
     go_wp2; go_ret; rw [HRES.out, if_neg (by rw [HDN.out]; decide)]; have hm : m.acts.eraseIdx i = (gs.eraseIdx i).map AcG.a := by rw [HS.out.acts, ← tD, ← tD]; simp [List.map_take, List.map_drop]
     rw [hm]; exact ⟨rfl, _, _, RF.1, RF.2⟩
   ·have g0 := kZ kR e0; go_simp; refine hK.out _ _ (hH) fun hH => ?_
    clear hK K; refine tkP 7 ?_
    go_simp; refine wpAnyH_ready (rs := [1, 12]) (by kernel_rfl) (by simp) ?_
    refine aC (fun K hK => ?_) (aC (fun K hK => ?_) aN0)
    ·go_simp; refine hK.out _ _ (Xb.kp hH (kA _ _)) fun hH => ?_
     clear hK K; obtain ⟨Y1, hY1⟩ : ∃ x, WR.alloc (.cells #[] 72) = x := ⟨_, rfl⟩
     have c1 : Kp WR Y1 := by rw [← hY1]; exact kA _ _
     have o1 : Y1.ownsRow WR.heap.size 72 8 (.slice (some ⟨WR.heap.size, 0, none⟩) 0 0) 0 (acE.row []) := by rw [← hY1]; exact ⟨by simp [EncG.row], Or.inr ⟨WR.heap.size, 0, #[], rfl, Nat.le_refl _, (mH WR _), Nat.le_refl _, by omega, by simp, by simp [EncG.row]⟩⟩
     obtain ⟨p1, hp1⟩ : ∃ x, WR.heap.size = x := ⟨_, rfl⟩
     have b1 : W.heap.size ≤ p1 := by rw [← hp1]; exact kS kR
     have k1 := kT kR c1; have z1 : p1 ≤ Y1.heap.size := by rw [← hp1]; exact kS c1
     rw [hp1] at o1; rw [hY1] at hH ⊢
     try rw [hp1]
     clear hY1 hp1 c1; refine wpAnyH_ready (rs := [8, 12]) (by kernel_rfl) (by simp) ?_
     refine AllReadyH.consLG rfl (fun K hK => ?_) (aC (fun K hK => ?_) aN0)
     ·have P1 := (PA.out).kp k1; go_simp; refine aG (E := acE) ty_acD (by decide) _ rfl _ _ rfl p1 _ _ [] rfl o1 _ (gs.take i) rfl P1 ?f1 ?f2 ?_
      case f1 => rw [HTI.out]; have := HI.out; have := H8.out; omega
      case f2 => exact z1
      rintro v8 Y8 o8 hg hb8; rw [Nat.zero_add, HTI.out, List.nil_append] at o8; obtain ⟨a8, c8, rfl⟩ := fG o8; have k8 : Kp W Y8 := Below.grown k1 hg (Below.size k1) (fun k hk => by have := (o1.lt k hk).1; omega); have z1 := Nat.le_trans z1 hg.size; refine hK.out _ _ (Xb.of_kp k8) fun hH => ?_
      clear hK K; clear hg hb8 P1; refine rdW 12 fun K hK => ?_
      have g0 := kZ k8 e0; go_simp; refine hK.out _ _ (hH) fun hH => ?_
      clear hK K; refine tkP 15 ?_
      go_simp; refine wpAnyH_ready (rs := [16]) (by kernel_rfl) (by simp) ?_
      refine AllReadyH.consLG rfl (fun K hK => ?_) aN0
      have P2 := (PB.out).kp k8; go_simp; refine aG (E := acE) ty_acD (by decide) _ rfl _ _ rfl p1 _ _ (gs.take i) rfl o8 _ (gs.drop (i + 1)) rfl P2 ?f3 ?f4 ?_
      case f3 => rw [List.length_drop]; have := HI.out; have := H8.out; omega
      case f4 => exact z1
      rintro v16 Y16 o16 hg hb16; rw [HL2.out] at o16; obtain ⟨a16, c16, rfl⟩ := fG o16; have k16 : Kp W Y16 := Below.grown k8 hg (Below.size k8) (fun k hk => by have := (o8.lt k hk).1; omega); refine hK.out _ _ (Xb.of_kp k16) fun hH => ?_
      clear hK K; clear hg hb16 P2; refine tkP 17 ?_
      go_simp; refine tkP 18 ?_
      go_simp; refine rdW 19 fun K hK => ?_
      have r16 := rZ (kT KW.out k16) HS.out.row; have q16 : Y16.cell? ⟨q, 2, none⟩ = some (.slice (some ⟨ga, 0, none⟩) len cpa) := by rw [← HL.out]; exact cU (i := 2) r16 rfl
      have z16 := fQ r16 2; go_simp; refine hK.out _ _ ((Xb.of_kp k16).set _ _) fun hH => ?_
      clear hK K; rw [tD] at o16; have RF := HS.out.repA tyD_ok (kT KW.out k16) (w3 := Y16) ⟨rfl, rfl, rfl, Nat.le_refl _, fun _ _ _ => rfl⟩ (L := L2) (gs' := gs.eraseIdx i) (by rw [← tD, List.length_append, HTI.out, HL2.out]) (bG o16 (by have := HS.out.bq; have := oZ HS.out.row; have := kS KW.out; omega)) (fun b e => .inr (by have := (o16.lt b e).1; have := kS KW.out; omega)) (fun g hg => .inl (List.mem_of_mem_eraseIdx hg)) (dis_erase HS.out.dis); refine dnW ?_ _
      go_wp2; go_ret; rw [HRES.out, if_neg (by rw [HDN.out]; decide)]; have hm : m.acts.eraseIdx i = (gs.eraseIdx i).map AcG.a := by rw [HS.out.acts, ← tD, ← tD]; simp [List.map_take, List.map_drop]
      rw [hm]; exact ⟨rfl, _, _, RF.1, RF.2⟩
     ·have g0 := kZ k1 e0; go_simp; refine hK.out _ _ (hH) fun hH => ?_
      clear hK K; refine tkP 15 ?_
      go_simp; refine wpAnyH_ready (rs := [8]) (by kernel_rfl) (by simp) ?_
      refine AllReadyH.consLG rfl (fun K hK => ?_) aN0
      have P1 := (PA.out).kp k1; go_simp; refine aG (E := acE) ty_acD (by decide) _ rfl _ _ rfl p1 _ _ [] rfl o1 _ (gs.take i) rfl P1 ?f1 ?f2 ?_
      case f1 => rw [HTI.out]; have := HI.out; have := H8.out; omega
      case f2 => exact z1
      rintro v8 Y8 o8 hg hb8; rw [Nat.zero_add, HTI.out, List.nil_append] at o8; obtain ⟨a8, c8, rfl⟩ := fG o8; have k8 : Kp W Y8 := Below.grown k1 hg (Below.size k1) (fun k hk => by have := (o1.lt k hk).1; omega); have z1 := Nat.le_trans z1 hg.size; refine hK.out _ _ (Xb.of_kp k8) fun hH => ?_
      clear hK K; clear hg hb8 P1; refine wpAnyH_ready (rs := [16]) (by kernel_rfl) (by simp) ?_
      refine AllReadyH.consLG rfl (fun K hK => ?_) aN0
      have P2 := (PB.out).kp k8; go_simp; refine aG (E := acE) ty_acD (by decide) _ rfl _ _ rfl p1 _ _ (gs.take i) rfl o8 _ (gs.drop (i + 1)) rfl P2 ?f3 ?f4 ?_
      case f3 => rw [List.length_drop]; have := HI.out; have := H8.out; omega
      case f4 => exact z1
      rintro v16 Y16 o16 hg hb16; rw [HL2.out] at o16; obtain ⟨a16, c16, rfl⟩ := fG o16; have k16 : Kp W Y16 := Below.grown k8 hg (Below.size k8) (fun k hk => by have := (o8.lt k hk).1; omega); refine hK.out _ _ (Xb.of_kp k16) fun hH => ?_
      clear hK K; clear hg hb16 P2; refine tkP 17 ?_
      go_simp; refine tkP 18 ?_
      go_simp; refine rdW 19 fun K hK => ?_
      have r16 := rZ (kT KW.out k16) HS.out.row; have q16 : Y16.cell? ⟨q, 2, none⟩ = some (.slice (some ⟨ga, 0, none⟩) len cpa) := by rw [← HL.out]; exact cU (i := 2) r16 rfl
      have z16 := fQ r16 2; go_simp; refine hK.out _ _ ((Xb.of_kp k16).set _ _) fun hH => ?_
      clear hK K; rw [tD] at o16; have RF := HS.out.repA tyD_ok (kT KW.out k16) (w3 := Y16) ⟨rfl, rfl, rfl, Nat.le_refl _, fun _ _ _ => rfl⟩ (L := L2) (gs' := gs.eraseIdx i) (by rw [← tD, List.length_append, HTI.out, HL2.out]) (bG o16 (by have := HS.out.bq; have := oZ HS.out.row; have := kS KW.out; omega)) (fun b e => .inr (by have := (o16.lt b e).1; have := kS KW.out; omega)) (fun g hg => .inl (List.mem_of_mem_eraseIdx hg)) (dis_erase HS.out.dis); refine dnW ?_ _
      go_wp2; go_ret; rw [HRES.out, if_neg (by rw [HDN.out]; decide)]; have hm : m.acts.eraseIdx i = (gs.eraseIdx i).map AcG.a := by rw [HS.out.acts, ← tD, ← tD]; simp [List.map_take, List.map_drop]
      rw [hm]; exact ⟨rfl, _, _, RF.1, RF.2⟩
    ·have g0 := kZ kR e0; go_simp; refine hK.out _ _ (hH) fun hH => ?_
     clear hK K; refine tkP 15 ?_
     go_simp; refine rdW 1 fun K hK => ?_
     go_simp; refine hK.out _ _ (Xb.kp hH (kA _ _)) fun hH => ?_
     clear hK K; obtain ⟨Y1, hY1⟩ : ∃ x, WR.alloc (.cells #[] 72) = x := ⟨_, rfl⟩
     have c1 : Kp WR Y1 := by rw [← hY1]; exact kA _ _
     have o1 : Y1.ownsRow WR.heap.size 72 8 (.slice (some ⟨WR.heap.size, 0, none⟩) 0 0) 0 (acE.row []) := by rw [← hY1]; exact ⟨by simp [EncG.row], Or.inr ⟨WR.heap.size, 0, #[], rfl, Nat.le_refl _, (mH WR _), Nat.le_refl _, by omega, by simp, by simp [EncG.row]⟩⟩
     obtain ⟨p1, hp1⟩ : ∃ x, WR.heap.size = x := ⟨_, rfl⟩
     have b1 : W.heap.size ≤ p1 := by rw [← hp1]; exact kS kR
     have k1 := kT kR c1; have z1 : p1 ≤ Y1.heap.size := by rw [← hp1]; exact kS c1
     rw [hp1] at o1; rw [hY1] at hH ⊢
     try rw [hp1]
     clear hY1 hp1 c1; refine wpAnyH_ready (rs := [8]) (by kernel_rfl) (by simp) ?_
     refine AllReadyH.consLG rfl (fun K hK => ?_) aN0
     have P1 := (PA.out).kp k1; go_simp; refine aG (E := acE) ty_acD (by decide) _ rfl _ _ rfl p1 _ _ [] rfl o1 _ (gs.take i) rfl P1 ?f1 ?f2 ?_
     case f1 => rw [HTI.out]; have := HI.out; have := H8.out; omega
     case f2 => exact z1
     rintro v8 Y8 o8 hg hb8; rw [Nat.zero_add, HTI.out, List.nil_append] at o8; obtain ⟨a8, c8, rfl⟩ := fG o8; have k8 : Kp W Y8 := Below.grown k1 hg (Below.size k1) (fun k hk => by have := (o1.lt k hk).1; omega); have z1 := Nat.le_trans z1 hg.size; refine hK.out _ _ (Xb.of_kp k8) fun hH => ?_
     clear hK K; clear hg hb8 P1; refine wpAnyH_ready (rs := [16]) (by kernel_rfl) (by simp) ?_
     refine AllReadyH.consLG rfl (fun K hK => ?_) aN0
     have P2 := (PB.out).kp k8; go_simp; refine aG (E := acE) ty_acD (by decide) _ rfl _ _ rfl p1 _ _ (gs.take i) rfl o8 _ (gs.drop (i + 1)) rfl P2 ?f3 ?f4 ?_
     case f3 => rw [List.length_drop]; have := HI.out; have := H8.out; omega
     case f4 => exact z1
     rintro v16 Y16 o16 hg hb16; rw [HL2.out] at o16; obtain ⟨a16, c16, rfl⟩ := fG o16; have k16 : Kp W Y16 := Below.grown k8 hg (Below.size k8) (fun k hk => by have := (o8.lt k hk).1; omega); refine hK.out _ _ (Xb.of_kp k16) fun hH => ?_
     clear hK K; clear hg hb16 P2; refine tkP 17 ?_
     go_simp; refine tkP 18 ?_
     go_simp; refine rdW 19 fun K hK => ?_
     have r16 := rZ (kT KW.out k16) HS.out.row; have q16 : Y16.cell? ⟨q, 2, none⟩ = some (.slice (some ⟨ga, 0, none⟩) len cpa) := by rw [← HL.out]; exact cU (i := 2) r16 rfl
     have z16 := fQ r16 2; go_simp; refine hK.out _ _ ((Xb.of_kp k16).set _ _) fun hH => ?_
     clear hK K; rw [tD] at o16; have RF := HS.out.repA tyD_ok (kT KW.out k16) (w3 := Y16) ⟨rfl, rfl, rfl, Nat.le_refl _, fun _ _ _ => rfl⟩ (L := L2) (gs' := gs.eraseIdx i) (by rw [← tD, List.length_append, HTI.out, HL2.out]) (bG o16 (by have := HS.out.bq; have := oZ HS.out.row; have := kS KW.out; omega)) (fun b e => .inr (by have := (o16.lt b e).1; have := kS KW.out; omega)) (fun g hg => .inl (List.mem_of_mem_eraseIdx hg)) (dis_erase HS.out.dis); refine dnW ?_ _
     go_wp2; go_ret; rw [HRES.out, if_neg (by rw [HDN.out]; decide)]; have hm : m.acts.eraseIdx i = (gs.eraseIdx i).map AcG.a := by rw [HS.out.acts, ← tD, ← tD]; simp [List.map_take, List.map_drop]
     rw [hm]; exact ⟨rfl, _, _, RF.1, RF.2⟩
   ·have g0 := kZ kR e0; go_simp; refine hK.out _ _ (hH) fun hH => ?_
    clear hK K; refine tkP 15 ?_
    go_simp; refine wpAnyH_ready (rs := [1, 5]) (by kernel_rfl) (by simp) ?_
    refine aC (fun K hK => ?_) (aC (fun K hK => ?_) aN0)
    ·go_simp; refine hK.out _ _ (Xb.kp hH (kA _ _)) fun hH => ?_
     clear hK K; obtain ⟨Y1, hY1⟩ : ∃ x, WR.alloc (.cells #[] 72) = x := ⟨_, rfl⟩
     have c1 : Kp WR Y1 := by rw [← hY1]; exact kA _ _
     have o1 : Y1.ownsRow WR.heap.size 72 8 (.slice (some ⟨WR.heap.size, 0, none⟩) 0 0) 0 (acE.row []) := by rw [← hY1]; exact ⟨by simp [EncG.row], Or.inr ⟨WR.heap.size, 0, #[], rfl, Nat.le_refl _, (mH WR _), Nat.le_refl _, by omega, by simp, by simp [EncG.row]⟩⟩
     obtain ⟨p1, hp1⟩ : ∃ x, WR.heap.size = x := ⟨_, rfl⟩
     have b1 : W.heap.size ≤ p1 := by rw [← hp1]; exact kS kR
     have k1 := kT kR c1; have z1 : p1 ≤ Y1.heap.size := by rw [← hp1]; exact kS c1
     rw [hp1] at o1; rw [hY1] at hH ⊢
     try rw [hp1]
     clear hY1 hp1 c1; refine rdW 5 fun K hK => ?_
     have g0 := kZ k1 e0; go_simp; refine hK.out _ _ (hH) fun hH => ?_
     clear hK K; refine tkP 7 ?_
     go_simp; refine wpAnyH_ready (rs := [8]) (by kernel_rfl) (by simp) ?_
     refine AllReadyH.consLG rfl (fun K hK => ?_) aN0
     have P1 := (PA.out).kp k1; go_simp; refine aG (E := acE) ty_acD (by decide) _ rfl _ _ rfl p1 _ _ [] rfl o1 _ (gs.take i) rfl P1 ?f1 ?f2 ?_
     case f1 => rw [HTI.out]; have := HI.out; have := H8.out; omega
     case f2 => exact z1
     rintro v8 Y8 o8 hg hb8; rw [Nat.zero_add, HTI.out, List.nil_append] at o8; obtain ⟨a8, c8, rfl⟩ := fG o8; have k8 : Kp W Y8 := Below.grown k1 hg (Below.size k1) (fun k hk => by have := (o1.lt k hk).1; omega); have z1 := Nat.le_trans z1 hg.size; refine hK.out _ _ (Xb.of_kp k8) fun hH => ?_
     clear hK K; clear hg hb8 P1; refine wpAnyH_ready (rs := [16]) (by kernel_rfl) (by simp) ?_
     refine AllReadyH.consLG rfl (fun K hK => ?_) aN0
     have P2 := (PB.out).kp k8; go_simp; refine aG (E := acE) ty_acD (by decide) _ rfl _ _ rfl p1 _ _ (gs.take i) rfl o8 _ (gs.drop (i + 1)) rfl P2 ?f3 ?f4 ?_
     case f3 => rw [List.length_drop]; have := HI.out; have := H8.out; omega
     case f4 => exact z1
     rintro v16 Y16 o16 hg hb16; rw [HL2.out] at o16; obtain ⟨a16, c16, rfl⟩ := fG o16; have k16 : Kp W Y16 := Below.grown k8 hg (Below.size k8) (fun k hk => by have := (o8.lt k hk).1; omega); refine hK.out _ _ (Xb.of_kp k16) fun hH => ?_
     clear hK K; clear hg hb16 P2; refine tkP 17 ?_
     go_simp; refine tkP 18 ?_
     go_simp; refine rdW 19 fun K hK => ?_
     have r16 := rZ (kT KW.out k16) HS.out.row; have q16 : Y16.cell? ⟨q, 2, none⟩ = some (.slice (some ⟨ga, 0, none⟩) len cpa) := by rw [← HL.out]; exact cU (i := 2) r16 rfl
     have z16 := fQ r16 2; go_simp; refine hK.out _ _ ((Xb.of_kp k16).set _ _) fun hH => ?_
     clear hK K; rw [tD] at o16; have RF := HS.out.repA tyD_ok (kT KW.out k16) (w3 := Y16) ⟨rfl, rfl, rfl, Nat.le_refl _, fun _ _ _ => rfl⟩ (L := L2) (gs' := gs.eraseIdx i) (by rw [← tD, List.length_append, HTI.out, HL2.out]) (bG o16 (by have := HS.out.bq; have := oZ HS.out.row; have := kS KW.out; omega)) (fun b e => .inr (by have := (o16.lt b e).1; have := kS KW.out; omega)) (fun g hg => .inl (List.mem_of_mem_eraseIdx hg)) (dis_erase HS.out.dis); refine dnW ?_ _
     go_wp2; go_ret; rw [HRES.out, if_neg (by rw [HDN.out]; decide)]; have hm : m.acts.eraseIdx i = (gs.eraseIdx i).map AcG.a := by rw [HS.out.acts, ← tD, ← tD]; simp [List.map_take, List.map_drop]
     rw [hm]; exact ⟨rfl, _, _, RF.1, RF.2⟩
    ·have g0 := kZ kR e0; go_simp; refine hK.out _ _ (hH) fun hH => ?_
     clear hK K; refine tkP 7 ?_
     go_simp; refine rdW 1 fun K hK => ?_
     go_simp; refine hK.out _ _ (Xb.kp hH (kA _ _)) fun hH => ?_
     clear hK K; obtain ⟨Y1, hY1⟩ : ∃ x, WR.alloc (.cells #[] 72) = x := ⟨_, rfl⟩
     have c1 : Kp WR Y1 := by rw [← hY1]; exact kA _ _
     have o1 : Y1.ownsRow WR.heap.size 72 8 (.slice (some ⟨WR.heap.size, 0, none⟩) 0 0) 0 (acE.row []) := by rw [← hY1]; exact ⟨by simp [EncG.row], Or.inr ⟨WR.heap.size, 0, #[], rfl, Nat.le_refl _, (mH WR _), Nat.le_refl _, by omega, by simp, by simp [EncG.row]⟩⟩
     obtain ⟨p1, hp1⟩ : ∃ x, WR.heap.size = x := ⟨_, rfl⟩
     have b1 : W.heap.size ≤ p1 := by rw [← hp1]; exact kS kR
     have k1 := kT kR c1; have z1 : p1 ≤ Y1.heap.size := by rw [← hp1]; exact kS c1
     rw [hp1] at o1; rw [hY1] at hH ⊢
     try rw [hp1]
     clear hY1 hp1 c1; refine wpAnyH_ready (rs := [8]) (by kernel_rfl) (by simp) ?_
     refine AllReadyH.consLG rfl (fun K hK => ?_) aN0
     have P1 := (PA.out).kp k1; go_simp; refine aG (E := acE) ty_acD (by decide) _ rfl _ _ rfl p1 _ _ [] rfl o1 _ (gs.take i) rfl P1 ?f1 ?f2 ?_
     case f1 => rw [HTI.out]; have := HI.out; have := H8.out; omega
     case f2 => exact z1
     rintro v8 Y8 o8 hg hb8; rw [Nat.zero_add, HTI.out, List.nil_append] at o8; obtain ⟨a8, c8, rfl⟩ := fG o8; have k8 : Kp W Y8 := Below.grown k1 hg (Below.size k1) (fun k hk => by have := (o1.lt k hk).1; omega); have z1 := Nat.le_trans z1 hg.size; refine hK.out _ _ (Xb.of_kp k8) fun hH => ?_
     clear hK K; clear hg hb8 P1; refine wpAnyH_ready (rs := [16]) (by kernel_rfl) (by simp) ?_
     refine AllReadyH.consLG rfl (fun K hK => ?_) aN0
     have P2 := (PB.out).kp k8; go_simp; refine aG (E := acE) ty_acD (by decide) _ rfl _ _ rfl p1 _ _ (gs.take i) rfl o8 _ (gs.drop (i + 1)) rfl P2 ?f3 ?f4 ?_
     case f3 => rw [List.length_drop]; have := HI.out; have := H8.out; omega
     case f4 => exact z1
     rintro v16 Y16 o16 hg hb16; rw [HL2.out] at o16; obtain ⟨a16, c16, rfl⟩ := fG o16; have k16 : Kp W Y16 := Below.grown k8 hg (Below.size k8) (fun k hk => by have := (o8.lt k hk).1; omega); refine hK.out _ _ (Xb.of_kp k16) fun hH => ?_
     clear hK K; clear hg hb16 P2; refine tkP 17 ?_
     go_simp; refine tkP 18 ?_
     go_simp; refine rdW 19 fun K hK => ?_
     have r16 := rZ (kT KW.out k16) HS.out.row; have q16 : Y16.cell? ⟨q, 2, none⟩ = some (.slice (some ⟨ga, 0, none⟩) len cpa) := by rw [← HL.out]; exact cU (i := 2) r16 rfl
     have z16 := fQ r16 2; go_simp; refine hK.out _ _ ((Xb.of_kp k16).set _ _) fun hH => ?_
     clear hK K; rw [tD] at o16; have RF := HS.out.repA tyD_ok (kT KW.out k16) (w3 := Y16) ⟨rfl, rfl, rfl, Nat.le_refl _, fun _ _ _ => rfl⟩ (L := L2) (gs' := gs.eraseIdx i) (by rw [← tD, List.length_append, HTI.out, HL2.out]) (bG o16 (by have := HS.out.bq; have := oZ HS.out.row; have := kS KW.out; omega)) (fun b e => .inr (by have := (o16.lt b e).1; have := kS KW.out; omega)) (fun g hg => .inl (List.mem_of_mem_eraseIdx hg)) (dis_erase HS.out.dis); refine dnW ?_ _
     go_wp2; go_ret; rw [HRES.out, if_neg (by rw [HDN.out]; decide)]; have hm : m.acts.eraseIdx i = (gs.eraseIdx i).map AcG.a := by rw [HS.out.acts, ← tD, ← tD]; simp [List.map_take, List.map_drop]
     rw [hm]; exact ⟨rfl, _, _, RF.1, RF.2⟩
end Go.Proofs.YtlmlmhmhgdjhnaaGreatDoor
