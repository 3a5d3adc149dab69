/- Parts of this proof (own work). -/
import Derived.Test.YtlmlmhmhgdjhnaaGreatDoorZa19
set_option maxRecDepth 100000
set_option maxHeartbeats 40000000
namespace Go.Proofs.YtlmlmhmhgdjhnaaGreatDoor
open Go.RowKit Go.ChangeShapes Go.WideShapes
variable {w0 w w' W w3 : World} {B q : Nat} {m : StM} {gs : List AcG} {va vp : Value}
theorem any_place {α : Type} {p : α → Bool} {l : List α} : l.any p = decide (placeQ (l.findIdx? p) ≥ 0) := by
 cases h : l.findIdx? p with
 | none =>
  rw [List.findIdx?_eq_none_iff] at h; have : l.any p = false := by rw [List.any_eq_false]; intro x hx; rw [h x hx]; decide
  rw [this]
  simp [placeQ]
 | some i =>
  obtain ⟨hi, h1, -⟩ := List.findIdx?_eq_some_iff_getElem.1 h; have : l.any p = true := List.any_eq_true.2 ⟨l[i], List.getElem_mem hi, h1⟩; rw [this]
  simp [placeQ]
theorem cloDup (yn yp y1 y2 y3 y4 : Int) (fk : Int) (fn fs fr fe fp fq fo fd fa ft fh fc : Int) (fx : Nat) {bf : Nat} (rf : w.heap[bf]? = some (.cells #[fk, fn, fs, fr, fe, fp, fq, fo, fd, fa, ft, fh, fc, fx] 87)) : Calls Tryz.prog 183 #[.agg #[yn, yp, y1, y2, y3, y4], .pointer (some ⟨bf, 0, none⟩)] w fun r w' => r = .returned (.bool (decide (yn = fe ∧ yp = fp))) ∧ Kp w w' := by
 have d0 : (w.alloc (.cells #[yn, yp, y1, y2, y3, y4] 96)).cell? ⟨w.heap.size, 0, none⟩ = some (.int .i64 yn) := cU (i := 0) (mH w (.cells #[yn, yp, y1, y2, y3, y4] 96)) rfl; have d1 : (w.alloc (.cells #[yn, yp, y1, y2, y3, y4] 96)).cell? ⟨w.heap.size, 1, none⟩ = some (.int .i64 yp) := cU (i := 1) (mH w (.cells #[yn, yp, y1, y2, y3, y4] 96)) rfl; have c4 : (w.alloc (.cells #[yn, yp, y1, y2, y3, y4] 96)).cell? ⟨bf, 4, none⟩ = some (.int .i64 fe) := kZ (kA _ _) (cU (i := 4) rf rfl); have c5 : (w.alloc (.cells #[yn, yp, y1, y2, y3, y4] 96)).cell? ⟨bf, 5, none⟩ = some (.int .i64 fp) := kZ (kA _ _) (cU (i := 5) rf rfl); have KA := hD (kA w (.cells #[yn, yp, y1, y2, y3, y4] 96)); clear rf
 by_cases h1 : yn = fe
 ·subst h1; have g : decide (yn = yn ∧ yp = fp) = (yp == fp) := by by_cases h : yp = fp <;> simp [h]
  rw [g]; obtain ⟨tb, htb⟩ : ∃ x, (yp == fp) = x := ⟨_, rfl⟩
  rw [htb]; clear g; go_enter Tryz.func183, Tryz.ntmps183; go_wp2; go_ret; exact ⟨rfl, KA.out⟩
 ·have g : decide (yn = fe ∧ yp = fp) = false := dF (fun e => h1 e.1); have g1 : (yn == fe) = false := by simpa using h1
  rw [g]; clear g h1; go_enter Tryz.func183, Tryz.ntmps183; go_wp2; go_ret; exact ⟨rfl, KA.out⟩
theorem cloEnd (yn yp y1 y2 y3 y4 : Int) (w : World) : Calls Tryz.prog 188 #[.agg #[yn, yp, y1, y2, y3, y4]] w fun r w' => r = .returned (.bool (decide (y3 ≠ 14))) ∧ Kp w w' := by
 have d4 : (w.alloc (.cells #[yn, yp, y1, y2, y3, y4] 96)).cell? ⟨w.heap.size, 4, none⟩ = some (.int .i64 y3) := cU (i := 4) (mH w (.cells #[yn, yp, y1, y2, y3, y4] 96)) rfl; have KA := hD (kA w (.cells #[yn, yp, y1, y2, y3, y4] 96))
 by_cases h1 : y3 = 14
 ·subst h1; go_enter Tryz.func188, Tryz.ntmps188; go_wp2; go_ret; exact ⟨rfl, KA.out⟩
 ·rw [dT h1]; have g1 : (y3 == 14) = false := by simpa using h1
  have g2 : (y3 != 14) = true := by simp [h1]
  clear h1; go_enter Tryz.func188, Tryz.ntmps188; go_wp2; go_ret; exact ⟨rfl, KA.out⟩
theorem ixrDup {a0 : Option Addr} {c0 len : Nat} {xr : List RgM} (ow : w.ownsRow B 96 6 (.slice a0 len c0) len (rgE.row xr)) (hl : xr.length = len) (h8 : len ≤ 8) (fk : Int) (fn fs fr fe fp fq fo fd fa ft fh fc : Int) (fx : Nat) {bf : Nat} (rf : w.heap[bf]? = some (.cells #[fk, fn, fs, fr, fe, fp, fq, fo, fd, fa, ft, fh, fc, fx] 87)) :
  Calls Tryz.prog 129 #[.slice a0 len c0, .func (.func 183) #[] #[.pointer (some ⟨bf, 0, none⟩)]] w fun r w' => r = .returned (.int .i64 (placeQ (xr.findIdx? (fun g => decide (g.node = fe ∧ g.part = fp))))) ∧ Kp w w' := by
 obtain ⟨RS, hRS⟩ : ∃ R, placeQ (xr.findIdx? (fun g => decide (g.node = fe ∧ g.part = fp))) = R := ⟨_, rfl⟩
 rw [hRS]; have HRS := hD hRS; obtain ⟨L, hL⟩ : ∃ L : Int, (len : Int) = L := ⟨_, rfl⟩
 obtain ⟨HL, H8, HO, RF⟩ := hD4 hl h8 ow rf; clear hRS ow hl h8 rf; go_enter Tryz.func129, Tryz.ntmps129; go_wp2; go_loopw [8] (fun i wr => ∃ j : Nat, j ≤ len ∧ i = .int .i64 j ∧ (∀ k (hk : k < xr.length), k < j → ¬ (fun g : RgM => g.node = fe ∧ g.part = fp) xr[k]) ∧ Kp w wr) (fun i _ => len - (intOf i).toNat)
 case atStart => exact ⟨0, Nat.zero_le _, rfl, fun k _ h => by omega, Kp.refl _⟩
 case round =>
  obtain ⟨j, hj, rfl, hq, hk⟩ := hrel; obtain ⟨KR, HQ⟩ := hD2 hk hq; obtain ⟨jj, hjj⟩ : ∃ jj : Int, (j : Int) = jj := ⟨_, rfl⟩
  rw [hjj]; have HJ := hD hjj
  by_cases hlt : j < len
  ·have hjl : jj < L := by omega
   have hj0 : 0 ≤ jj := by omega
   have hL8 : L ≤ 8 := by have := H8.out; omega
   have htn : jj.toNat = j := by omega
   have hjo : j < xr.length := by have := HL.out; omega
   obtain ⟨gr, ck, exb, hck, hgrB, hgrl, hfzr, hcr⟩ := cQ (E := rgE) (oK HO.out hk) HL.out hlt; obtain ⟨⟨yn, yp, ⟨y1, y2, y3, y4⟩⟩, hy⟩ : ∃ r, xr[j]'hjo = r := ⟨_, rfl⟩
   have hcr2 : ∀ (i : Nat) (u : Value), i < rgE.k → (rgE.enc (xr[j]'hjo))[i]? = some u → wr.cell? ⟨gr, j * rgE.k + i, none⟩ = some u := hcr; rw [hy, show rgE.k = 6 from rfl, ← htn] at hcr2; have exb := congrArg (fun v => match v with | Value.slice a _ _ => a | _ => none) exb; dsimp only at exb; subst exb; obtain ⟨c0, c1, c2, c3, c4, c5⟩ := cW6 hcr2; have HCL := hD (cloDup yn yp y1 y2 y3 y4 fk fn fs fr fe fp fq fo fd fa ft fh fc fx (rZ hk RF.out)); obtain ⟨HLT, HY⟩ := hD2 hlt hy
   by_cases he : yn = fe ∧ yp = fp
   ·have HF : Hid (placeQ (xr.findIdx? (fun g => decide (g.node = fe ∧ g.part = fp))) = jj) := hD (by
     rw [fi_at (p := (fun g : RgM => decide (g.node = fe ∧ g.part = fp))) hjo (fun i hi hij => dF (hq i hi hij)) (by show decide _ = true; rw [hy]; exact dT he)]; exact hjj)
    have hd : decide (yn = fe ∧ yp = fp) = true := dT he; rw [hd] at HCL; clear hcr hcr2 hy hk hq hjj hj hlt he htn hd hck hgrB hgrl hfzr; go_wp2_with (go_at_call 183; (with_reducible refine HCL.out.mono ?_); rintro e' w5 ⟨rfl, hk5⟩; have K5 := hD (kT KR.out hk5); clear hk5)
    go_ret; refine ⟨?_, K5.out⟩
    rw [← HRS.out, HF.out]
    rfl
   ·have HE := hD he; have hd : decide (yn = fe ∧ yp = fp) = false := dF he; rw [hd] at HCL; have hw1 : wrap64 (jj + 1) = jj + 1 := IntWalk.wrap64_in _ (by omega); clear hcr hcr2 hy hk hq hjj hj hlt he htn hd hck hgrB hgrl hfzr; go_wp2_with (go_at_call 183; (with_reducible refine HCL.out.mono ?_); rintro e' w5 ⟨rfl, hk5⟩; have K5 := hD (kT KR.out hk5); clear hk5)
    go_roundw
    case rel => exact ⟨j + 1, by have := HLT.out; omega, by have := HJ.out; rw [show ((j + 1 : Nat) : Int) = jj + 1 by omega], fun k hk hk2 => by
     rcases Nat.lt_or_eq_of_le (Nat.le_of_lt_succ hk2) with g | rfl
     ·exact HQ.out k hk g
     ·rw [HY.out]; exact HE.out, K5.out⟩
    case measure => have := HJ.out; have := HLT.out; simp [intOf]; omega
  ·have hje : ¬ jj < L := by omega
   have HN := hD (fi_no (p := (fun g : RgM => decide (g.node = fe ∧ g.part = fp))) (l := xr) (fun i hi => dF (hq i hi (by have := HL.out; omega)))); clear hk hq hjj hj hlt; go_wp2; go_ret; refine ⟨?_, KR.out⟩
   rw [← HRS.out, HN.out]
   rfl
theorem conDup {a0 : Option Addr} {c0 len : Nat} {xr : List RgM} (ow : w.ownsRow B 96 6 (.slice a0 len c0) len (rgE.row xr)) (hl : xr.length = len) (h8 : len ≤ 8) (fk : Int) (fn fs fr fe fp fq fo fd fa ft fh fc : Int) (fx : Nat) {bf : Nat} (rf : w.heap[bf]? = some (.cells #[fk, fn, fs, fr, fe, fp, fq, fo, fd, fa, ft, fh, fc, fx] 87)) :
  Calls Tryz.prog 126 #[.slice a0 len c0, .func (.func 183) #[] #[.pointer (some ⟨bf, 0, none⟩)]] w fun r w' => r = .returned (.bool (xr.any (fun g => decide (g.node = fe ∧ g.part = fp)))) ∧ Kp w w' := by
 have hix := ixrDup ow hl h8 fk fn fs fr fe fp fq fo fd fa ft fh fc fx rf; rw [any_place]; obtain ⟨pq, hpq⟩ : ∃ x, placeQ (xr.findIdx? (fun g => decide (g.node = fe ∧ g.part = fp))) = x := ⟨_, rfl⟩
 rw [hpq] at hix ⊢; obtain ⟨tb, htb⟩ : ∃ b, decide (pq ≥ 0) = b := ⟨_, rfl⟩
 rw [htb]; have HIX := hD hix; clear ow hl h8 hix hpq rf; go_enter Tryz.func126, Tryz.ntmps126; go_wp2_with (go_at_call 129; (with_reducible refine HIX.out.mono ?_); rintro e' w5 ⟨rfl, hk5⟩)
 go_ret; exact ⟨rfl, hk5⟩
theorem ixrEnd {a0 : Option Addr} {c0 len : Nat} {xr : List RgM} (ow : w.ownsRow B 96 6 (.slice a0 len c0) len (rgE.row xr)) (hl : xr.length = len) (h8 : len ≤ 8)  :
  Calls Tryz.prog 129 #[.slice a0 len c0, .func (.func 188) #[] #[]] w fun r w' => r = .returned (.int .i64 (placeQ (xr.findIdx? (fun g => decide (g.z.s ≠ 14))))) ∧ Kp w w' := by
 obtain ⟨RS, hRS⟩ : ∃ R, placeQ (xr.findIdx? (fun g => decide (g.z.s ≠ 14))) = R := ⟨_, rfl⟩
 rw [hRS]; have HRS := hD hRS; obtain ⟨L, hL⟩ : ∃ L : Int, (len : Int) = L := ⟨_, rfl⟩
 obtain ⟨HL, H8, HO⟩ := hD3 hl h8 ow; clear hRS ow hl h8 ; go_enter Tryz.func129, Tryz.ntmps129; go_wp2; go_loopw [8] (fun i wr => ∃ j : Nat, j ≤ len ∧ i = .int .i64 j ∧ (∀ k (hk : k < xr.length), k < j → ¬ (fun g : RgM => g.z.s ≠ 14) xr[k]) ∧ Kp w wr) (fun i _ => len - (intOf i).toNat)
 case atStart => exact ⟨0, Nat.zero_le _, rfl, fun k _ h => by omega, Kp.refl _⟩
 case round =>
  obtain ⟨j, hj, rfl, hq, hk⟩ := hrel; obtain ⟨KR, HQ⟩ := hD2 hk hq; obtain ⟨jj, hjj⟩ : ∃ jj : Int, (j : Int) = jj := ⟨_, rfl⟩
  rw [hjj]; have HJ := hD hjj
  by_cases hlt : j < len
  ·have hjl : jj < L := by omega
   have hj0 : 0 ≤ jj := by omega
   have hL8 : L ≤ 8 := by have := H8.out; omega
   have htn : jj.toNat = j := by omega
   have hjo : j < xr.length := by have := HL.out; omega
   obtain ⟨gr, ck, exb, hck, hgrB, hgrl, hfzr, hcr⟩ := cQ (E := rgE) (oK HO.out hk) HL.out hlt; obtain ⟨⟨yn, yp, ⟨y1, y2, y3, y4⟩⟩, hy⟩ : ∃ r, xr[j]'hjo = r := ⟨_, rfl⟩
   have hcr2 : ∀ (i : Nat) (u : Value), i < rgE.k → (rgE.enc (xr[j]'hjo))[i]? = some u → wr.cell? ⟨gr, j * rgE.k + i, none⟩ = some u := hcr; rw [hy, show rgE.k = 6 from rfl, ← htn] at hcr2; have exb := congrArg (fun v => match v with | Value.slice a _ _ => a | _ => none) exb; dsimp only at exb; subst exb; obtain ⟨c0, c1, c2, c3, c4, c5⟩ := cW6 hcr2; have HCL := hD (cloEnd yn yp y1 y2 y3 y4 wr); obtain ⟨HLT, HY⟩ := hD2 hlt hy
   by_cases he : y3 ≠ 14
   ·have HF : Hid (placeQ (xr.findIdx? (fun g => decide (g.z.s ≠ 14))) = jj) := hD (by
     rw [fi_at (p := (fun g : RgM => decide (g.z.s ≠ 14))) hjo (fun i hi hij => dF (hq i hi hij)) (by show decide _ = true; rw [hy]; exact dT he)]; exact hjj)
    have hd : decide (y3 ≠ 14) = true := dT he; rw [hd] at HCL; clear hcr hcr2 hy hk hq hjj hj hlt he htn hd hck hgrB hgrl hfzr; go_wp2_with (go_at_call 188; (with_reducible refine HCL.out.mono ?_); rintro e' w5 ⟨rfl, hk5⟩; have K5 := hD (kT KR.out hk5); clear hk5)
    go_ret; refine ⟨?_, K5.out⟩
    rw [← HRS.out, HF.out]
    rfl
   ·have HE := hD he; have hd : decide (y3 ≠ 14) = false := dF he; rw [hd] at HCL; have hw1 : wrap64 (jj + 1) = jj + 1 := IntWalk.wrap64_in _ (by omega); clear hcr hcr2 hy hk hq hjj hj hlt he htn hd hck hgrB hgrl hfzr; go_wp2_with (go_at_call 188; (with_reducible refine HCL.out.mono ?_); rintro e' w5 ⟨rfl, hk5⟩; have K5 := hD (kT KR.out hk5); clear hk5)
    go_roundw
    case rel => exact ⟨j + 1, by have := HLT.out; omega, by have := HJ.out; rw [show ((j + 1 : Nat) : Int) = jj + 1 by omega], fun k hk hk2 => by
     rcases Nat.lt_or_eq_of_le (Nat.le_of_lt_succ hk2) with g | rfl
     ·exact HQ.out k hk g
     ·rw [HY.out]; exact HE.out, K5.out⟩
    case measure => have := HJ.out; have := HLT.out; simp [intOf]; omega
  ·have hje : ¬ jj < L := by omega
   have HN := hD (fi_no (p := (fun g : RgM => decide (g.z.s ≠ 14))) (l := xr) (fun i hi => dF (hq i hi (by have := HL.out; omega)))); clear hk hq hjj hj hlt; go_wp2; go_ret; refine ⟨?_, KR.out⟩
   rw [← HRS.out, HN.out]
   rfl
theorem conEnd {a0 : Option Addr} {c0 len : Nat} {xr : List RgM} (ow : w.ownsRow B 96 6 (.slice a0 len c0) len (rgE.row xr)) (hl : xr.length = len) (h8 : len ≤ 8)  :
  Calls Tryz.prog 126 #[.slice a0 len c0, .func (.func 188) #[] #[]] w fun r w' => r = .returned (.bool (xr.any (fun g => decide (g.z.s ≠ 14)))) ∧ Kp w w' := by
 have hix := ixrEnd ow hl h8; rw [any_place]; obtain ⟨pq, hpq⟩ : ∃ x, placeQ (xr.findIdx? (fun g => decide (g.z.s ≠ 14))) = x := ⟨_, rfl⟩
 rw [hpq] at hix ⊢; obtain ⟨tb, htb⟩ : ∃ b, decide (pq ≥ 0) = b := ⟨_, rfl⟩
 rw [htb]; have HIX := hD hix; clear ow hl h8 hix hpq ; go_enter Tryz.func126, Tryz.ntmps126; go_wp2_with (go_at_call 129; (with_reducible refine HIX.out.mono ?_); rintro e' w5 ⟨rfl, hk5⟩)
 go_ret; exact ⟨rfl, hk5⟩
end Go.Proofs.YtlmlmhmhgdjhnaaGreatDoor
