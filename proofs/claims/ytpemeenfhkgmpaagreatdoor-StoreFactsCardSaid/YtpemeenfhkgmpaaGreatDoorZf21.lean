/- Parts of this proof (own work). -/
import Derived.Test.YtpemeenfhkgmpaaGreatDoorZf20
import Derived.Laws.Rows
set_option maxRecDepth 100000
set_option maxHeartbeats 40000000
namespace Go.Proofs.YtpemeenfhkgmpaaGreatDoor
open Go.RowKit Go.ChangeShapes Go.WideShapes
def tyL : TyQ := ⟨81, 65, 75, 69⟩
theorem tyL_ok : tyL.Ok := ⟨by decide, by decide, by decide, by decide, by decide, by decide⟩
variable {w0 w w' W w3 : World} {B q : Nat} {m : StM} {gs : List AcG} {va vp : Value}
theorem cloFind (xn xs xo xd : Int) (xx : Nat) (xp xc : Int) (av : Option Addr) (nv cv : Nat) (b : Nat) (n s : Int) (hb : w.heap[b]? = some (.cells #[n, s] 36 (0, 0))) : Calls Tryz.prog 57 #[.agg #[xn, xs, xo, xd, xx, xp, xc, .slice av nv cv], .pointer (some ⟨b, 0, none⟩)] w fun r w' => r = .returned (.bool (decide (xn = n ∧ xs = s))) ∧ Kp w w' := by
 have y0 : (w.alloc (.cells #[xn, xs, xo, xd, xx, xp, xc, .slice av nv cv] 65)).cell? ⟨w.heap.size, 0, none⟩ = some (.int .i64 xn) := cU (i := 0) (mH w (.cells #[xn, xs, xo, xd, xx, xp, xc, .slice av nv cv] 65)) rfl; have y1 : (w.alloc (.cells #[xn, xs, xo, xd, xx, xp, xc, .slice av nv cv] 65)).cell? ⟨w.heap.size, 1, none⟩ = some (.int .i64 xs) := cU (i := 1) (mH w (.cells #[xn, xs, xo, xd, xx, xp, xc, .slice av nv cv] 65)) rfl; have c0 : (w.alloc (.cells #[xn, xs, xo, xd, xx, xp, xc, .slice av nv cv] 65)).cell? ⟨b, 0, none⟩ = some (.int .i64 n) := kZ (kA _ _) (cU (i := 0) hb rfl); have c1 : (w.alloc (.cells #[xn, xs, xo, xd, xx, xp, xc, .slice av nv cv] 65)).cell? ⟨b, 1, none⟩ = some (.int .i64 s) := kZ (kA _ _) (cU (i := 1) hb rfl); have KA := hD (kA w (.cells #[xn, xs, xo, xd, xx, xp, xc, .slice av nv cv] 65)); have heq : ∀ w, (binOp .eql 36 (.agg #[xn, xs]) (.agg #[n, s])).run Tryz.prog w = .ok (.bool (decide (xn = n ∧ xs = s))) w := fun w => act_eql9 xn xs n s w
 have heg := fun op x y (w : World) => act_guard9 op x y xn xs n s w
 obtain ⟨tb, htb⟩ : ∃ x, decide (xn = n ∧ xs = s) = x := ⟨_, rfl⟩
 rw [htb] at heq ⊢; clear hb htb; go_enter Tryz.func57, Tryz.ntmps57; go_wp2; go_ret; exact ⟨rfl, KA.out⟩
theorem ixFind {a0 : Option Addr} {c0 len : Nat} (ow : w.ownsRow B 65 8 (.slice a0 len c0) len (acE.row gs)) (hl : gs.length = len) (h8 : len ≤ 8) (b : Nat) (n s : Int) (hb : w.heap[b]? = some (.cells #[n, s] 36 (0, 0))) :
  Calls Tryz.prog 101 #[.slice a0 len c0, .func (.func 57) #[] #[.pointer (some ⟨b, 0, none⟩)]] w fun r w' => r = .returned (.int .i64 (placeQ (gs.findIdx? (fun g => (fun a : AcM => decide (a.c.n = n ∧ a.c.s = s)) g.a)))) ∧ Kp w w' := by
 obtain ⟨RS, hRS⟩ : ∃ R, placeQ (gs.findIdx? (fun g => (fun a : AcM => decide (a.c.n = n ∧ a.c.s = s)) g.a)) = R := ⟨_, rfl⟩
 rw [hRS]; have HRS := hD hRS; obtain ⟨L, hL⟩ : ∃ L : Int, (len : Int) = L := ⟨_, rfl⟩
 obtain ⟨HL, HLL, H8, HO, HB⟩ := hD5 hl hL h8 ow hb; clear hRS ow hl h8 hb; go_enter Tryz.func101, Tryz.ntmps101; go_wp2; go_loopw [8] (fun i wr => ∃ j : Nat, j ≤ len ∧ i = .int .i64 j ∧ (∀ k (hk : k < gs.length), k < j → ¬ (fun a : AcM => a.c.n = n ∧ a.c.s = s) gs[k].a) ∧ Kp w wr) (fun i _ => len - (intOf i).toNat)
 case atStart => exact ⟨0, Nat.zero_le _, rfl, fun k _ h => by omega, Kp.refl _⟩
 case round =>
  obtain ⟨j, hj, rfl, hq, hk⟩ := hrel; obtain ⟨KR, HQ⟩ := hD2 hk hq; obtain ⟨jj, hjj⟩ : ∃ jj : Int, (j : Int) = jj := ⟨_, rfl⟩
  rw [hjj]; have HJ := hD hjj
  by_cases hlt : j < len
  ·have hjl : jj < L := by omega
   have hj0 : 0 ≤ jj := by omega
   have hL8 : L ≤ 8 := by have := H8.out; omega
   have htn : jj.toNat = j := by omega
   have ow := oK HO.out hk; obtain ⟨g, cp, ev, hcp, hgB, hgl, hfz, hcell⟩ := cQ (E := acE) ow HL.out hlt; have ev := congrArg (fun v => match v with | Value.slice a _ _ => a | _ => none) ev; dsimp only at ev; subst ev; have hjo : j < gs.length := by have := HL.out; omega
   obtain ⟨⟨⟨⟨xn, xs, xo, xd, xx⟩, xp, xc, xr⟩, xb, xk⟩, hx⟩ : ∃ x, gs[j]'hjo = x := ⟨_, rfl⟩
   rw [hx, show acE.k = 8 from rfl, ← htn] at hcell; obtain ⟨xv, hxv⟩ : ∃ v, (⟨⟨⟨xn, xs, xo, xd, xx⟩, xp, xc, xr⟩, xb, xk⟩ : AcG).v = v := ⟨_, rfl⟩
   obtain ⟨x0, x1, x2, x3, x4, x5, x6, -⟩ := cW8 hcell; have x7 : wr.cell? ⟨g, jj.toNat * 8 + 7, none⟩ = some xv := by rw [← hxv]; exact hcell 7 _ (by decide) rfl
   obtain ⟨av, nv, cv, exv⟩ : ∃ a n c, xv = .slice a n c := ⟨_, _, _, hxv.symm⟩
   subst exv; have HCL := hD (cloFind xn xs xo xd xx xp xc av nv cv b n s (rZ hk HB.out)); obtain ⟨HLT, HX⟩ := hD2 hlt hx
   by_cases he : (fun a : AcM => a.c.n = n ∧ a.c.s = s) ⟨⟨xn, xs, xo, xd, xx⟩, xp, xc, xr⟩
   ·have HF : Hid (placeQ (gs.findIdx? (fun g => (fun a : AcM => decide (a.c.n = n ∧ a.c.s = s)) g.a)) = jj) := hD (by
     rw [fi_at (p := (fun g : AcG => (fun a : AcM => decide (a.c.n = n ∧ a.c.s = s)) g.a)) hjo (fun i hi hij => dF (hq i hi hij)) (by show decide _ = true; rw [hx]; exact dT he)]; exact hjj)
    have hd : decide (xn = n ∧ xs = s) = true := dT he; rw [hd] at HCL; clear hcell hx hk hq hjj hj hlt he htn hxv ow hd; go_wp2_with (go_at_call 57; (with_reducible refine HCL.out.mono ?_); rintro e' w5 ⟨rfl, hk5⟩; have K5 := hD (kT KR.out hk5); clear hk5)
    go_ret; refine ⟨?_, K5.out⟩
    rw [← HRS.out, HF.out]
    rfl
   ·have HE := hD he; have hd : decide (xn = n ∧ xs = s) = false := dF he; rw [hd] at HCL; have hw1 : wrap64 (jj + 1) = jj + 1 := IntWalk.wrap64_in _ (by omega); clear hcell hx hk hq hjj hj hlt he htn hxv ow hd; go_wp2_with (go_at_call 57; (with_reducible refine HCL.out.mono ?_); rintro e' w5 ⟨rfl, hk5⟩; have K5 := hD (kT KR.out hk5); clear hk5)
    go_roundw
    case rel => exact ⟨j + 1, by have := HLT.out; omega, by have := HJ.out; rw [show ((j + 1 : Nat) : Int) = jj + 1 by omega], fun k hk hk2 => by
     rcases Nat.lt_or_eq_of_le (Nat.le_of_lt_succ hk2) with g | rfl
     ·exact HQ.out k hk g
     ·rw [HX.out]; exact HE.out, K5.out⟩
    case measure => have := HJ.out; have := HLT.out; simp [intOf]; omega
  ·have hje : ¬ jj < L := by omega
   have HN := hD (fi_no (p := (fun g : AcG => (fun a : AcM => decide (a.c.n = n ∧ a.c.s = s)) g.a)) (l := gs) (fun i hi => dF (hq i hi (by have := HL.out; omega)))); clear hk hq hjj hj hlt; go_wp2; go_ret; refine ⟨?_, KR.out⟩
   rw [← HRS.out, HN.out]
   rfl
theorem cloChild (xn xs xo xd : Int) (xx : Nat) (xp xc : Int) (av : Option Addr) (nv cv : Nat) (b : Nat) (p : Int) (h0 : 0 ≤ xp ∧ xp ≤ 8) (hb : w.heap[b]? = some (.cells #[p] 3 (0, 0))) : Calls Tryz.prog 59 #[.agg #[xn, xs, xo, xd, xx, xp, xc, .slice av nv cv], .pointer (some ⟨b, 0, none⟩)] w fun r w' => r = .returned (.bool (decide (xp ≠ 0 ∧ xp - 1 = p))) ∧ Kp w w' := by
 have y5 : (w.alloc (.cells #[xn, xs, xo, xd, xx, xp, xc, .slice av nv cv] 65)).cell? ⟨w.heap.size, 5, none⟩ = some (.int .i64 xp) := cU (i := 5) (mH w (.cells #[xn, xs, xo, xd, xx, xp, xc, .slice av nv cv] 65)) rfl; have c0 : (w.alloc (.cells #[xn, xs, xo, xd, xx, xp, xc, .slice av nv cv] 65)).cell? ⟨b, 0, none⟩ = some (.int .i64 p) := kZ (kA _ _) (cU (i := 0) hb rfl); have KA := hD (kA w (.cells #[xn, xs, xo, xd, xx, xp, xc, .slice av nv cv] 65)); obtain ⟨x1, hx1⟩ : ∃ x, xp - 1 = x := ⟨_, rfl⟩
 have hw : IntKind.i64.wrap x1 = x1 := IntWalk.i64_in x1 (by omega); have hw2 : wrap64 x1 = x1 := IntWalk.wrap64_in x1 (by omega)
 by_cases h1 : xp = 0
 ·have g : decide (xp ≠ 0 ∧ xp - 1 = p) = false := dF (fun e => e.1 h1); rw [g]; have g1 : (xp == 0) = true := beq_iff_eq.2 h1; have g2 : (xp != 0) = false := by simp [h1]
  clear g h1 hb h0 hw hw2 hx1; go_enter Tryz.func59, Tryz.ntmps59; go_wp2; go_ret; exact ⟨rfl, KA.out⟩
 ·have g : decide (xp ≠ 0 ∧ xp - 1 = p) = (x1 == p) := by rw [hx1]; by_cases h : x1 = p <;> simp [h, h1]
  rw [g]; have g1 : (xp == 0) = false := by simpa using h1
  have g2 : (xp != 0) = true := by simp [h1]
  obtain ⟨tb, htb⟩ : ∃ x, (x1 == p) = x := ⟨_, rfl⟩
  rw [htb]; clear g h1 hb h0; go_enter Tryz.func59, Tryz.ntmps59; go_wp2; go_ret; exact ⟨rfl, KA.out⟩
theorem ixChild {a0 : Option Addr} {c0 len : Nat} (ow : w.ownsRow B 65 8 (.slice a0 len c0) len (acE.row gs)) (hl : gs.length = len) (h8 : len ≤ 8) (b : Nat) (p : Int) (hp : ∀ g ∈ gs, 0 ≤ g.a.par ∧ g.a.par ≤ 8) (hb : w.heap[b]? = some (.cells #[p] 3 (0, 0))) :
  Calls Tryz.prog 101 #[.slice a0 len c0, .func (.func 59) #[] #[.pointer (some ⟨b, 0, none⟩)]] w fun r w' => r = .returned (.int .i64 (placeQ (gs.findIdx? (fun g => (fun a : AcM => decide (a.par ≠ 0 ∧ a.par - 1 = p)) g.a)))) ∧ Kp w w' := by
 obtain ⟨RS, hRS⟩ : ∃ R, placeQ (gs.findIdx? (fun g => (fun a : AcM => decide (a.par ≠ 0 ∧ a.par - 1 = p)) g.a)) = R := ⟨_, rfl⟩
 rw [hRS]; have HRS := hD hRS; obtain ⟨L, hL⟩ : ∃ L : Int, (len : Int) = L := ⟨_, rfl⟩
 obtain ⟨HL, HLL, H8, HO, HB, HPP⟩ := hD6 hl hL h8 ow hb hp; clear hRS ow hl h8 hb hp; go_enter Tryz.func101, Tryz.ntmps101; go_wp2; go_loopw [8] (fun i wr => ∃ j : Nat, j ≤ len ∧ i = .int .i64 j ∧ (∀ k (hk : k < gs.length), k < j → ¬ (fun a : AcM => a.par ≠ 0 ∧ a.par - 1 = p) gs[k].a) ∧ Kp w wr) (fun i _ => len - (intOf i).toNat)
 case atStart => exact ⟨0, Nat.zero_le _, rfl, fun k _ h => by omega, Kp.refl _⟩
 case round =>
  obtain ⟨j, hj, rfl, hq, hk⟩ := hrel; obtain ⟨KR, HQ⟩ := hD2 hk hq; obtain ⟨jj, hjj⟩ : ∃ jj : Int, (j : Int) = jj := ⟨_, rfl⟩
  rw [hjj]; have HJ := hD hjj
  by_cases hlt : j < len
  ·have hjl : jj < L := by omega
   have hj0 : 0 ≤ jj := by omega
   have hL8 : L ≤ 8 := by have := H8.out; omega
   have htn : jj.toNat = j := by omega
   have ow := oK HO.out hk; obtain ⟨g, cp, ev, hcp, hgB, hgl, hfz, hcell⟩ := cQ (E := acE) ow HL.out hlt; have ev := congrArg (fun v => match v with | Value.slice a _ _ => a | _ => none) ev; dsimp only at ev; subst ev; have hjo : j < gs.length := by have := HL.out; omega
   obtain ⟨⟨⟨⟨xn, xs, xo, xd, xx⟩, xp, xc, xr⟩, xb, xk⟩, hx⟩ : ∃ x, gs[j]'hjo = x := ⟨_, rfl⟩
   rw [hx, show acE.k = 8 from rfl, ← htn] at hcell; obtain ⟨xv, hxv⟩ : ∃ v, (⟨⟨⟨xn, xs, xo, xd, xx⟩, xp, xc, xr⟩, xb, xk⟩ : AcG).v = v := ⟨_, rfl⟩
   obtain ⟨x0, x1, x2, x3, x4, x5, x6, -⟩ := cW8 hcell; have x7 : wr.cell? ⟨g, jj.toNat * 8 + 7, none⟩ = some xv := by rw [← hxv]; exact hcell 7 _ (by decide) rfl
   obtain ⟨av, nv, cv, exv⟩ : ∃ a n c, xv = .slice a n c := ⟨_, _, _, hxv.symm⟩
   subst exv; have HCL := hD (cloChild xn xs xo xd xx xp xc av nv cv b p (by have := HPP.out _ (List.getElem_mem hjo); rw [hx] at this; exact this) (rZ hk HB.out)); obtain ⟨HLT, HX⟩ := hD2 hlt hx
   by_cases he : (fun a : AcM => a.par ≠ 0 ∧ a.par - 1 = p) ⟨⟨xn, xs, xo, xd, xx⟩, xp, xc, xr⟩
   ·have HF : Hid (placeQ (gs.findIdx? (fun g => (fun a : AcM => decide (a.par ≠ 0 ∧ a.par - 1 = p)) g.a)) = jj) := hD (by
     rw [fi_at (p := (fun g : AcG => (fun a : AcM => decide (a.par ≠ 0 ∧ a.par - 1 = p)) g.a)) hjo (fun i hi hij => dF (hq i hi hij)) (by show decide _ = true; rw [hx]; exact dT he)]; exact hjj)
    have hd : decide (xp ≠ 0 ∧ xp - 1 = p) = true := dT he; rw [hd] at HCL; clear hcell hx hk hq hjj hj hlt he htn hxv ow hd; go_wp2_with (go_at_call 59; (with_reducible refine HCL.out.mono ?_); rintro e' w5 ⟨rfl, hk5⟩; have K5 := hD (kT KR.out hk5); clear hk5)
    go_ret; refine ⟨?_, K5.out⟩
    rw [← HRS.out, HF.out]
    rfl
   ·have HE := hD he; have hd : decide (xp ≠ 0 ∧ xp - 1 = p) = false := dF he; rw [hd] at HCL; have hw1 : wrap64 (jj + 1) = jj + 1 := IntWalk.wrap64_in _ (by omega); clear hcell hx hk hq hjj hj hlt he htn hxv ow hd; go_wp2_with (go_at_call 59; (with_reducible refine HCL.out.mono ?_); rintro e' w5 ⟨rfl, hk5⟩; have K5 := hD (kT KR.out hk5); clear hk5)
    go_roundw
    case rel => exact ⟨j + 1, by have := HLT.out; omega, by have := HJ.out; rw [show ((j + 1 : Nat) : Int) = jj + 1 by omega], fun k hk hk2 => by
     rcases Nat.lt_or_eq_of_le (Nat.le_of_lt_succ hk2) with g | rfl
     ·exact HQ.out k hk g
     ·rw [HX.out]; exact HE.out, K5.out⟩
    case measure => have := HJ.out; have := HLT.out; simp [intOf]; omega
  ·have hje : ¬ jj < L := by omega
   have HN := hD (fi_no (p := (fun g : AcG => (fun a : AcM => decide (a.par ≠ 0 ∧ a.par - 1 = p)) g.a)) (l := gs) (fun i hi => dF (hq i hi (by have := HL.out; omega)))); clear hk hq hjj hj hlt; go_wp2; go_ret; refine ⟨?_, KR.out⟩
   rw [← HRS.out, HN.out]
   rfl
theorem cloGone (xn xs xo xd : Int) (xx : Nat) (xp xc : Int) (av : Option Addr) (nv cv : Nat) (b : Nat) (n s : Int) (hb : w.cell? ⟨b, 1, none⟩ = some (.int .i64 n) ∧ w.cell? ⟨b, 2, none⟩ = some (.int .i64 s)) : Calls Tryz.prog 118 #[.agg #[xn, xs, xo, xd, xx, xp, xc, .slice av nv cv], .pointer (some ⟨b, 0, none⟩)] w fun r w' => r = .returned (.bool (decide (xn = n ∧ xs = s))) ∧ Kp w w' := by
 have y0 : (w.alloc (.cells #[xn, xs, xo, xd, xx, xp, xc, .slice av nv cv] 65)).cell? ⟨w.heap.size, 0, none⟩ = some (.int .i64 xn) := cU (i := 0) (mH w (.cells #[xn, xs, xo, xd, xx, xp, xc, .slice av nv cv] 65)) rfl; have y1 : (w.alloc (.cells #[xn, xs, xo, xd, xx, xp, xc, .slice av nv cv] 65)).cell? ⟨w.heap.size, 1, none⟩ = some (.int .i64 xs) := cU (i := 1) (mH w (.cells #[xn, xs, xo, xd, xx, xp, xc, .slice av nv cv] 65)) rfl; have c0 : (w.alloc (.cells #[xn, xs, xo, xd, xx, xp, xc, .slice av nv cv] 65)).cell? ⟨b, 1, none⟩ = some (.int .i64 n) := kZ (kA _ _) hb.1; have c1 : (w.alloc (.cells #[xn, xs, xo, xd, xx, xp, xc, .slice av nv cv] 65)).cell? ⟨b, 2, none⟩ = some (.int .i64 s) := kZ (kA _ _) hb.2; have KA := hD (kA w (.cells #[xn, xs, xo, xd, xx, xp, xc, .slice av nv cv] 65)); have heq : ∀ w, (binOp .eql 36 (.agg #[xn, xs]) (.agg #[n, s])).run Tryz.prog w = .ok (.bool (decide (xn = n ∧ xs = s))) w := fun w => act_eql9 xn xs n s w
 have heg := fun op x y (w : World) => act_guard9 op x y xn xs n s w
 obtain ⟨tb, htb⟩ : ∃ x, decide (xn = n ∧ xs = s) = x := ⟨_, rfl⟩
 rw [htb] at heq ⊢; clear hb htb; go_enter Tryz.func118, Tryz.ntmps118; go_wp2; go_ret; exact ⟨rfl, KA.out⟩
theorem ixGone {a0 : Option Addr} {c0 len : Nat} (ow : w.ownsRow B 65 8 (.slice a0 len c0) len (acE.row gs)) (hl : gs.length = len) (h8 : len ≤ 8) (b : Nat) (n s : Int) (hb : w.cell? ⟨b, 1, none⟩ = some (.int .i64 n) ∧ w.cell? ⟨b, 2, none⟩ = some (.int .i64 s)) :
  Calls Tryz.prog 101 #[.slice a0 len c0, .func (.func 118) #[] #[.pointer (some ⟨b, 0, none⟩)]] w fun r w' => r = .returned (.int .i64 (placeQ (gs.findIdx? (fun g => (fun a : AcM => decide (a.c.n = n ∧ a.c.s = s)) g.a)))) ∧ Kp w w' := by
 obtain ⟨RS, hRS⟩ : ∃ R, placeQ (gs.findIdx? (fun g => (fun a : AcM => decide (a.c.n = n ∧ a.c.s = s)) g.a)) = R := ⟨_, rfl⟩
 rw [hRS]; have HRS := hD hRS; obtain ⟨L, hL⟩ : ∃ L : Int, (len : Int) = L := ⟨_, rfl⟩
 obtain ⟨HL, HLL, H8, HO, HB⟩ := hD5 hl hL h8 ow hb; clear hRS ow hl h8 hb; go_enter Tryz.func101, Tryz.ntmps101; go_wp2; go_loopw [8] (fun i wr => ∃ j : Nat, j ≤ len ∧ i = .int .i64 j ∧ (∀ k (hk : k < gs.length), k < j → ¬ (fun a : AcM => a.c.n = n ∧ a.c.s = s) gs[k].a) ∧ Kp w wr) (fun i _ => len - (intOf i).toNat)
 case atStart => exact ⟨0, Nat.zero_le _, rfl, fun k _ h => by omega, Kp.refl _⟩
 case round =>
  obtain ⟨j, hj, rfl, hq, hk⟩ := hrel; obtain ⟨KR, HQ⟩ := hD2 hk hq; obtain ⟨jj, hjj⟩ : ∃ jj : Int, (j : Int) = jj := ⟨_, rfl⟩
  rw [hjj]; have HJ := hD hjj
  by_cases hlt : j < len
  ·have hjl : jj < L := by omega
   have hj0 : 0 ≤ jj := by omega
   have hL8 : L ≤ 8 := by have := H8.out; omega
   have htn : jj.toNat = j := by omega
   have ow := oK HO.out hk; obtain ⟨g, cp, ev, hcp, hgB, hgl, hfz, hcell⟩ := cQ (E := acE) ow HL.out hlt; have ev := congrArg (fun v => match v with | Value.slice a _ _ => a | _ => none) ev; dsimp only at ev; subst ev; have hjo : j < gs.length := by have := HL.out; omega
   obtain ⟨⟨⟨⟨xn, xs, xo, xd, xx⟩, xp, xc, xr⟩, xb, xk⟩, hx⟩ : ∃ x, gs[j]'hjo = x := ⟨_, rfl⟩
   rw [hx, show acE.k = 8 from rfl, ← htn] at hcell; obtain ⟨xv, hxv⟩ : ∃ v, (⟨⟨⟨xn, xs, xo, xd, xx⟩, xp, xc, xr⟩, xb, xk⟩ : AcG).v = v := ⟨_, rfl⟩
   obtain ⟨x0, x1, x2, x3, x4, x5, x6, -⟩ := cW8 hcell; have x7 : wr.cell? ⟨g, jj.toNat * 8 + 7, none⟩ = some xv := by rw [← hxv]; exact hcell 7 _ (by decide) rfl
   obtain ⟨av, nv, cv, exv⟩ : ∃ a n c, xv = .slice a n c := ⟨_, _, _, hxv.symm⟩
   subst exv; have HCL := hD (cloGone xn xs xo xd xx xp xc av nv cv b n s (⟨kZ hk HB.out.1, kZ hk HB.out.2⟩)); obtain ⟨HLT, HX⟩ := hD2 hlt hx
   by_cases he : (fun a : AcM => a.c.n = n ∧ a.c.s = s) ⟨⟨xn, xs, xo, xd, xx⟩, xp, xc, xr⟩
   ·have HF : Hid (placeQ (gs.findIdx? (fun g => (fun a : AcM => decide (a.c.n = n ∧ a.c.s = s)) g.a)) = jj) := hD (by
     rw [fi_at (p := (fun g : AcG => (fun a : AcM => decide (a.c.n = n ∧ a.c.s = s)) g.a)) hjo (fun i hi hij => dF (hq i hi hij)) (by show decide _ = true; rw [hx]; exact dT he)]; exact hjj)
    have hd : decide (xn = n ∧ xs = s) = true := dT he; rw [hd] at HCL; clear hcell hx hk hq hjj hj hlt he htn hxv ow hd; go_wp2_with (go_at_call 118; (with_reducible refine HCL.out.mono ?_); rintro e' w5 ⟨rfl, hk5⟩; have K5 := hD (kT KR.out hk5); clear hk5)
    go_ret; refine ⟨?_, K5.out⟩
    rw [← HRS.out, HF.out]
    rfl
   ·have HE := hD he; have hd : decide (xn = n ∧ xs = s) = false := dF he; rw [hd] at HCL; have hw1 : wrap64 (jj + 1) = jj + 1 := IntWalk.wrap64_in _ (by omega); clear hcell hx hk hq hjj hj hlt he htn hxv ow hd; go_wp2_with (go_at_call 118; (with_reducible refine HCL.out.mono ?_); rintro e' w5 ⟨rfl, hk5⟩; have K5 := hD (kT KR.out hk5); clear hk5)
    go_roundw
    case rel => exact ⟨j + 1, by have := HLT.out; omega, by have := HJ.out; rw [show ((j + 1 : Nat) : Int) = jj + 1 by omega], fun k hk hk2 => by
     rcases Nat.lt_or_eq_of_le (Nat.le_of_lt_succ hk2) with g | rfl
     ·exact HQ.out k hk g
     ·rw [HX.out]; exact HE.out, K5.out⟩
    case measure => have := HJ.out; have := HLT.out; simp [intOf]; omega
  ·have hje : ¬ jj < L := by omega
   have HN := hD (fi_no (p := (fun g : AcG => (fun a : AcM => decide (a.c.n = n ∧ a.c.s = s)) g.a)) (l := gs) (fun i hi => dF (hq i hi (by have := HL.out; omega)))); clear hk hq hjj hj hlt; go_wp2; go_ret; refine ⟨?_, KR.out⟩
   rw [← HRS.out, HN.out]
   rfl
theorem info_rgL0 : (Tryz.prog.info? 69).map (fun i => (i.zero, i.size, i.bytes)) = some (some (.agg #[(0:Int), (0:Int), (0:Int), (0:Int), (0:Int), (0:Int)]), 6, 48) := by kernel_rfl
theorem info_rgL : ∃ i0, Tryz.prog.info? 69 = some i0 ∧ i0.zero = some (.agg #[(0:Int), (0:Int), (0:Int), (0:Int), (0:Int), (0:Int)]) ∧ i0.size = 6 ∧ i0.bytes = 48 := by
 have h := info_rgL0
 cases g : Tryz.prog.info? 69 with
 | none => rw [g] at h; cases h
 | some i0 =>
  rw [g] at h; simp only [Option.map_some, Option.some.injEq, Prod.mk.injEq] at h
  exact ⟨i0, rfl, h.1, h.2.1, h.2.2⟩
theorem ty_rgL : TyG Tryz.prog 63 69 6 (.agg #[(0:Int), (0:Int), (0:Int), (0:Int), (0:Int), (0:Int)]) 48 := ⟨Tryz.underlying63, info_rgL, rfl, by decide⟩
theorem info_ptL0 : (Tryz.prog.info? 75).map (fun i => (i.zero, i.size, i.bytes)) = some (some (.agg #[(0:Int), (0:Int), (0:Int), (0:Int), (0:Int), (0:Int), (0:Int)]), 7, 56) := by kernel_rfl
theorem info_ptL : ∃ i0, Tryz.prog.info? 75 = some i0 ∧ i0.zero = some (.agg #[(0:Int), (0:Int), (0:Int), (0:Int), (0:Int), (0:Int), (0:Int)]) ∧ i0.size = 7 ∧ i0.bytes = 56 := by
 have h := info_ptL0
 cases g : Tryz.prog.info? 75 with
 | none => rw [g] at h; cases h
 | some i0 =>
  rw [g] at h; simp only [Option.map_some, Option.some.injEq, Prod.mk.injEq] at h
  exact ⟨i0, rfl, h.1, h.2.1, h.2.2⟩
theorem ty_ptL : TyG Tryz.prog 72 75 7 (.agg #[(0:Int), (0:Int), (0:Int), (0:Int), (0:Int), (0:Int), (0:Int)]) 56 := ⟨Tryz.underlying72, info_ptL, rfl, by decide⟩
theorem info_acL0 : (Tryz.prog.info? 65).map (fun i => (i.zero, i.size, i.bytes)) = some (some (.agg #[(0:Int), (0:Int), (0:Int), (0:Int), .float .f64 0, (0:Int), (0:Int), .slice none 0 0]), 8, 80) := by kernel_rfl
theorem info_acL : ∃ i0, Tryz.prog.info? 65 = some i0 ∧ i0.zero = some (.agg #[(0:Int), (0:Int), (0:Int), (0:Int), .float .f64 0, (0:Int), (0:Int), .slice none 0 0]) ∧ i0.size = 8 ∧ i0.bytes = 80 := by
 have h := info_acL0
 cases g : Tryz.prog.info? 65 with
 | none => rw [g] at h; cases h
 | some i0 =>
  rw [g] at h; simp only [Option.map_some, Option.some.injEq, Prod.mk.injEq] at h
  exact ⟨i0, rfl, h.1, h.2.1, h.2.2⟩
theorem ty_acL : TyG Tryz.prog 59 65 8 (.agg #[(0:Int), (0:Int), (0:Int), (0:Int), .float .f64 0, (0:Int), (0:Int), .slice none 0 0]) 80 := ⟨Tryz.underlying59, info_acL, rfl, by decide⟩
theorem cloneR_any (v : Value) (f : List RgM) (hl : f.length ≤ 100) (hp : PartG rgE v f w) :
  Calls Tryz.prog 100 #[v] w fun r w' => ∃ v', r = .returned v' ∧ w'.ownsRow w.heap.size 69 6 v' f.length (rgE.row f) ∧ Kp w w' := by
 obtain ⟨a, cap, rfl, hno, hc⟩ := hp
 cases a with
 | none =>
  obtain ⟨h0, rfl⟩ := hno rfl; have hf : f = [] := List.length_eq_zero_iff.1 h0; subst hf; have heqn := Lib.run_eql_slice_nil (P := Tryz.prog) w 63 69 none 0 0 0 0 Tryz.underlying63; clear hno hc; go_enter Tryz.func100, Tryz.ntmps100; go_wp2; go_ret; exact ⟨_, rfl, World.ownsRow_nil _ _ _ _, Kp.refl _⟩
 | some ad =>
  have HP := hD (show PartG rgE (.slice (some ad) f.length cap) f w from ⟨some ad, cap, rfl, hno, hc⟩); have K1 := hD (kA w (.cells #[] 69)); have O1 := hD (show (w.alloc (.cells #[] 69)).ownsRow w.heap.size 69 6 (.slice (some ⟨w.heap.size, 0, none⟩) 0 0) 0 (rgE.row []) from ⟨by simp [EncG.row], Or.inr ⟨w.heap.size, 0, #[], rfl, Nat.le_refl _, (mH w _), Nat.le_refl _, by omega, by simp, by simp [EncG.row]⟩⟩); have HL := hD hl; have heqn := Lib.run_eql_slice_nil (P := Tryz.prog) w 63 69 (some ad) f.length cap 0 0 Tryz.underlying63; clear hno hc hl; go_enter Tryz.func100, Tryz.ntmps100; go_wp2_with (at_builtin; refine aG (E := rgE) ty_rgL (by decide) _ rfl (.tmp 5) (.tmp 6) rfl w.heap.size _ _ [] rfl O1.out _ f rfl (HP.out.kp K1.out) ?f1 ?f2 ?_)
  case f1 => have := HL.out; omega
  case f2 => exact Below.size K1.out
  rintro v2 w2 ho2 hgr2 hb2; have hk2 : Kp w w2 := Below.grown K1.out hgr2 (Below.size K1.out) (fun k hk => (O1.out.lt k hk).1); obtain ⟨O2, K2⟩ := hD2 ho2 hk2; clear ho2 hgr2 hk2 hb2; go_wp2; go_ret; exact ⟨_, rfl, O2.out, K2.out⟩
theorem cloneP_any (v : Value) (f : List PaM) (hl : f.length ≤ 100) (hp : PartG paE v f w) :
  Calls Tryz.prog 58 #[v] w fun r w' => ∃ v', r = .returned v' ∧ w'.ownsRow w.heap.size 75 7 v' f.length (paE.row f) ∧ Kp w w' := by
 obtain ⟨a, cap, rfl, hno, hc⟩ := hp
 cases a with
 | none =>
  obtain ⟨h0, rfl⟩ := hno rfl; have hf : f = [] := List.length_eq_zero_iff.1 h0; subst hf; have heqn := Lib.run_eql_slice_nil (P := Tryz.prog) w 72 75 none 0 0 0 0 Tryz.underlying72; clear hno hc; go_enter Tryz.func58, Tryz.ntmps58; go_wp2; go_ret; exact ⟨_, rfl, World.ownsRow_nil _ _ _ _, Kp.refl _⟩
 | some ad =>
  have HP := hD (show PartG paE (.slice (some ad) f.length cap) f w from ⟨some ad, cap, rfl, hno, hc⟩); have K1 := hD (kA w (.cells #[] 75)); have O1 := hD (show (w.alloc (.cells #[] 75)).ownsRow w.heap.size 75 7 (.slice (some ⟨w.heap.size, 0, none⟩) 0 0) 0 (paE.row []) from ⟨by simp [EncG.row], Or.inr ⟨w.heap.size, 0, #[], rfl, Nat.le_refl _, (mH w _), Nat.le_refl _, by omega, by simp, by simp [EncG.row]⟩⟩); have HL := hD hl; have heqn := Lib.run_eql_slice_nil (P := Tryz.prog) w 72 75 (some ad) f.length cap 0 0 Tryz.underlying72; clear hno hc hl; go_enter Tryz.func58, Tryz.ntmps58; go_wp2_with (at_builtin; refine aG (E := paE) ty_ptL (by decide) _ rfl (.tmp 5) (.tmp 6) rfl w.heap.size _ _ [] rfl O1.out _ f rfl (HP.out.kp K1.out) ?f1 ?f2 ?_)
  case f1 => have := HL.out; omega
  case f2 => exact Below.size K1.out
  rintro v2 w2 ho2 hgr2 hb2; have hk2 : Kp w w2 := Below.grown K1.out hgr2 (Below.size K1.out) (fun k hk => (O1.out.lt k hk).1); obtain ⟨O2, K2⟩ := hD2 ho2 hk2; clear ho2 hgr2 hk2 hb2; go_wp2; go_ret; exact ⟨_, rfl, O2.out, K2.out⟩
theorem apart_any (xn xs xo xd : Int) (xx : Nat) (xp xc : Int) (av : Option Addr) (nv cv : Nat) (xr : List RgM) (hn : xr.length = nv) (h100 : xr.length ≤ 100) (hp : PartG rgE (.slice av nv cv) xr w) :
  Calls Tryz.prog 55 #[.agg #[xn, xs, xo, xd, xx, xp, xc, .slice av nv cv]] w fun r w' => ∃ o' c', r = .returned (.agg #[xn, xs, xo, xd, xx, xp, xc, (.slice o' nv c')]) ∧ w'.ownsRow w.heap.size 69 6 (.slice o' nv c') nv (rgE.row xr) ∧ Kp w w' := by
 have k1 : Kp w ((w.alloc (.cells #[xn, xs, xo, xd, xx, xp, xc, .slice av nv cv] 65)).alloc (.cells #[(0:Int), (0:Int), (0:Int), (0:Int), .float .f64 0, (0:Int), (0:Int), .slice none 0 0] 65)) := kT (kA _ _) (kA _ _); have r1 := nX0 w (.cells #[xn, xs, xo, xd, xx, xp, xc, .slice av nv cv] 65) (.cells #[(0:Int), (0:Int), (0:Int), (0:Int), .float .f64 0, (0:Int), (0:Int), .slice none 0 0] 65); have r2 := nX1 w (.cells #[xn, xs, xo, xd, xx, xp, xc, .slice av nv cv] 65) (.cells #[(0:Int), (0:Int), (0:Int), (0:Int), .float .f64 0, (0:Int), (0:Int), .slice none 0 0] 65); obtain ⟨W, hW⟩ : ∃ W, ((w.alloc (.cells #[xn, xs, xo, xd, xx, xp, xc, .slice av nv cv] 65)).alloc (.cells #[(0:Int), (0:Int), (0:Int), (0:Int), .float .f64 0, (0:Int), (0:Int), .slice none 0 0] 65)) = W := ⟨_, rfl⟩
 have hsz : W.heap.size = w.heap.size + 1 + 1 := by rw [← hW]; simp
 rw [hW] at k1 r1 r2; obtain ⟨y0, y1, y2, y3, y4, y5, y6, y7⟩ := c8X r1; have HC := hD (cloneR_any (.slice av nv cv) xr h100 (hp.kp k1)); obtain ⟨K1, R1, R2, HN, HSZ⟩ := hD5 k1 r1 r2 hn hsz; have hsf := sF; clear hp k1 r1 r2 hn h100 hsz; go_enter Tryz.func55, Tryz.ntmps55; go_wp2_with (go_at_call 100; (with_reducible refine HC.out.mono ?_); rintro e' w3 ⟨v', rfl, ho, hk⟩; obtain ⟨o', c', rfl⟩ := fG ho; rw [HN.out] at ho ⊢; have r1 := rZ hk R1.out; have r2 := rZ hk R2.out; have fz := fQ r1 7; have z7 : w3.cell? ⟨w.heap.size, 7, none⟩ = some (.slice av nv cv) := cU (i := 7) r1 rfl; obtain ⟨w4, hw4⟩ : ∃ x, w3.setCell ⟨w.heap.size, 7, none⟩ (.slice o' nv c') = x := ⟨_, rfl⟩; have r4 : w4.heap[w.heap.size]? = some (.cells #[xn, xs, xo, xd, xx, xp, xc, (.slice o' nv c')] 65) := (by rw [← hw4]; exact (Joins.block_setCell r1 _).trans rfl); have z4 : w4.heap[w.heap.size + 1]? = some (.cells #[(0:Int), (0:Int), (0:Int), (0:Int), .float .f64 0, (0:Int), (0:Int), .slice none 0 0] 65) := (by rw [← hw4, bS _ _ _ _ (by simp)]; exact r2); have o4 : w4.ownsRow W.heap.size 69 6 (.slice o' nv c') nv (rgE.row xr) := (by rw [← hw4]; exact sG ho (fun b e => bS _ _ _ _ (fun e2 => by have := (ho.lt b e).1; have := HSZ.out; dsimp only at e2; omega))); have k4 : Kp w w4 := (by rw [← hw4]; exact Below.setCell (kT K1.out hk) (Nat.le_refl _) _); obtain ⟨g0, g1, g2, g3, g4, g5, g6, g7⟩ := c8X r4; obtain ⟨u0, u1, u2, u3, u4, u5, u6, u7⟩ := c8X z4; have fz4 := fQ z4; obtain ⟨Z4, O4, K4⟩ := hD3 z4 o4 k4; clear ho hk r1 r2 r4 z4 o4 k4)
 refine bodyPost_ret (results_cell_row (p := 2) rfl _ _ (w.heap.size + 1) 65 _ (0, 0) _ rfl (set_8 (.int .i64 xn) (.int .i64 xs) (.int .i64 xo) (.int .i64 xd) (.float .f64 xx) (.int .i64 xp) (.int .i64 xc) (.slice o' nv c') Z4.out) Tryz.underlying65 rfl (by kernel_rfl)) rfl ?_
 refine ⟨o', c', rfl, ?_, set_8_kp K4.out (by omega) _ _ _ _ _ _ _ _⟩
 refine bG (sG O4.out (fun b e => ?_)) (base' := w.heap.size) (by have := HSZ.out; omega)
 have hb := (O4.out.lt b e).1; have hs := HSZ.out; rw [bS _ _ _ _ (by dsimp only; omega), bS _ _ _ _ (by dsimp only; omega), bS _ _ _ _ (by dsimp only; omega), bS _ _ _ _ (by dsimp only; omega), bS _ _ _ _ (by dsimp only; omega), bS _ _ _ _ (by dsimp only; omega), bS _ _ _ _ (by dsimp only; omega), bS _ _ _ _ (by dsimp only; omega)]
end Go.Proofs.YtpemeenfhkgmpaaGreatDoor
