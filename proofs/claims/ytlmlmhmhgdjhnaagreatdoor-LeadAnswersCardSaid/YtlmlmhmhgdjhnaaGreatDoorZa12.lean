/- Parts of this proof (own work). -/
import Derived.Test.YtlmlmhmhgdjhnaaGreatDoorZa11
import Derived.Laws.Rows
set_option maxRecDepth 100000
set_option maxHeartbeats 40000000
namespace Go.Proofs.YtlmlmhmhgdjhnaaGreatDoor
open Go.RowKit Go.ChangeShapes Go.WideShapes
def tyL : TyQ := ⟨166, 92, 119, 96⟩
theorem tyL_ok : tyL.Ok := ⟨by decide, by decide, by decide, by decide, by decide, by decide⟩
variable {w0 w w' W w3 : World} {B q : Nat} {m : StM} {gs : List AcG} {va vp : Value}
theorem cloFind (xn xs xo xd : Int) (xx : Nat) (xp xc : Int) (av : Option Addr) (nv cv : Nat) (b : Nat) (n s : Int) (hb : w.heap[b]? = some (.cells #[n, s] 25 (0, 0))) : Calls Tryz.prog 161 #[.agg #[xn, xs, xo, xd, xx, xp, xc, .slice av nv cv], .pointer (some ⟨b, 0, none⟩)] w fun r w' => r = .returned (.bool (decide (xn = n ∧ xs = s))) ∧ Kp w w' := by
 have y0 : (w.alloc (.cells #[xn, xs, xo, xd, xx, xp, xc, .slice av nv cv] 92)).cell? ⟨w.heap.size, 0, none⟩ = some (.int .i64 xn) := cU (i := 0) (mH w (.cells #[xn, xs, xo, xd, xx, xp, xc, .slice av nv cv] 92)) rfl; have y1 : (w.alloc (.cells #[xn, xs, xo, xd, xx, xp, xc, .slice av nv cv] 92)).cell? ⟨w.heap.size, 1, none⟩ = some (.int .i64 xs) := cU (i := 1) (mH w (.cells #[xn, xs, xo, xd, xx, xp, xc, .slice av nv cv] 92)) rfl; have c0 : (w.alloc (.cells #[xn, xs, xo, xd, xx, xp, xc, .slice av nv cv] 92)).cell? ⟨b, 0, none⟩ = some (.int .i64 n) := kZ (kA _ _) (cU (i := 0) hb rfl); have c1 : (w.alloc (.cells #[xn, xs, xo, xd, xx, xp, xc, .slice av nv cv] 92)).cell? ⟨b, 1, none⟩ = some (.int .i64 s) := kZ (kA _ _) (cU (i := 1) hb rfl); have KA := hD (kA w (.cells #[xn, xs, xo, xd, xx, xp, xc, .slice av nv cv] 92)); have heq : ∀ w, (binOp .eql 25 (.agg #[xn, xs]) (.agg #[n, s])).run Tryz.prog w = .ok (.bool (decide (xn = n ∧ xs = s))) w := fun w => act_eql9 xn xs n s w
 have heg := fun op x y (w : World) => act_guard9 op x y xn xs n s w
 obtain ⟨tb, htb⟩ : ∃ x, decide (xn = n ∧ xs = s) = x := ⟨_, rfl⟩
 rw [htb] at heq ⊢; clear hb htb; go_enter Tryz.func161, Tryz.ntmps161; go_wp2; go_ret; exact ⟨rfl, KA.out⟩
theorem ixFind {a0 : Option Addr} {c0 len : Nat} (ow : w.ownsRow B 92 8 (.slice a0 len c0) len (acE.row gs)) (hl : gs.length = len) (h8 : len ≤ 8) (b : Nat) (n s : Int) (hb : w.heap[b]? = some (.cells #[n, s] 25 (0, 0))) :
  Calls Tryz.prog 159 #[.slice a0 len c0, .func (.func 161) #[] #[.pointer (some ⟨b, 0, none⟩)]] w fun r w' => r = .returned (.int .i64 (placeQ (gs.findIdx? (fun g => (fun a : AcM => decide (a.c.n = n ∧ a.c.s = s)) g.a)))) ∧ Kp w w' := by
 obtain ⟨RS, hRS⟩ : ∃ R, placeQ (gs.findIdx? (fun g => (fun a : AcM => decide (a.c.n = n ∧ a.c.s = s)) g.a)) = R := ⟨_, rfl⟩
 rw [hRS]; have HRS := hD hRS; obtain ⟨L, hL⟩ : ∃ L : Int, (len : Int) = L := ⟨_, rfl⟩
 obtain ⟨HL, HLL, H8, HO, HB⟩ := hD5 hl hL h8 ow hb; clear hRS ow hl h8 hb; go_enter Tryz.func159, Tryz.ntmps159; go_wp2; go_loopw [8] (fun i wr => ∃ j : Nat, j ≤ len ∧ i = .int .i64 j ∧ (∀ k (hk : k < gs.length), k < j → ¬ (fun a : AcM => a.c.n = n ∧ a.c.s = s) gs[k].a) ∧ Kp w wr) (fun i _ => len - (intOf i).toNat)
 case atStart => exact ⟨0, Nat.zero_le _, rfl, fun k _ h => by omega, Kp.refl _⟩
 case round =>
  obtain ⟨j, hj, rfl, hq, hk⟩ := hrel; obtain ⟨KR, HQ⟩ := hD2 hk hq; obtain ⟨jj, hjj⟩ : ∃ jj : Int, (j : Int) = jj := ⟨_, rfl⟩
  rw [hjj]; have HJ := hD hjj
  by_cases hlt : j < len
  ·have hjl : jj < L := by omega
   have hj0 : 0 ≤ jj := by omega
   have hL8 : L ≤ 8 := by have := H8.out; omega
   have htn : jj.toNat = j := by omega
   have ow := oK HO.out hk; obtain ⟨g, cp, ev, hcp, hgB, hgl, hfz, hcell⟩ := cQ (E := acE) ow HL.out hlt; have ev := congrArg (fun v => match v with | Value.slice a _ _ => a | _ => none) ev; dsimp only at ev; subst ev; have hjo : j < gs.length := by have := HL.out; omega
   obtain ⟨⟨⟨⟨xn, xs, xo, xd, xx⟩, xp, xc, xr⟩, xb, xk⟩, hx⟩ : ∃ x, gs[j]'hjo = x := ⟨_, rfl⟩
   rw [hx, show acE.k = 8 from rfl, ← htn] at hcell; obtain ⟨xv, hxv⟩ : ∃ v, (⟨⟨⟨xn, xs, xo, xd, xx⟩, xp, xc, xr⟩, xb, xk⟩ : AcG).v = v := ⟨_, rfl⟩
   obtain ⟨x0, x1, x2, x3, x4, x5, x6, -⟩ := cW8 hcell; have x7 : wr.cell? ⟨g, jj.toNat * 8 + 7, none⟩ = some xv := by rw [← hxv]; exact hcell 7 _ (by decide) rfl
   obtain ⟨av, nv, cv, exv⟩ : ∃ a n c, xv = .slice a n c := ⟨_, _, _, hxv.symm⟩
   subst exv; have HCL := hD (cloFind xn xs xo xd xx xp xc av nv cv b n s (rZ hk HB.out)); obtain ⟨HLT, HX⟩ := hD2 hlt hx
   by_cases he : (fun a : AcM => a.c.n = n ∧ a.c.s = s) ⟨⟨xn, xs, xo, xd, xx⟩, xp, xc, xr⟩
   ·have HF : Hid (placeQ (gs.findIdx? (fun g => (fun a : AcM => decide (a.c.n = n ∧ a.c.s = s)) g.a)) = jj) := hD (by
     rw [fi_at (p := (fun g : AcG => (fun a : AcM => decide (a.c.n = n ∧ a.c.s = s)) g.a)) hjo (fun i hi hij => dF (hq i hi hij)) (by show decide _ = true; rw [hx]; exact dT he)]; exact hjj)
    have hd : decide (xn = n ∧ xs = s) = true := dT he; rw [hd] at HCL; clear hcell hx hk hq hjj hj hlt he htn hxv ow hd; go_wp2_with (go_at_call 161; (with_reducible refine HCL.out.mono ?_); rintro e' w5 ⟨rfl, hk5⟩; have K5 := hD (kT KR.out hk5); clear hk5)
    go_ret; refine ⟨?_, K5.out⟩
    rw [← HRS.out, HF.out]
    rfl
   ·have HE := hD he; have hd : decide (xn = n ∧ xs = s) = false := dF he; rw [hd] at HCL; have hw1 : wrap64 (jj + 1) = jj + 1 := IntWalk.wrap64_in _ (by omega); clear hcell hx hk hq hjj hj hlt he htn hxv ow hd; go_wp2_with (go_at_call 161; (with_reducible refine HCL.out.mono ?_); rintro e' w5 ⟨rfl, hk5⟩; have K5 := hD (kT KR.out hk5); clear hk5)
    go_roundw
    case rel => exact ⟨j + 1, by have := HLT.out; omega, by have := HJ.out; rw [show ((j + 1 : Nat) : Int) = jj + 1 by omega], fun k hk hk2 => by
     rcases Nat.lt_or_eq_of_le (Nat.le_of_lt_succ hk2) with g | rfl
     ·exact HQ.out k hk g
     ·rw [HX.out]; exact HE.out, K5.out⟩
    case measure => have := HJ.out; have := HLT.out; simp [intOf]; omega
  ·have hje : ¬ jj < L := by omega
   have HN := hD (fi_no (p := (fun g : AcG => (fun a : AcM => decide (a.c.n = n ∧ a.c.s = s)) g.a)) (l := gs) (fun i hi => dF (hq i hi (by have := HL.out; omega)))); clear hk hq hjj hj hlt; go_wp2; go_ret; refine ⟨?_, KR.out⟩
   rw [← HRS.out, HN.out]
   rfl
theorem cloChild (xn xs xo xd : Int) (xx : Nat) (xp xc : Int) (av : Option Addr) (nv cv : Nat) (b : Nat) (p : Int) (h0 : 0 ≤ xp ∧ xp ≤ 8) (hb : w.heap[b]? = some (.cells #[p] 3 (0, 0))) : Calls Tryz.prog 111 #[.agg #[xn, xs, xo, xd, xx, xp, xc, .slice av nv cv], .pointer (some ⟨b, 0, none⟩)] w fun r w' => r = .returned (.bool (decide (xp ≠ 0 ∧ xp - 1 = p))) ∧ Kp w w' := by
 have y5 : (w.alloc (.cells #[xn, xs, xo, xd, xx, xp, xc, .slice av nv cv] 92)).cell? ⟨w.heap.size, 5, none⟩ = some (.int .i64 xp) := cU (i := 5) (mH w (.cells #[xn, xs, xo, xd, xx, xp, xc, .slice av nv cv] 92)) rfl; have c0 : (w.alloc (.cells #[xn, xs, xo, xd, xx, xp, xc, .slice av nv cv] 92)).cell? ⟨b, 0, none⟩ = some (.int .i64 p) := kZ (kA _ _) (cU (i := 0) hb rfl); have KA := hD (kA w (.cells #[xn, xs, xo, xd, xx, xp, xc, .slice av nv cv] 92)); obtain ⟨x1, hx1⟩ : ∃ x, xp - 1 = x := ⟨_, rfl⟩
 have hw : IntKind.i64.wrap x1 = x1 := IntWalk.i64_in x1 (by omega); have hw2 : wrap64 x1 = x1 := IntWalk.wrap64_in x1 (by omega)
 by_cases h1 : xp = 0
 ·have g : decide (xp ≠ 0 ∧ xp - 1 = p) = false := dF (fun e => e.1 h1); rw [g]; have g1 : (xp == 0) = true := beq_iff_eq.2 h1; have g2 : (xp != 0) = false := by simp [h1]
  clear g h1 hb h0 hw hw2 hx1; go_enter Tryz.func111, Tryz.ntmps111; go_wp2; go_ret; exact ⟨rfl, KA.out⟩
 ·have g : decide (xp ≠ 0 ∧ xp - 1 = p) = (x1 == p) := by rw [hx1]; by_cases h : x1 = p <;> simp [h, h1]
  rw [g]; have g1 : (xp == 0) = false := by simpa using h1
  have g2 : (xp != 0) = true := by simp [h1]
  obtain ⟨tb, htb⟩ : ∃ x, (x1 == p) = x := ⟨_, rfl⟩
  rw [htb]; clear g h1 hb h0; go_enter Tryz.func111, Tryz.ntmps111; go_wp2; go_ret; exact ⟨rfl, KA.out⟩
theorem ixChild {a0 : Option Addr} {c0 len : Nat} (ow : w.ownsRow B 92 8 (.slice a0 len c0) len (acE.row gs)) (hl : gs.length = len) (h8 : len ≤ 8) (b : Nat) (p : Int) (hp : ∀ g ∈ gs, 0 ≤ g.a.par ∧ g.a.par ≤ 8) (hb : w.heap[b]? = some (.cells #[p] 3 (0, 0))) :
  Calls Tryz.prog 159 #[.slice a0 len c0, .func (.func 111) #[] #[.pointer (some ⟨b, 0, none⟩)]] w fun r w' => r = .returned (.int .i64 (placeQ (gs.findIdx? (fun g => (fun a : AcM => decide (a.par ≠ 0 ∧ a.par - 1 = p)) g.a)))) ∧ Kp w w' := by
 obtain ⟨RS, hRS⟩ : ∃ R, placeQ (gs.findIdx? (fun g => (fun a : AcM => decide (a.par ≠ 0 ∧ a.par - 1 = p)) g.a)) = R := ⟨_, rfl⟩
 rw [hRS]; have HRS := hD hRS; obtain ⟨L, hL⟩ : ∃ L : Int, (len : Int) = L := ⟨_, rfl⟩
 obtain ⟨HL, HLL, H8, HO, HB, HPP⟩ := hD6 hl hL h8 ow hb hp; clear hRS ow hl h8 hb hp; go_enter Tryz.func159, Tryz.ntmps159; go_wp2; go_loopw [8] (fun i wr => ∃ j : Nat, j ≤ len ∧ i = .int .i64 j ∧ (∀ k (hk : k < gs.length), k < j → ¬ (fun a : AcM => a.par ≠ 0 ∧ a.par - 1 = p) gs[k].a) ∧ Kp w wr) (fun i _ => len - (intOf i).toNat)
 case atStart => exact ⟨0, Nat.zero_le _, rfl, fun k _ h => by omega, Kp.refl _⟩
 case round =>
  obtain ⟨j, hj, rfl, hq, hk⟩ := hrel; obtain ⟨KR, HQ⟩ := hD2 hk hq; obtain ⟨jj, hjj⟩ : ∃ jj : Int, (j : Int) = jj := ⟨_, rfl⟩
  rw [hjj]; have HJ := hD hjj
  by_cases hlt : j < len
  ·have hjl : jj < L := by omega
   have hj0 : 0 ≤ jj := by omega
   have hL8 : L ≤ 8 := by have := H8.out; omega
   have htn : jj.toNat = j := by omega
   have ow := oK HO.out hk; obtain ⟨g, cp, ev, hcp, hgB, hgl, hfz, hcell⟩ := cQ (E := acE) ow HL.out hlt; have ev := congrArg (fun v => match v with | Value.slice a _ _ => a | _ => none) ev; dsimp only at ev; subst ev; have hjo : j < gs.length := by have := HL.out; omega
   obtain ⟨⟨⟨⟨xn, xs, xo, xd, xx⟩, xp, xc, xr⟩, xb, xk⟩, hx⟩ : ∃ x, gs[j]'hjo = x := ⟨_, rfl⟩
   rw [hx, show acE.k = 8 from rfl, ← htn] at hcell; obtain ⟨xv, hxv⟩ : ∃ v, (⟨⟨⟨xn, xs, xo, xd, xx⟩, xp, xc, xr⟩, xb, xk⟩ : AcG).v = v := ⟨_, rfl⟩
   obtain ⟨x0, x1, x2, x3, x4, x5, x6, -⟩ := cW8 hcell; have x7 : wr.cell? ⟨g, jj.toNat * 8 + 7, none⟩ = some xv := by rw [← hxv]; exact hcell 7 _ (by decide) rfl
   obtain ⟨av, nv, cv, exv⟩ : ∃ a n c, xv = .slice a n c := ⟨_, _, _, hxv.symm⟩
   subst exv; have HCL := hD (cloChild xn xs xo xd xx xp xc av nv cv b p (by have := HPP.out _ (List.getElem_mem hjo); rw [hx] at this; exact this) (rZ hk HB.out)); obtain ⟨HLT, HX⟩ := hD2 hlt hx
   by_cases he : (fun a : AcM => a.par ≠ 0 ∧ a.par - 1 = p) ⟨⟨xn, xs, xo, xd, xx⟩, xp, xc, xr⟩
   ·have HF : Hid (placeQ (gs.findIdx? (fun g => (fun a : AcM => decide (a.par ≠ 0 ∧ a.par - 1 = p)) g.a)) = jj) := hD (by
     rw [fi_at (p := (fun g : AcG => (fun a : AcM => decide (a.par ≠ 0 ∧ a.par - 1 = p)) g.a)) hjo (fun i hi hij => dF (hq i hi hij)) (by show decide _ = true; rw [hx]; exact dT he)]; exact hjj)
    have hd : decide (xp ≠ 0 ∧ xp - 1 = p) = true := dT he; rw [hd] at HCL; clear hcell hx hk hq hjj hj hlt he htn hxv ow hd; go_wp2_with (go_at_call 111; (with_reducible refine HCL.out.mono ?_); rintro e' w5 ⟨rfl, hk5⟩; have K5 := hD (kT KR.out hk5); clear hk5)
    go_ret; refine ⟨?_, K5.out⟩
    rw [← HRS.out, HF.out]
    rfl
   ·have HE := hD he; have hd : decide (xp ≠ 0 ∧ xp - 1 = p) = false := dF he; rw [hd] at HCL; have hw1 : wrap64 (jj + 1) = jj + 1 := IntWalk.wrap64_in _ (by omega); clear hcell hx hk hq hjj hj hlt he htn hxv ow hd; go_wp2_with (go_at_call 111; (with_reducible refine HCL.out.mono ?_); rintro e' w5 ⟨rfl, hk5⟩; have K5 := hD (kT KR.out hk5); clear hk5)
    go_roundw
    case rel => exact ⟨j + 1, by have := HLT.out; omega, by have := HJ.out; rw [show ((j + 1 : Nat) : Int) = jj + 1 by omega], fun k hk hk2 => by
     rcases Nat.lt_or_eq_of_le (Nat.le_of_lt_succ hk2) with g | rfl
     ·exact HQ.out k hk g
     ·rw [HX.out]; exact HE.out, K5.out⟩
    case measure => have := HJ.out; have := HLT.out; simp [intOf]; omega
  ·have hje : ¬ jj < L := by omega
   have HN := hD (fi_no (p := (fun g : AcG => (fun a : AcM => decide (a.par ≠ 0 ∧ a.par - 1 = p)) g.a)) (l := gs) (fun i hi => dF (hq i hi (by have := HL.out; omega)))); clear hk hq hjj hj hlt; go_wp2; go_ret; refine ⟨?_, KR.out⟩
   rw [← HRS.out, HN.out]
   rfl
theorem cloGone (xn xs xo xd : Int) (xx : Nat) (xp xc : Int) (av : Option Addr) (nv cv : Nat) (b : Nat) (n s : Int) (hb : w.cell? ⟨b, 1, none⟩ = some (.int .i64 n) ∧ w.cell? ⟨b, 2, none⟩ = some (.int .i64 s)) : Calls Tryz.prog 191 #[.agg #[xn, xs, xo, xd, xx, xp, xc, .slice av nv cv], .pointer (some ⟨b, 0, none⟩)] w fun r w' => r = .returned (.bool (decide (xn = n ∧ xs = s))) ∧ Kp w w' := by
 have y0 : (w.alloc (.cells #[xn, xs, xo, xd, xx, xp, xc, .slice av nv cv] 92)).cell? ⟨w.heap.size, 0, none⟩ = some (.int .i64 xn) := cU (i := 0) (mH w (.cells #[xn, xs, xo, xd, xx, xp, xc, .slice av nv cv] 92)) rfl; have y1 : (w.alloc (.cells #[xn, xs, xo, xd, xx, xp, xc, .slice av nv cv] 92)).cell? ⟨w.heap.size, 1, none⟩ = some (.int .i64 xs) := cU (i := 1) (mH w (.cells #[xn, xs, xo, xd, xx, xp, xc, .slice av nv cv] 92)) rfl; have c0 : (w.alloc (.cells #[xn, xs, xo, xd, xx, xp, xc, .slice av nv cv] 92)).cell? ⟨b, 1, none⟩ = some (.int .i64 n) := kZ (kA _ _) hb.1; have c1 : (w.alloc (.cells #[xn, xs, xo, xd, xx, xp, xc, .slice av nv cv] 92)).cell? ⟨b, 2, none⟩ = some (.int .i64 s) := kZ (kA _ _) hb.2; have KA := hD (kA w (.cells #[xn, xs, xo, xd, xx, xp, xc, .slice av nv cv] 92)); have heq : ∀ w, (binOp .eql 25 (.agg #[xn, xs]) (.agg #[n, s])).run Tryz.prog w = .ok (.bool (decide (xn = n ∧ xs = s))) w := fun w => act_eql9 xn xs n s w
 have heg := fun op x y (w : World) => act_guard9 op x y xn xs n s w
 obtain ⟨tb, htb⟩ : ∃ x, decide (xn = n ∧ xs = s) = x := ⟨_, rfl⟩
 rw [htb] at heq ⊢; clear hb htb; go_enter Tryz.func191, Tryz.ntmps191; go_wp2; go_ret; exact ⟨rfl, KA.out⟩
theorem ixGone {a0 : Option Addr} {c0 len : Nat} (ow : w.ownsRow B 92 8 (.slice a0 len c0) len (acE.row gs)) (hl : gs.length = len) (h8 : len ≤ 8) (b : Nat) (n s : Int) (hb : w.cell? ⟨b, 1, none⟩ = some (.int .i64 n) ∧ w.cell? ⟨b, 2, none⟩ = some (.int .i64 s)) :
  Calls Tryz.prog 159 #[.slice a0 len c0, .func (.func 191) #[] #[.pointer (some ⟨b, 0, none⟩)]] w fun r w' => r = .returned (.int .i64 (placeQ (gs.findIdx? (fun g => (fun a : AcM => decide (a.c.n = n ∧ a.c.s = s)) g.a)))) ∧ Kp w w' := by
 obtain ⟨RS, hRS⟩ : ∃ R, placeQ (gs.findIdx? (fun g => (fun a : AcM => decide (a.c.n = n ∧ a.c.s = s)) g.a)) = R := ⟨_, rfl⟩
 rw [hRS]; have HRS := hD hRS; obtain ⟨L, hL⟩ : ∃ L : Int, (len : Int) = L := ⟨_, rfl⟩
 obtain ⟨HL, HLL, H8, HO, HB⟩ := hD5 hl hL h8 ow hb; clear hRS ow hl h8 hb; go_enter Tryz.func159, Tryz.ntmps159; go_wp2; go_loopw [8] (fun i wr => ∃ j : Nat, j ≤ len ∧ i = .int .i64 j ∧ (∀ k (hk : k < gs.length), k < j → ¬ (fun a : AcM => a.c.n = n ∧ a.c.s = s) gs[k].a) ∧ Kp w wr) (fun i _ => len - (intOf i).toNat)
 case atStart => exact ⟨0, Nat.zero_le _, rfl, fun k _ h => by omega, Kp.refl _⟩
 case round =>
  obtain ⟨j, hj, rfl, hq, hk⟩ := hrel; obtain ⟨KR, HQ⟩ := hD2 hk hq; obtain ⟨jj, hjj⟩ : ∃ jj : Int, (j : Int) = jj := ⟨_, rfl⟩
  rw [hjj]; have HJ := hD hjj
  by_cases hlt : j < len
  ·have hjl : jj < L := by omega
   have hj0 : 0 ≤ jj := by omega
   have hL8 : L ≤ 8 := by have := H8.out; omega
   have htn : jj.toNat = j := by omega
   have ow := oK HO.out hk; obtain ⟨g, cp, ev, hcp, hgB, hgl, hfz, hcell⟩ := cQ (E := acE) ow HL.out hlt; have ev := congrArg (fun v => match v with | Value.slice a _ _ => a | _ => none) ev; dsimp only at ev; subst ev; have hjo : j < gs.length := by have := HL.out; omega
   obtain ⟨⟨⟨⟨xn, xs, xo, xd, xx⟩, xp, xc, xr⟩, xb, xk⟩, hx⟩ : ∃ x, gs[j]'hjo = x := ⟨_, rfl⟩
   rw [hx, show acE.k = 8 from rfl, ← htn] at hcell; obtain ⟨xv, hxv⟩ : ∃ v, (⟨⟨⟨xn, xs, xo, xd, xx⟩, xp, xc, xr⟩, xb, xk⟩ : AcG).v = v := ⟨_, rfl⟩
   obtain ⟨x0, x1, x2, x3, x4, x5, x6, -⟩ := cW8 hcell; have x7 : wr.cell? ⟨g, jj.toNat * 8 + 7, none⟩ = some xv := by rw [← hxv]; exact hcell 7 _ (by decide) rfl
   obtain ⟨av, nv, cv, exv⟩ : ∃ a n c, xv = .slice a n c := ⟨_, _, _, hxv.symm⟩
   subst exv; have HCL := hD (cloGone xn xs xo xd xx xp xc av nv cv b n s (⟨kZ hk HB.out.1, kZ hk HB.out.2⟩)); obtain ⟨HLT, HX⟩ := hD2 hlt hx
   by_cases he : (fun a : AcM => a.c.n = n ∧ a.c.s = s) ⟨⟨xn, xs, xo, xd, xx⟩, xp, xc, xr⟩
   ·have HF : Hid (placeQ (gs.findIdx? (fun g => (fun a : AcM => decide (a.c.n = n ∧ a.c.s = s)) g.a)) = jj) := hD (by
     rw [fi_at (p := (fun g : AcG => (fun a : AcM => decide (a.c.n = n ∧ a.c.s = s)) g.a)) hjo (fun i hi hij => dF (hq i hi hij)) (by show decide _ = true; rw [hx]; exact dT he)]; exact hjj)
    have hd : decide (xn = n ∧ xs = s) = true := dT he; rw [hd] at HCL; clear hcell hx hk hq hjj hj hlt he htn hxv ow hd; go_wp2_with (go_at_call 191; (with_reducible refine HCL.out.mono ?_); rintro e' w5 ⟨rfl, hk5⟩; have K5 := hD (kT KR.out hk5); clear hk5)
    go_ret; refine ⟨?_, K5.out⟩
    rw [← HRS.out, HF.out]
    rfl
   ·have HE := hD he; have hd : decide (xn = n ∧ xs = s) = false := dF he; rw [hd] at HCL; have hw1 : wrap64 (jj + 1) = jj + 1 := IntWalk.wrap64_in _ (by omega); clear hcell hx hk hq hjj hj hlt he htn hxv ow hd; go_wp2_with (go_at_call 191; (with_reducible refine HCL.out.mono ?_); rintro e' w5 ⟨rfl, hk5⟩; have K5 := hD (kT KR.out hk5); clear hk5)
    go_roundw
    case rel => exact ⟨j + 1, by have := HLT.out; omega, by have := HJ.out; rw [show ((j + 1 : Nat) : Int) = jj + 1 by omega], fun k hk hk2 => by
     rcases Nat.lt_or_eq_of_le (Nat.le_of_lt_succ hk2) with g | rfl
     ·exact HQ.out k hk g
     ·rw [HX.out]; exact HE.out, K5.out⟩
    case measure => have := HJ.out; have := HLT.out; simp [intOf]; omega
  ·have hje : ¬ jj < L := by omega
   have HN := hD (fi_no (p := (fun g : AcG => (fun a : AcM => decide (a.c.n = n ∧ a.c.s = s)) g.a)) (l := gs) (fun i hi => dF (hq i hi (by have := HL.out; omega)))); clear hk hq hjj hj hlt; go_wp2; go_ret; refine ⟨?_, KR.out⟩
   rw [← HRS.out, HN.out]
   rfl
theorem info_rgL0 : (Tryz.prog.info? 96).map (fun i => (i.zero, i.size, i.bytes)) = some (some (.agg #[(0:Int), (0:Int), (0:Int), (0:Int), (0:Int), (0:Int)]), 6, 48) := by kernel_rfl
theorem info_rgL : ∃ i0, Tryz.prog.info? 96 = some i0 ∧ i0.zero = some (.agg #[(0:Int), (0:Int), (0:Int), (0:Int), (0:Int), (0:Int)]) ∧ i0.size = 6 ∧ i0.bytes = 48 := by
 have h := info_rgL0
 cases g : Tryz.prog.info? 96 with
 | none => rw [g] at h; cases h
 | some i0 =>
  rw [g] at h; simp only [Option.map_some, Option.some.injEq, Prod.mk.injEq] at h
  exact ⟨i0, rfl, h.1, h.2.1, h.2.2⟩
theorem ty_rgL : TyG Tryz.prog 90 96 6 (.agg #[(0:Int), (0:Int), (0:Int), (0:Int), (0:Int), (0:Int)]) 48 := ⟨Tryz.underlying90, info_rgL, rfl, by decide⟩
theorem info_ptL0 : (Tryz.prog.info? 119).map (fun i => (i.zero, i.size, i.bytes)) = some (some (.agg #[(0:Int), (0:Int), (0:Int), (0:Int), (0:Int), (0:Int), (0:Int)]), 7, 56) := by kernel_rfl
theorem info_ptL : ∃ i0, Tryz.prog.info? 119 = some i0 ∧ i0.zero = some (.agg #[(0:Int), (0:Int), (0:Int), (0:Int), (0:Int), (0:Int), (0:Int)]) ∧ i0.size = 7 ∧ i0.bytes = 56 := by
 have h := info_ptL0
 cases g : Tryz.prog.info? 119 with
 | none => rw [g] at h; cases h
 | some i0 =>
  rw [g] at h; simp only [Option.map_some, Option.some.injEq, Prod.mk.injEq] at h
  exact ⟨i0, rfl, h.1, h.2.1, h.2.2⟩
theorem ty_ptL : TyG Tryz.prog 164 119 7 (.agg #[(0:Int), (0:Int), (0:Int), (0:Int), (0:Int), (0:Int), (0:Int)]) 56 := ⟨Tryz.underlying164, info_ptL, rfl, by decide⟩
theorem info_acL0 : (Tryz.prog.info? 92).map (fun i => (i.zero, i.size, i.bytes)) = some (some (.agg #[(0:Int), (0:Int), (0:Int), (0:Int), .float .f64 0, (0:Int), (0:Int), .slice none 0 0]), 8, 80) := by kernel_rfl
theorem info_acL : ∃ i0, Tryz.prog.info? 92 = some i0 ∧ i0.zero = some (.agg #[(0:Int), (0:Int), (0:Int), (0:Int), .float .f64 0, (0:Int), (0:Int), .slice none 0 0]) ∧ i0.size = 8 ∧ i0.bytes = 80 := by
 have h := info_acL0
 cases g : Tryz.prog.info? 92 with
 | none => rw [g] at h; cases h
 | some i0 =>
  rw [g] at h; simp only [Option.map_some, Option.some.injEq, Prod.mk.injEq] at h
  exact ⟨i0, rfl, h.1, h.2.1, h.2.2⟩
theorem ty_acL : TyG Tryz.prog 88 92 8 (.agg #[(0:Int), (0:Int), (0:Int), (0:Int), .float .f64 0, (0:Int), (0:Int), .slice none 0 0]) 80 := ⟨Tryz.underlying88, info_acL, rfl, by decide⟩
theorem cloneR_any (v : Value) (f : List RgM) (hl : f.length ≤ 100) (hp : PartG rgE v f w) :
  Calls Tryz.prog 136 #[v] w fun r w' => ∃ v', r = .returned v' ∧ w'.ownsRow w.heap.size 96 6 v' f.length (rgE.row f) ∧ Kp w w' := by
 obtain ⟨a, cap, rfl, hno, hc⟩ := hp
 cases a with
 | none =>
  obtain ⟨h0, rfl⟩ := hno rfl; have hf : f = [] := List.length_eq_zero_iff.1 h0; subst hf; have heqn := Lib.run_eql_slice_nil (P := Tryz.prog) w 90 96 none 0 0 0 0 Tryz.underlying90; clear hno hc; go_enter Tryz.func136, Tryz.ntmps136; go_wp2; go_ret; exact ⟨_, rfl, World.ownsRow_nil _ _ _ _, Kp.refl _⟩
 | some ad =>
  have HP := hD (show PartG rgE (.slice (some ad) f.length cap) f w from ⟨some ad, cap, rfl, hno, hc⟩); have K1 := hD (kA w (.cells #[] 96)); have O1 := hD (show (w.alloc (.cells #[] 96)).ownsRow w.heap.size 96 6 (.slice (some ⟨w.heap.size, 0, none⟩) 0 0) 0 (rgE.row []) from ⟨by simp [EncG.row], Or.inr ⟨w.heap.size, 0, #[], rfl, Nat.le_refl _, (mH w _), Nat.le_refl _, by omega, by simp, by simp [EncG.row]⟩⟩); have HL := hD hl; have heqn := Lib.run_eql_slice_nil (P := Tryz.prog) w 90 96 (some ad) f.length cap 0 0 Tryz.underlying90; clear hno hc hl; go_enter Tryz.func136, Tryz.ntmps136; go_wp2_with (at_builtin; refine aG (E := rgE) ty_rgL (by decide) _ rfl (.tmp 5) (.tmp 6) rfl w.heap.size _ _ [] rfl O1.out _ f rfl (HP.out.kp K1.out) ?f1 ?f2 ?_)
  case f1 => have := HL.out; omega
  case f2 => exact Below.size K1.out
  rintro v2 w2 ho2 hgr2 hb2; have hk2 : Kp w w2 := Below.grown K1.out hgr2 (Below.size K1.out) (fun k hk => (O1.out.lt k hk).1); obtain ⟨O2, K2⟩ := hD2 ho2 hk2; clear ho2 hgr2 hk2 hb2; go_wp2; go_ret; exact ⟨_, rfl, O2.out, K2.out⟩
theorem apart_any (xn xs xo xd : Int) (xx : Nat) (xp xc : Int) (av : Option Addr) (nv cv : Nat) (xr : List RgM) (hn : xr.length = nv) (h100 : xr.length ≤ 100) (hp : PartG rgE (.slice av nv cv) xr w) :
  Calls Tryz.prog 82 #[.agg #[xn, xs, xo, xd, xx, xp, xc, .slice av nv cv]] w fun r w' => ∃ o' c', r = .returned (.agg #[xn, xs, xo, xd, xx, xp, xc, (.slice o' nv c')]) ∧ w'.ownsRow w.heap.size 96 6 (.slice o' nv c') nv (rgE.row xr) ∧ Kp w w' := by
 have k1 : Kp w ((w.alloc (.cells #[xn, xs, xo, xd, xx, xp, xc, .slice av nv cv] 92)).alloc (.cells #[(0:Int), (0:Int), (0:Int), (0:Int), .float .f64 0, (0:Int), (0:Int), .slice none 0 0] 92)) := kT (kA _ _) (kA _ _); have r1 := nX0 w (.cells #[xn, xs, xo, xd, xx, xp, xc, .slice av nv cv] 92) (.cells #[(0:Int), (0:Int), (0:Int), (0:Int), .float .f64 0, (0:Int), (0:Int), .slice none 0 0] 92); have r2 := nX1 w (.cells #[xn, xs, xo, xd, xx, xp, xc, .slice av nv cv] 92) (.cells #[(0:Int), (0:Int), (0:Int), (0:Int), .float .f64 0, (0:Int), (0:Int), .slice none 0 0] 92); obtain ⟨W, hW⟩ : ∃ W, ((w.alloc (.cells #[xn, xs, xo, xd, xx, xp, xc, .slice av nv cv] 92)).alloc (.cells #[(0:Int), (0:Int), (0:Int), (0:Int), .float .f64 0, (0:Int), (0:Int), .slice none 0 0] 92)) = W := ⟨_, rfl⟩
 have hsz : W.heap.size = w.heap.size + 1 + 1 := by rw [← hW]; simp
 rw [hW] at k1 r1 r2; obtain ⟨y0, y1, y2, y3, y4, y5, y6, y7⟩ := c8X r1; have HC := hD (cloneR_any (.slice av nv cv) xr h100 (hp.kp k1)); obtain ⟨K1, R1, R2, HN, HSZ⟩ := hD5 k1 r1 r2 hn hsz; have hsf := sF; clear hp k1 r1 r2 hn h100 hsz; go_enter Tryz.func82, Tryz.ntmps82; go_wp2_with (go_at_call 136; (with_reducible refine HC.out.mono ?_); rintro e' w3 ⟨v', rfl, ho, hk⟩; obtain ⟨o', c', rfl⟩ := fG ho; rw [HN.out] at ho ⊢; have r1 := rZ hk R1.out; have r2 := rZ hk R2.out; have fz := fQ r1 7; have z7 : w3.cell? ⟨w.heap.size, 7, none⟩ = some (.slice av nv cv) := cU (i := 7) r1 rfl; obtain ⟨w4, hw4⟩ : ∃ x, w3.setCell ⟨w.heap.size, 7, none⟩ (.slice o' nv c') = x := ⟨_, rfl⟩; have r4 : w4.heap[w.heap.size]? = some (.cells #[xn, xs, xo, xd, xx, xp, xc, (.slice o' nv c')] 92) := (by rw [← hw4]; exact (Joins.block_setCell r1 _).trans rfl); have z4 : w4.heap[w.heap.size + 1]? = some (.cells #[(0:Int), (0:Int), (0:Int), (0:Int), .float .f64 0, (0:Int), (0:Int), .slice none 0 0] 92) := (by rw [← hw4, bS _ _ _ _ (by simp)]; exact r2); have o4 : w4.ownsRow W.heap.size 96 6 (.slice o' nv c') nv (rgE.row xr) := (by rw [← hw4]; exact sG ho (fun b e => bS _ _ _ _ (fun e2 => by have := (ho.lt b e).1; have := HSZ.out; dsimp only at e2; omega))); have k4 : Kp w w4 := (by rw [← hw4]; exact Below.setCell (kT K1.out hk) (Nat.le_refl _) _); obtain ⟨g0, g1, g2, g3, g4, g5, g6, g7⟩ := c8X r4; obtain ⟨u0, u1, u2, u3, u4, u5, u6, u7⟩ := c8X z4; have fz4 := fQ z4; obtain ⟨Z4, O4, K4⟩ := hD3 z4 o4 k4; clear ho hk r1 r2 r4 z4 o4 k4)
 refine bodyPost_ret (results_cell_row (p := 2) rfl _ _ (w.heap.size + 1) 92 _ (0, 0) _ rfl (set_8 (.int .i64 xn) (.int .i64 xs) (.int .i64 xo) (.int .i64 xd) (.float .f64 xx) (.int .i64 xp) (.int .i64 xc) (.slice o' nv c') Z4.out) Tryz.underlying92 rfl (by kernel_rfl)) rfl ?_
 refine ⟨o', c', rfl, ?_, set_8_kp K4.out (by omega) _ _ _ _ _ _ _ _⟩
 refine bG (sG O4.out (fun b e => ?_)) (base' := w.heap.size) (by have := HSZ.out; omega)
 have hb := (O4.out.lt b e).1; have hs := HSZ.out; rw [bS _ _ _ _ (by dsimp only; omega), bS _ _ _ _ (by dsimp only; omega), bS _ _ _ _ (by dsimp only; omega), bS _ _ _ _ (by dsimp only; omega), bS _ _ _ _ (by dsimp only; omega), bS _ _ _ _ (by dsimp only; omega), bS _ _ _ _ (by dsimp only; omega), bS _ _ _ _ (by dsimp only; omega)]
def acV (a : AcM) (o : Option Addr) (c : Nat) : Array Value := #[.int .i64 a.c.n, .int .i64 a.c.s, .int .i64 a.c.o, .int .i64 a.c.d, .float .f64 a.c.x, .int .i64 a.par, .int .i64 a.dec, .slice o a.regs.length c]
def zeroA : AcM := ⟨⟨0, 0, 0, 0, 0⟩, 0, 0, []⟩
def OutA (m : StM) (pl : Option Nat) (v : Array Value) (N : Nat) (w : World) : Prop :=
 ∃ a o c, v = acV a o c ∧ (match pl with | none => a = zeroA ∧ o = none ∧ c = 0 | some i => m.acts[i]? = some a) ∧ w.ownsRow N 96 6 (.slice o a.regs.length c) a.regs.length (rgE.row a.regs)
theorem OutA.form {pl : Option Nat} {v : Array Value} {N : Nat} (h : OutA m pl v N w) : ∃ xn xs xo xd xx xp xc o n c, v = #[.int .i64 xn, .int .i64 xs, .int .i64 xo, .int .i64 xd, .float .f64 xx, .int .i64 xp, .int .i64 xc, .slice o n c] := by
 obtain ⟨a, o, c, h1, h2, h3⟩ := h; exact ⟨_, _, _, _, _, _, _, _, _, _, h1⟩
theorem fi_map {p : AcM → Bool} : (gs.map AcG.a).findIdx? p = gs.findIdx? (fun g => p g.a) := by
 rw [List.findIdx?_map]
 rfl
theorem firstFind (H : GS tyL B q m gs va vp w) (h8 : gs.length ≤ 8) (h6 : ∀ g ∈ gs, g.a.regs.length ≤ 6) (b : Nat) (n s : Int) (hb : w.heap[b]? = some (.cells #[n, s] 25 (0, 0))) :
  Calls Tryz.prog 110 #[.pointer (some ⟨q, 0, none⟩), .func (.func 161) #[] #[.pointer (some ⟨b, 0, none⟩)]] w fun r w' => ∃ v, r = .returned (.tuple #[.agg v, .bool (m.acts.findIdx? (fun a => decide (a.c.n = n ∧ a.c.s = s))).isSome]) ∧ OutA m (m.acts.findIdx? (fun a => decide (a.c.n = n ∧ a.c.s = s))) v w.heap.size w' ∧ Kp w w' := by
 rw [show m.acts.findIdx? (fun a => decide (a.c.n = n ∧ a.c.s = s)) = gs.findIdx? (fun g => (fun a : AcM => decide (a.c.n = n ∧ a.c.s = s)) g.a) by rw [H.acts, fi_map]]; obtain ⟨PL, hPL⟩ : ∃ R, gs.findIdx? (fun g => (fun a : AcM => decide (a.c.n = n ∧ a.c.s = s)) g.a) = R := ⟨_, rfl⟩
 obtain ⟨a0, c0, eva⟩ := H.vForm; subst eva; obtain ⟨len, hl⟩ : ∃ x, gs.length = x := ⟨_, rfl⟩
 have e0 : w.cell? ⟨q, 2, none⟩ = some (.slice a0 len c0) := by rw [← hl]; exact cU (i := 2) H.row rfl
 have kz := kA w (.cells #[(0:Int), (0:Int), (0:Int), (0:Int), .float .f64 0, (0:Int), (0:Int), .slice none 0 0] 92); have rz := (mH w (.cells #[(0:Int), (0:Int), (0:Int), (0:Int), .float .f64 0, (0:Int), (0:Int), .slice none 0 0] 92))
 obtain ⟨W, hW⟩ : ∃ W, w.alloc (.cells #[(0:Int), (0:Int), (0:Int), (0:Int), .float .f64 0, (0:Int), (0:Int), .slice none 0 0] 92) = W := ⟨_, rfl⟩
 rw [hW] at kz rz; have e0 := kZ kz e0; have ho : w.ownsRow B 92 8 (.slice a0 len c0) len (acE.row gs) := by have := H.oa; rw [hl] at this; exact this
 have hix := ixFind (oK ho kz) hl (by omega) b n s (rZ kz hb); rw [hPL] at hix ⊢; obtain ⟨HIX, HH, HO, HL, KZ, RZ⟩ := hD6 hix H ho hl kz rz; have fz := fQ rz; obtain ⟨L, hL⟩ : ∃ L : Int, (len : Int) = L := ⟨_, rfl⟩
 obtain ⟨HLL, L8⟩ := hD2 hL h8; have hsf := sF
 cases PL with
 | none =>
  have hn : placeQ none = -1 := rfl; rw [hn] at HIX; clear H h8 h6 hb hPL hl kz rz ho hix hn hL; go_enter Tryz.func110, Tryz.ntmps110; go_wp2_with (go_at_call 159; (with_reducible refine HIX.out.mono ?_); rintro e' w2 ⟨rfl, hk⟩; have r2 := rZ hk RZ.out; obtain ⟨u0, u1, u2, u3, u4, u5, u6, u7⟩ := c8X r2; have fz2 := fQ r2; have K2 := hD (kT KZ.out hk); have R2 := hD r2; clear hk r2)
  refine bodyPost_ret (rQ (p := 4) (u := 5) rfl _ _ w.heap.size 92 _ (0, 0) _ rfl (set_8 (.int .i64 0) (.int .i64 0) (.int .i64 0) (.int .i64 0) (.float .f64 0) (.int .i64 0) (.int .i64 0) (.slice none 0 0) R2.out) Tryz.underlying92 rfl (by kernel_rfl)) rfl ?_
  exact ⟨_, rfl, ⟨zeroA, none, 0, rfl, ⟨rfl, rfl, rfl⟩, World.ownsRow_nil _ _ _ _⟩, set_8_kp K2.out (Nat.le_refl _) _ _ _ _ _ _ _ _⟩
 | some i =>
  have hi : i < gs.length := (List.findIdx?_eq_some_iff_getElem.1 hPL).1; obtain ⟨ii, hii⟩ : ∃ ii : Int, (i : Int) = ii := ⟨_, rfl⟩
  have hpl : placeQ (some i) = ii := hii; rw [hpl] at HIX; have htn : ii.toNat = i := by omega
  have hi0 : 0 ≤ ii := by omega
  have hiL : ii < L := by omega
  have g0 : decide (ii < 0) = false := dF (by omega); obtain ⟨ga, cpa, eva, hcpa, hgB, hgl, hfz, hcell⟩ := cQ (E := acE) ho hl (by omega : i < len); obtain ⟨⟨⟨⟨xn, xs, xo, xd, xx⟩, xp, xc, xr⟩, xb, xk⟩, hx⟩ : ∃ x, gs[i]'hi = x := ⟨_, rfl⟩
  have hcell2 : ∀ (j : Nat) (u : Value), j < acE.k → (acE.enc (gs[i]'hi))[j]? = some u → w.cell? ⟨ga, i * acE.k + j, none⟩ = some u := hcell; rw [hx, show acE.k = 8 from rfl, ← htn] at hcell2; have eva := congrArg (fun v => match v with | Value.slice a _ _ => a | _ => none) eva; dsimp only at eva; subst eva; obtain ⟨nv, hnv⟩ : ∃ n, xr.length = n := ⟨_, rfl⟩
  obtain ⟨x0, x1, x2, x3, x4, x5, x6, -⟩ := cW8 hcell2; have x7 : w.cell? ⟨ga, ii.toNat * 8 + 7, none⟩ = some (.slice xb nv xk) := by rw [← hnv]; exact hcell2 7 _ (by decide) rfl
  have hgm : (⟨⟨⟨xn, xs, xo, xd, xx⟩, xp, xc, xr⟩, xb, xk⟩ : AcG) ∈ gs := by rw [← hx]; exact List.getElem_mem hi
  have hP : PartG rgE (.slice xb nv xk) xr w := by have := qG (E := rgE) (by decide) (H.og _ hgm); unfold AcG.v at this; dsimp only at this; rw [hnv] at this; exact this
  have h66 : xr.length ≤ 6 := h6 _ hgm; have hma : m.acts[i]? = some ⟨⟨xn, xs, xo, xd, xx⟩, xp, xc, xr⟩ := by rw [H.acts, List.getElem?_map, List.getElem?_eq_getElem hi, hx]; rfl
  have HAP := hD (fun (w1 : World) (hk : Kp w w1) => apart_any (w := w1) xn xs xo xd xx xp xc xb nv xk xr hnv (by omega) (hP.kp hk)); obtain ⟨HMA, HNV⟩ := hD2 hma hnv; have X := hD (And.intro x0 (And.intro x1 (And.intro x2 (And.intro x3 (And.intro x4 (And.intro x5 (And.intro x6 x7))))))); clear H h8 h6 hb hPL hl kz rz ho hix hpl hii hi hcpa hgB hgl hfz hcell hcell2 hx hgm hP h66 hma hnv htn; go_enter Tryz.func110, Tryz.ntmps110; go_wp2_with (first | (go_at_call 159; (with_reducible refine HIX.out.mono ?_); rintro e' w2 ⟨rfl, hk⟩; have r2 := rZ hk RZ.out; have K2 := hD (kT KZ.out hk); have R2 := hD r2; have e0 := kZ hk e0; have x0 := kZ K2.out x0; have x1 := kZ K2.out x1; have x2 := kZ K2.out x2; have x3 := kZ K2.out x3; have x4 := kZ K2.out x4; have x5 := kZ K2.out x5; have x6 := kZ K2.out x6; have x7 := kZ K2.out x7; clear hk r2) | (go_at_call 82; (with_reducible refine (HAP.out _ K2.out).mono ?_); rintro e' w3 ⟨o', c', rfl, hO, hk⟩; have r3 := rZ hk R2.out; obtain ⟨u0, u1, u2, u3, u4, u5, u6, u7⟩ := c8X r3; have fz3 := fQ r3; have K3 := hD (kT K2.out hk); obtain ⟨R3, O3⟩ := hD2 r3 hO; clear hk r3 hO))
  refine bodyPost_ret (rQ (p := 4) (u := 5) rfl _ _ w.heap.size 92 _ (0, 0) _ rfl (set_8 (.int .i64 xn) (.int .i64 xs) (.int .i64 xo) (.int .i64 xd) (.float .f64 xx) (.int .i64 xp) (.int .i64 xc) (.slice o' nv c') R3.out) Tryz.underlying92 rfl (by kernel_rfl)) rfl ?_
  refine ⟨_, rfl, ⟨⟨⟨xn, xs, xo, xd, xx⟩, xp, xc, xr⟩, o', c', by rw [acV, HNV.out], HMA.out, ?_⟩, set_8_kp K3.out (Nat.le_refl _) _ _ _ _ _ _ _ _⟩
  have szK := oZ R2.out; have O4 : w3.ownsRow w2.heap.size 96 6 (.slice o' xr.length c') xr.length (rgE.row xr) := by rw [HNV.out]; exact O3.out
  refine bG (sG O4 (fun b e => ?_)) (kS K2.out)
  have hb := (O4.lt b e).1; rw [bS _ _ _ _ (by dsimp only; omega), bS _ _ _ _ (by dsimp only; omega), bS _ _ _ _ (by dsimp only; omega), bS _ _ _ _ (by dsimp only; omega), bS _ _ _ _ (by dsimp only; omega), bS _ _ _ _ (by dsimp only; omega), bS _ _ _ _ (by dsimp only; omega), bS _ _ _ _ (by dsimp only; omega)]
theorem firstChild (H : GS tyL B q m gs va vp w) (h8 : gs.length ≤ 8) (h6 : ∀ g ∈ gs, g.a.regs.length ≤ 6) (b : Nat) (p : Int) (hp : ∀ g ∈ gs, 0 ≤ g.a.par ∧ g.a.par ≤ 8) (hb : w.heap[b]? = some (.cells #[p] 3 (0, 0))) :
  Calls Tryz.prog 110 #[.pointer (some ⟨q, 0, none⟩), .func (.func 111) #[] #[.pointer (some ⟨b, 0, none⟩)]] w fun r w' => ∃ v, r = .returned (.tuple #[.agg v, .bool (m.acts.findIdx? (fun a => decide (a.par ≠ 0 ∧ a.par - 1 = p))).isSome]) ∧ OutA m (m.acts.findIdx? (fun a => decide (a.par ≠ 0 ∧ a.par - 1 = p))) v w.heap.size w' ∧ Kp w w' := by
 rw [show m.acts.findIdx? (fun a => decide (a.par ≠ 0 ∧ a.par - 1 = p)) = gs.findIdx? (fun g => (fun a : AcM => decide (a.par ≠ 0 ∧ a.par - 1 = p)) g.a) by rw [H.acts, fi_map]]; obtain ⟨PL, hPL⟩ : ∃ R, gs.findIdx? (fun g => (fun a : AcM => decide (a.par ≠ 0 ∧ a.par - 1 = p)) g.a) = R := ⟨_, rfl⟩
 obtain ⟨a0, c0, eva⟩ := H.vForm; subst eva; obtain ⟨len, hl⟩ : ∃ x, gs.length = x := ⟨_, rfl⟩
 have e0 : w.cell? ⟨q, 2, none⟩ = some (.slice a0 len c0) := by rw [← hl]; exact cU (i := 2) H.row rfl
 have kz := kA w (.cells #[(0:Int), (0:Int), (0:Int), (0:Int), .float .f64 0, (0:Int), (0:Int), .slice none 0 0] 92); have rz := (mH w (.cells #[(0:Int), (0:Int), (0:Int), (0:Int), .float .f64 0, (0:Int), (0:Int), .slice none 0 0] 92))
 obtain ⟨W, hW⟩ : ∃ W, w.alloc (.cells #[(0:Int), (0:Int), (0:Int), (0:Int), .float .f64 0, (0:Int), (0:Int), .slice none 0 0] 92) = W := ⟨_, rfl⟩
 rw [hW] at kz rz; have e0 := kZ kz e0; have ho : w.ownsRow B 92 8 (.slice a0 len c0) len (acE.row gs) := by have := H.oa; rw [hl] at this; exact this
 have hix := ixChild (oK ho kz) hl (by omega) b p hp (rZ kz hb); rw [hPL] at hix ⊢; obtain ⟨HIX, HH, HO, HL, KZ, RZ⟩ := hD6 hix H ho hl kz rz; have fz := fQ rz; obtain ⟨L, hL⟩ : ∃ L : Int, (len : Int) = L := ⟨_, rfl⟩
 obtain ⟨HLL, L8⟩ := hD2 hL h8; have hsf := sF
 cases PL with
 | none =>
  have hn : placeQ none = -1 := rfl; rw [hn] at HIX; clear H h8 h6 hp hb hPL hl kz rz ho hix hn hL; go_enter Tryz.func110, Tryz.ntmps110; go_wp2_with (go_at_call 159; (with_reducible refine HIX.out.mono ?_); rintro e' w2 ⟨rfl, hk⟩; have r2 := rZ hk RZ.out; obtain ⟨u0, u1, u2, u3, u4, u5, u6, u7⟩ := c8X r2; have fz2 := fQ r2; have K2 := hD (kT KZ.out hk); have R2 := hD r2; clear hk r2)
  refine bodyPost_ret (rQ (p := 4) (u := 5) rfl _ _ w.heap.size 92 _ (0, 0) _ rfl (set_8 (.int .i64 0) (.int .i64 0) (.int .i64 0) (.int .i64 0) (.float .f64 0) (.int .i64 0) (.int .i64 0) (.slice none 0 0) R2.out) Tryz.underlying92 rfl (by kernel_rfl)) rfl ?_
  exact ⟨_, rfl, ⟨zeroA, none, 0, rfl, ⟨rfl, rfl, rfl⟩, World.ownsRow_nil _ _ _ _⟩, set_8_kp K2.out (Nat.le_refl _) _ _ _ _ _ _ _ _⟩
 | some i =>
  have hi : i < gs.length := (List.findIdx?_eq_some_iff_getElem.1 hPL).1; obtain ⟨ii, hii⟩ : ∃ ii : Int, (i : Int) = ii := ⟨_, rfl⟩
  have hpl : placeQ (some i) = ii := hii; rw [hpl] at HIX; have htn : ii.toNat = i := by omega
  have hi0 : 0 ≤ ii := by omega
  have hiL : ii < L := by omega
  have g0 : decide (ii < 0) = false := dF (by omega); obtain ⟨ga, cpa, eva, hcpa, hgB, hgl, hfz, hcell⟩ := cQ (E := acE) ho hl (by omega : i < len); obtain ⟨⟨⟨⟨xn, xs, xo, xd, xx⟩, xp, xc, xr⟩, xb, xk⟩, hx⟩ : ∃ x, gs[i]'hi = x := ⟨_, rfl⟩
  have hcell2 : ∀ (j : Nat) (u : Value), j < acE.k → (acE.enc (gs[i]'hi))[j]? = some u → w.cell? ⟨ga, i * acE.k + j, none⟩ = some u := hcell; rw [hx, show acE.k = 8 from rfl, ← htn] at hcell2; have eva := congrArg (fun v => match v with | Value.slice a _ _ => a | _ => none) eva; dsimp only at eva; subst eva; obtain ⟨nv, hnv⟩ : ∃ n, xr.length = n := ⟨_, rfl⟩
  obtain ⟨x0, x1, x2, x3, x4, x5, x6, -⟩ := cW8 hcell2; have x7 : w.cell? ⟨ga, ii.toNat * 8 + 7, none⟩ = some (.slice xb nv xk) := by rw [← hnv]; exact hcell2 7 _ (by decide) rfl
  have hgm : (⟨⟨⟨xn, xs, xo, xd, xx⟩, xp, xc, xr⟩, xb, xk⟩ : AcG) ∈ gs := by rw [← hx]; exact List.getElem_mem hi
  have hP : PartG rgE (.slice xb nv xk) xr w := by have := qG (E := rgE) (by decide) (H.og _ hgm); unfold AcG.v at this; dsimp only at this; rw [hnv] at this; exact this
  have h66 : xr.length ≤ 6 := h6 _ hgm; have hma : m.acts[i]? = some ⟨⟨xn, xs, xo, xd, xx⟩, xp, xc, xr⟩ := by rw [H.acts, List.getElem?_map, List.getElem?_eq_getElem hi, hx]; rfl
  have HAP := hD (fun (w1 : World) (hk : Kp w w1) => apart_any (w := w1) xn xs xo xd xx xp xc xb nv xk xr hnv (by omega) (hP.kp hk)); obtain ⟨HMA, HNV⟩ := hD2 hma hnv; have X := hD (And.intro x0 (And.intro x1 (And.intro x2 (And.intro x3 (And.intro x4 (And.intro x5 (And.intro x6 x7))))))); clear H h8 h6 hp hb hPL hl kz rz ho hix hpl hii hi hcpa hgB hgl hfz hcell hcell2 hx hgm hP h66 hma hnv htn; go_enter Tryz.func110, Tryz.ntmps110; go_wp2_with (first | (go_at_call 159; (with_reducible refine HIX.out.mono ?_); rintro e' w2 ⟨rfl, hk⟩; have r2 := rZ hk RZ.out; have K2 := hD (kT KZ.out hk); have R2 := hD r2; have e0 := kZ hk e0; have x0 := kZ K2.out x0; have x1 := kZ K2.out x1; have x2 := kZ K2.out x2; have x3 := kZ K2.out x3; have x4 := kZ K2.out x4; have x5 := kZ K2.out x5; have x6 := kZ K2.out x6; have x7 := kZ K2.out x7; clear hk r2) | (go_at_call 82; (with_reducible refine (HAP.out _ K2.out).mono ?_); rintro e' w3 ⟨o', c', rfl, hO, hk⟩; have r3 := rZ hk R2.out; obtain ⟨u0, u1, u2, u3, u4, u5, u6, u7⟩ := c8X r3; have fz3 := fQ r3; have K3 := hD (kT K2.out hk); obtain ⟨R3, O3⟩ := hD2 r3 hO; clear hk r3 hO))
  refine bodyPost_ret (rQ (p := 4) (u := 5) rfl _ _ w.heap.size 92 _ (0, 0) _ rfl (set_8 (.int .i64 xn) (.int .i64 xs) (.int .i64 xo) (.int .i64 xd) (.float .f64 xx) (.int .i64 xp) (.int .i64 xc) (.slice o' nv c') R3.out) Tryz.underlying92 rfl (by kernel_rfl)) rfl ?_
  refine ⟨_, rfl, ⟨⟨⟨xn, xs, xo, xd, xx⟩, xp, xc, xr⟩, o', c', by rw [acV, HNV.out], HMA.out, ?_⟩, set_8_kp K3.out (Nat.le_refl _) _ _ _ _ _ _ _ _⟩
  have szK := oZ R2.out; have O4 : w3.ownsRow w2.heap.size 96 6 (.slice o' xr.length c') xr.length (rgE.row xr) := by rw [HNV.out]; exact O3.out
  refine bG (sG O4 (fun b e => ?_)) (kS K2.out)
  have hb := (O4.lt b e).1; rw [bS _ _ _ _ (by dsimp only; omega), bS _ _ _ _ (by dsimp only; omega), bS _ _ _ _ (by dsimp only; omega), bS _ _ _ _ (by dsimp only; omega), bS _ _ _ _ (by dsimp only; omega), bS _ _ _ _ (by dsimp only; omega), bS _ _ _ _ (by dsimp only; omega), bS _ _ _ _ (by dsimp only; omega)]
end Go.Proofs.YtlmlmhmhgdjhnaaGreatDoor
