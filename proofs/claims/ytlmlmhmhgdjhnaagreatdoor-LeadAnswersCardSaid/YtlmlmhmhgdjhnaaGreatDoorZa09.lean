/- Parts of this proof (own work). -/
import Derived.Test.YtlmlmhmhgdjhnaaGreatDoorZa08
set_option maxRecDepth 100000
set_option maxHeartbeats 40000000
namespace Go.Proofs.YtlmlmhmhgdjhnaaGreatDoor
open Go.RowKit Go.ChangeShapes Go.WideShapes
def tyD : TyQ := ⟨76, 72, 130, 152⟩
theorem tyD_ok : tyD.Ok := ⟨by decide, by decide, by decide, by decide, by decide, by decide⟩
theorem fi_at {α : Type} {p : α → Bool} {l : List α} {j : Nat} (hj : j < l.length) (h1 : ∀ i (hi : i < l.length), i < j → p l[i] = false) (h2 : p l[j] = true) : l.findIdx? p = some j := by
 rw [List.findIdx?_eq_some_iff_getElem]; exact ⟨hj, h2, fun i hi => by rw [h1 i (by omega) hi]; simp⟩
theorem fi_no {α : Type} {p : α → Bool} {l : List α} (h : ∀ i (hi : i < l.length), p l[i] = false) : l.findIdx? p = none := by
 rw [List.findIdx?_eq_none_iff]; intro x hx; obtain ⟨i, hi, rfl⟩ := List.getElem_of_mem hx; exact h i hi
def placeQ : Option Nat → Int
 | some i => i
 | none => -1
variable {w0 w w' W w3 : World} {B q : Nat} {m : StM} {gs : List AcG} {va vp : Value}
theorem refFind15 (H : GS tyD B q m gs va vp w) (h8 : gs.length ≤ 8) (n s : Int) : Calls Tryz.prog 20 #[.pointer (some ⟨q, 0, none⟩), .agg #[n, s]] w fun r w' => r = .returned (.int .i64 (placeQ (findS m.acts n s))) ∧ Kp w w' := by
 unfold findS; rw [H.acts, List.findIdx?_map]; obtain ⟨R, hR⟩ : ∃ R, placeQ (List.findIdx? ((fun a : AcM => decide (a.c.n = n ∧ a.c.s = s)) ∘ AcG.a) gs) = R := ⟨_, rfl⟩
 rw [hR]; have HR := hD hR; clear hR; obtain ⟨a0, c0, rfl⟩ := H.vForm; obtain ⟨len, hl⟩ : ∃ x, gs.length = x := ⟨_, rfl⟩
 have e0 : w.cell? ⟨q, 2, none⟩ = some (.slice a0 len c0) := by rw [← hl]; exact cU (i := 2) H.row rfl
 obtain ⟨L, hL⟩ : ∃ L : Int, (len : Int) = L := ⟨_, rfl⟩
 obtain ⟨HH, HL, HLL, H8⟩ := hD4 H hl hL h8; have hsf := sF; have KB := hD (kA w (.cells #[n, s] 25)); have HB := hD (mH w (.cells #[n, s] 25)); have e1 := kZ KB.out e0; have WB := hD (rfl : w.alloc (.cells #[n, s] 25) = w.alloc (.cells #[n, s] 25)); clear H hl h8; go_enter Tryz.func20, Tryz.ntmps20; go_wp2; go_loopw [12] (fun i wr => ∃ j : Nat, j ≤ len ∧ i = .int .i64 j ∧ (∀ k (hk : k < gs.length), k < j → ¬ (gs[k].a.c.n = n ∧ gs[k].a.c.s = s)) ∧ Kp (w.alloc (.cells #[n, s] 25)) wr) (fun i _ => len - (intOf i).toNat)
 case atStart => exact ⟨0, Nat.zero_le _, rfl, fun k _ h => by omega, Kp.refl _⟩
 case round =>
  obtain ⟨j, hj, rfl, hq, hk⟩ := hrel; obtain ⟨KR, HQ⟩ := hD2 hk hq; obtain ⟨jj, hjj⟩ : ∃ jj : Int, (j : Int) = jj := ⟨_, rfl⟩
  rw [hjj]; have HJ := hD hjj; have hLL := HLL.out
  by_cases hlt : j < len
  ·have hjl : jj < L := by omega
   have hj0 : 0 ≤ jj := by omega
   have hL8 : L ≤ 8 := by have := HL.out; have := H8.out; omega
   have htn : jj.toNat = j := by omega
   have ow := (HH.out.kp (kT KB.out hk)).oa; rw [HL.out] at ow; obtain ⟨g, cp, ev, hcp, hgB, hgl, hfz, hcell⟩ := cQ (E := acE) ow HL.out hlt; injection ev with ev _ _
   subst ev; have hjo : j < gs.length := by have := HL.out; omega
   obtain ⟨⟨⟨⟨xn, xs, xo, xd, xx⟩, xp, xc, xr⟩, xb, xk⟩, hx⟩ : ∃ x, gs[j]'hjo = x := ⟨_, rfl⟩
   rw [hx, show acE.k = 8 from rfl, ← htn] at hcell; obtain ⟨xv, hxv⟩ : ∃ v, (⟨⟨⟨xn, xs, xo, xd, xx⟩, xp, xc, xr⟩, xb, xk⟩ : AcG).v = v := ⟨_, rfl⟩
   obtain ⟨x0, x1, x2, x3, x4, x5, x6, -⟩ := cW8 hcell; have x7 : wr.cell? ⟨g, jj.toNat * 8 + 7, none⟩ = some xv := by rw [← hxv]; exact hcell 7 _ (by decide) rfl
   obtain ⟨av, nv, cv, exv⟩ : ∃ a n c, xv = .slice a n c := ⟨_, _, _, hxv.symm⟩
   subst exv; have hbox := (mH wr (.cells #[xn, xs, xo, xd, xx, xp, xc, .slice av nv cv] 72))
   have y0 : (wr.alloc (.cells #[xn, xs, xo, xd, xx, xp, xc, .slice av nv cv] 72)).cell? ⟨wr.heap.size, 0, none⟩ = some (.int .i64 xn) := cU (i := 0) hbox rfl; have y1 : (wr.alloc (.cells #[xn, xs, xo, xd, xx, xp, xc, .slice av nv cv] 72)).cell? ⟨wr.heap.size, 1, none⟩ = some (.int .i64 xs) := cU (i := 1) hbox rfl; have y5 : (wr.alloc (.cells #[xn, xs, xo, xd, xx, xp, xc, .slice av nv cv] 72)).cell? ⟨wr.heap.size, 5, none⟩ = some (.int .i64 xp) := cU (i := 5) hbox rfl; clear hbox; have b0 : wr.cell? ⟨w.heap.size, 0, none⟩ = some (.int .i64 n) := kZ hk (cU (i := 0) HB.out rfl); have b1 : wr.cell? ⟨w.heap.size, 1, none⟩ = some (.int .i64 s) := kZ hk (cU (i := 1) HB.out rfl); have c0 := kZ (kA wr (.cells #[xn, xs, xo, xd, xx, xp, xc, .slice av nv cv] 72)) b0; have c1 := kZ (kA wr (.cells #[xn, xs, xo, xd, xx, xp, xc, .slice av nv cv] 72)) b1; have KN := hD (kT hk (kA wr (.cells #[xn, xs, xo, xd, xx, xp, xc, .slice av nv cv] 72)))
   obtain ⟨HX, HLT⟩ := hD2 hx hlt
   by_cases he : xn = n ∧ xs = s
   ·have HE := hD he; have heq : ∀ w, (binOp .eql 25 (.agg #[xn, xs]) (.agg #[n, s])).run Tryz.prog w = .ok (.bool true) w := fun w => by rw [act_eql9]; exact congrArg (fun b => Result.ok (Value.bool b) w) (dT he)
    have heg := fun op x y (w : World) => act_guard9 op x y xn xs n s w
    have HF : Hid (placeQ (List.findIdx? ((fun a : AcM => decide (a.c.n = n ∧ a.c.s = s)) ∘ AcG.a) gs) = jj) := hD (by
     rw [fi_at (p := (fun a : AcM => decide (a.c.n = n ∧ a.c.s = s)) ∘ AcG.a) hjo (fun i hi hij => dF (hq i hi hij)) (by show decide _ = true; rw [hx]; exact dT he)]; exact hjj)
    clear hcell hx hk hq hjj hj hlt he hLL htn hxv ow; go_wp2; go_ret; refine ⟨?_, kT KB.out KN.out⟩
    rw [← HR.out, HF.out]
    rfl
   ·have HE := hD he; have heq : ∀ w, (binOp .eql 25 (.agg #[xn, xs]) (.agg #[n, s])).run Tryz.prog w = .ok (.bool false) w := fun w => by rw [act_eql9]; exact congrArg (fun b => Result.ok (Value.bool b) w) (dF he)
    have heg := fun op x y (w : World) => act_guard9 op x y xn xs n s w
    have hw1 : wrap64 (jj + 1) = jj + 1 := IntWalk.wrap64_in _ (by omega); clear hcell hx hk hq hjj hj hlt he hLL htn hxv ow; go_wp2; go_roundw
    case rel => exact ⟨j + 1, by have := HLT.out; omega, by have := HJ.out; rw [show ((j + 1 : Nat) : Int) = jj + 1 by omega], fun k hk hk2 => by
     rcases Nat.lt_or_eq_of_le (Nat.le_of_lt_succ hk2) with g | rfl
     ·exact HQ.out k hk g
     ·rw [HX.out]; exact HE.out, KN.out⟩
    case measure => have := HJ.out; have := HLT.out; simp [intOf]; omega
  ·have hje : ¬ jj < L := by omega
   have HN := hD (fi_no (p := (fun a => decide (a.c.n = n ∧ a.c.s = s)) ∘ AcG.a) (l := gs) (fun i hi => dF (hq i hi (by have := HL.out; omega)))); clear hk hq hjj hj hlt hLL; go_wp2; go_ret; refine ⟨?_, kT KB.out KR.out⟩
   rw [← HR.out, HN.out]
   rfl
theorem refChild15 (H : GS tyD B q m gs va vp w) (h8 : gs.length ≤ 8) (p : Int) (hp : 0 ≤ p ∧ p ≤ 1000) : Calls Tryz.prog 56 #[.pointer (some ⟨q, 0, none⟩), .int .i64 p] w fun r w' => r = .returned (.int .i64 (placeQ (childS m.acts p))) ∧ Kp w w' := by
 obtain ⟨p1, hp1⟩ : ∃ x, p + 1 = x := ⟨_, rfl⟩
 have gp : decide (p ≥ 0) = true := dT hp.1; have wp : wrap64 (p + 1) = p1 := by rw [IntWalk.wrap64_in _ (by omega)]; exact hp1
 have HP := hD hp1; have hch : childS m.acts p = m.acts.findIdx? (fun a => decide (a.par = p + 1)) := by unfold childS; rw [if_neg (by omega)]
 rw [hch, hp1]; have hp2 : 0 ≤ p := hp.1; clear hp hch hp1
 skip
 rw [H.acts, List.findIdx?_map]; obtain ⟨R, hR⟩ : ∃ R, placeQ (List.findIdx? ((fun a : AcM => decide (a.par = p1)) ∘ AcG.a) gs) = R := ⟨_, rfl⟩
 rw [hR]; have HR := hD hR; clear hR; obtain ⟨a0, c0, rfl⟩ := H.vForm; obtain ⟨len, hl⟩ : ∃ x, gs.length = x := ⟨_, rfl⟩
 have e0 : w.cell? ⟨q, 2, none⟩ = some (.slice a0 len c0) := by rw [← hl]; exact cU (i := 2) H.row rfl
 obtain ⟨L, hL⟩ : ∃ L : Int, (len : Int) = L := ⟨_, rfl⟩
 obtain ⟨HH, HL, HLL, H8⟩ := hD4 H hl hL h8; have hsf := sF; clear H hl h8; go_enter Tryz.func56, Tryz.ntmps56; go_wp2; go_loopw [12] (fun i wr => ∃ j : Nat, j ≤ len ∧ i = .int .i64 j ∧ (∀ k (hk : k < gs.length), k < j → ¬ gs[k].a.par = p1) ∧ Kp w wr) (fun i _ => len - (intOf i).toNat)
 case atStart => exact ⟨0, Nat.zero_le _, rfl, fun k _ h => by omega, Kp.refl _⟩
 case round =>
  obtain ⟨j, hj, rfl, hq, hk⟩ := hrel; obtain ⟨KR, HQ⟩ := hD2 hk hq; obtain ⟨jj, hjj⟩ : ∃ jj : Int, (j : Int) = jj := ⟨_, rfl⟩
  rw [hjj]; have HJ := hD hjj; have hLL := HLL.out
  by_cases hlt : j < len
  ·have hjl : jj < L := by omega
   have hj0 : 0 ≤ jj := by omega
   have hL8 : L ≤ 8 := by have := HL.out; have := H8.out; omega
   have htn : jj.toNat = j := by omega
   have ow := (HH.out.kp (hk)).oa; rw [HL.out] at ow; obtain ⟨g, cp, ev, hcp, hgB, hgl, hfz, hcell⟩ := cQ (E := acE) ow HL.out hlt; injection ev with ev _ _
   subst ev; have hjo : j < gs.length := by have := HL.out; omega
   obtain ⟨⟨⟨⟨xn, xs, xo, xd, xx⟩, xp, xc, xr⟩, xb, xk⟩, hx⟩ : ∃ x, gs[j]'hjo = x := ⟨_, rfl⟩
   rw [hx, show acE.k = 8 from rfl, ← htn] at hcell; obtain ⟨xv, hxv⟩ : ∃ v, (⟨⟨⟨xn, xs, xo, xd, xx⟩, xp, xc, xr⟩, xb, xk⟩ : AcG).v = v := ⟨_, rfl⟩
   obtain ⟨x0, x1, x2, x3, x4, x5, x6, -⟩ := cW8 hcell; have x7 : wr.cell? ⟨g, jj.toNat * 8 + 7, none⟩ = some xv := by rw [← hxv]; exact hcell 7 _ (by decide) rfl
   obtain ⟨av, nv, cv, exv⟩ : ∃ a n c, xv = .slice a n c := ⟨_, _, _, hxv.symm⟩
   subst exv; have hbox := (mH wr (.cells #[xn, xs, xo, xd, xx, xp, xc, .slice av nv cv] 72))
   have y0 : (wr.alloc (.cells #[xn, xs, xo, xd, xx, xp, xc, .slice av nv cv] 72)).cell? ⟨wr.heap.size, 0, none⟩ = some (.int .i64 xn) := cU (i := 0) hbox rfl; have y1 : (wr.alloc (.cells #[xn, xs, xo, xd, xx, xp, xc, .slice av nv cv] 72)).cell? ⟨wr.heap.size, 1, none⟩ = some (.int .i64 xs) := cU (i := 1) hbox rfl; have y5 : (wr.alloc (.cells #[xn, xs, xo, xd, xx, xp, xc, .slice av nv cv] 72)).cell? ⟨wr.heap.size, 5, none⟩ = some (.int .i64 xp) := cU (i := 5) hbox rfl; clear hbox; have KN := hD (kT hk (kA wr (.cells #[xn, xs, xo, xd, xx, xp, xc, .slice av nv cv] 72))); obtain ⟨HX, HLT⟩ := hD2 hx hlt
   by_cases he : xp = p1
   ·have HE := hD he; have hpt : (xp == p1) = true := beq_iff_eq.2 he; have HF : Hid (placeQ (List.findIdx? ((fun a : AcM => decide (a.par = p1)) ∘ AcG.a) gs) = jj) := hD (by
     rw [fi_at (p := (fun a : AcM => decide (a.par = p1)) ∘ AcG.a) hjo (fun i hi hij => dF (hq i hi hij)) (by show decide _ = true; rw [hx]; exact dT he)]; exact hjj)
    clear hcell hx hk hq hjj hj hlt he hLL htn hxv ow; go_wp2; go_ret; refine ⟨?_, KN.out⟩
    rw [← HR.out, HF.out]
    rfl
   ·have HE := hD he; have hpt : (xp == p1) = false := by simpa using he
    have hw1 : wrap64 (jj + 1) = jj + 1 := IntWalk.wrap64_in _ (by omega); clear hcell hx hk hq hjj hj hlt he hLL htn hxv ow; go_wp2; go_roundw
    case rel => exact ⟨j + 1, by have := HLT.out; omega, by have := HJ.out; rw [show ((j + 1 : Nat) : Int) = jj + 1 by omega], fun k hk hk2 => by
     rcases Nat.lt_or_eq_of_le (Nat.le_of_lt_succ hk2) with g | rfl
     ·exact HQ.out k hk g
     ·rw [HX.out]; exact HE.out, KN.out⟩
    case measure => have := HJ.out; have := HLT.out; simp [intOf]; omega
  ·have hje : ¬ jj < L := by omega
   have HN := hD (fi_no (p := (fun a => decide (a.par = p1)) ∘ AcG.a) (l := gs) (fun i hi => dF (hq i hi (by have := HL.out; omega)))); clear hk hq hjj hj hlt hLL; go_wp2; go_ret; refine ⟨?_, KR.out⟩
   rw [← HR.out, HN.out]
   rfl
theorem al4_0 (w : World) (o1 o2 o3 o4 : Obj) : ((((w.alloc o1).alloc o2).alloc o3).alloc o4).heap[w.heap.size]? = some o1 := by
 rw [Below.heap_alloc _ _ _ (by simp <;> omega), Below.heap_alloc _ _ _ (by simp <;> omega), Below.heap_alloc _ _ _ (by simp)]; exact (mH w o1)
theorem al4_1 (w : World) (o1 o2 o3 o4 : Obj) : ((((w.alloc o1).alloc o2).alloc o3).alloc o4).heap[w.heap.size + 1]? = some o2 := by
 rw [Below.heap_alloc _ _ _ (by simp <;> omega), Below.heap_alloc _ _ _ (by simp)]; have := (mH (w.alloc o1) o2)
 simpa using this
theorem al4_2 (w : World) (o1 o2 o3 o4 : Obj) : ((((w.alloc o1).alloc o2).alloc o3).alloc o4).heap[w.heap.size + 1 + 1]? = some o3 := by
 rw [Below.heap_alloc _ _ _ (by simp)]; have := (mH ((w.alloc o1).alloc o2) o3)
 simpa using this
theorem al4_3 (w : World) (o1 o2 o3 o4 : Obj) : ((((w.alloc o1).alloc o2).alloc o3).alloc o4).heap[w.heap.size + 1 + 1 + 1]? = some o4 := by
 have := (mH (((w.alloc o1).alloc o2).alloc o3) o4)
 simpa using this
def turnOk (z : SeatM) (t h : Int) : Bool := decide (z.s ≠ 14) && SeatM.right ⟨z.p, z.e, t, h⟩
theorem turnS_eq (z : SeatM) (t h : Int) : turnS z t h = if turnOk z t h = true then some ⟨z.p, z.e, t, h⟩ else none := by
 unfold turnS turnOk
 simp
theorem refTurned15 (z : SeatM) (f : FX) (w : World) : Calls Tryz.prog 88 #[.agg (seatV z), .agg f.cells] w fun r w' => r = .returned (.tuple #[.agg (seatV ⟨z.p, z.e, f.t, f.h⟩), .bool (turnOk z f.t f.h)]) ∧ Kp w w' := by
 obtain ⟨p, e, s, h⟩ := z; obtain ⟨fk, fn, fs, fr, fe, fp, fq, fo, fd, fa, ft, fh, fc, fx⟩ := f; dsimp only [seatV, FX.cells]; have HR := hD (fun w => refSeatRt_any ⟨p, e, ft, fh⟩ w); dsimp only [seatV] at HR; obtain ⟨b, hb⟩ : ∃ b, SeatM.right ⟨p, e, ft, fh⟩ = b := ⟨_, rfl⟩
 rw [hb] at HR; have hk : Kp w ((((w.alloc (.cells #[p, e, s, h] 128)).alloc (.cells #[fk, fn, fs, fr, fe, fp, fq, fo, fd, fa, ft, fh, fc, fx] 102)).alloc (.cells #[(0:Int), (0:Int), (0:Int), (0:Int)] 128)).alloc (.cells #[p, e, ft, fh] 128)) := kT (kT (kT (kA _ _) (kA _ _)) (kA _ _)) (kA _ _); have r0 := al4_0 w (.cells #[p, e, s, h] 128) (.cells #[fk, fn, fs, fr, fe, fp, fq, fo, fd, fa, ft, fh, fc, fx] 102) (.cells #[(0:Int), (0:Int), (0:Int), (0:Int)] 128) (.cells #[p, e, ft, fh] 128); have r2 := al4_2 w (.cells #[p, e, s, h] 128) (.cells #[fk, fn, fs, fr, fe, fp, fq, fo, fd, fa, ft, fh, fc, fx] 102) (.cells #[(0:Int), (0:Int), (0:Int), (0:Int)] 128) (.cells #[p, e, ft, fh] 128); have r3 := al4_3 w (.cells #[p, e, s, h] 128) (.cells #[fk, fn, fs, fr, fe, fp, fq, fo, fd, fa, ft, fh, fc, fx] 102) (.cells #[(0:Int), (0:Int), (0:Int), (0:Int)] 128) (.cells #[p, e, ft, fh] 128); obtain ⟨f0, f1, f2, f3, f4, f5, f6, f7, f8, f9, f10, f11, f12, f13⟩ := cZ (al4_1 w (.cells #[p, e, s, h] 128) (.cells #[fk, fn, fs, fr, fe, fp, fq, fo, fd, fa, ft, fh, fc, fx] 102) (.cells #[(0:Int), (0:Int), (0:Int), (0:Int)] 128) (.cells #[p, e, ft, fh] 128))
 obtain ⟨c0, c1, c2, c3⟩ := cells_4 r0; obtain ⟨d0, d1, d2, d3⟩ := cells_4 r3; obtain ⟨W, hW⟩ : ∃ W, ((((w.alloc (.cells #[p, e, s, h] 128)).alloc (.cells #[fk, fn, fs, fr, fe, fp, fq, fo, fd, fa, ft, fh, fc, fx] 102)).alloc (.cells #[(0:Int), (0:Int), (0:Int), (0:Int)] 128)).alloc (.cells #[p, e, ft, fh] 128)) = W := ⟨_, rfl⟩
 rw [hW] at hk r2 r3 c0 c1 c2 c3 d0 d1 d2 d3 f0 f1 f2 f3 f4 f5 f6 f7 f8 f9 f10 f11 f12 f13; have K4 := hD hk; have R2 : Hid (W.drew.heap[w.heap.size + 1 + 1]? = some (.cells #[(0:Int), (0:Int), (0:Int), (0:Int)] 128)) := hD r2; have fz := fQ r2; obtain ⟨v0, v1, v2, v3⟩ := cells_4 r2; have R3 : Hid (W.drew.heap[w.heap.size + 1 + 1 + 1]? = some (.cells #[p, e, ft, fh] 128)) := hD r3; unfold turnOk; dsimp only; rw [hb]; have hsf := sF; clear hk r0 r2 r3 hb
 by_cases hs : s = 14
 ·subst hs; have n14 : decide ((14 : Int) ≠ 14) = false := rfl; rw [n14]; clear n14; go_enter Tryz.func88, Tryz.ntmps88; go_wp2_with fail
  go_region
  all_goals go_wp2
  all_goals refine bodyPost_ret (rQ (p := 4) (u := 5) rfl _ _ (w.heap.size + 1 + 1) 128 _ (0, 0) _ rfl (set_4 (.int .i64 p) (.int .i64 e) (.int .i64 ft) (.int .i64 fh) R2.out) Tryz.underlying128 rfl (by kernel_rfl)) rfl ?_
  all_goals exact ⟨rfl, set_4_kp (dQ K4.out) (by omega) _ _ _ _⟩
 ·have b14 : (s == 14) = false := by simpa using hs
  have n14 : decide (s ≠ 14) = true := dT hs; rw [n14]; have m14 : (s != 14) = true := by simp [hs]
  clear n14; go_enter Tryz.func88, Tryz.ntmps88; go_wp2_with fail
  go_region_with (go_at_call 120; (with_reducible refine (HR.out _).mono ?_); rintro e' w5 ⟨rfl, hk5⟩; have K5 := hD hk5; have R5 := hD (rZ hk5 (show W.drew.heap[_]? = _ from R2.out)); have fz5 := fQ R5.out; obtain ⟨z0, z1, z2, z3⟩ := cells_4 R5.out; obtain ⟨y0, y1, y2, y3⟩ := cells_4 (rZ hk5 (show W.drew.heap[_]? = _ from R3.out)); clear hk5)
  all_goals go_wp2
  all_goals refine bodyPost_ret (rQ (p := 4) (u := 5) rfl _ _ (w.heap.size + 1 + 1) 128 _ (0, 0) _ rfl (set_4 (.int .i64 p) (.int .i64 e) (.int .i64 ft) (.int .i64 fh) R5.out) Tryz.underlying128 rfl (by kernel_rfl)) rfl ?_
  all_goals exact ⟨rfl, set_4_kp (kT (dQ K4.out) K5.out) (by omega) _ _ _ _⟩
def set4Q (w : World) (g i : Nat) (z : SeatM) : World := (((w.setCell ⟨g, i, none⟩ (.int .i64 z.p)).setCell ⟨g, i + 1, none⟩ (.int .i64 z.e)).setCell ⟨g, i + 2, none⟩ (.int .i64 z.s)).setCell ⟨g, i + 3, none⟩ (.int .i64 z.h)
variable {T : TyQ} {B q : Nat} {m : StM} {gs gs' : List AcG} {va vp va' vp' : Value} {w w' W w3 : World}
theorem set_set' {α : Type} (l : List α) (i : Nat) (x y : α) : (l.set i x).set i y = l.set i y := by simp
theorem GS.seatP {g n cp j : Nat} {x : PaM} (h : GS T B q m gs va (.slice (some ⟨g, 0, none⟩) n cp) w) (ok : T.Ok) (hx : m.parts[j]? = some x) (z : SeatM) :
  GS T B q { m with parts := m.parts.set j { x with z := z } } gs va (.slice (some ⟨g, 0, none⟩) n cp) (set4Q w g (j * 7 + 3) z) ∧ Asd (Ow q gs va (.slice (some ⟨g, 0, none⟩) n cp)) (Ow q gs va (.slice (some ⟨g, 0, none⟩) n cp)) w (set4Q w g (j * 7 + 3) z) := by
 obtain ⟨hj, hxj⟩ := List.getElem?_eq_some_iff.1 hx; obtain ⟨xn, xs, xr, ⟨xp, xe, xt, xh⟩⟩ := x; have a1 := h.setP ok hx (i := 3) (x' := ⟨xn, xs, xr, ⟨z.p, xe, xt, xh⟩⟩) (y := .int .i64 z.p) (by decide) rfl; have a2 := a1.1.setP ok (j := j) (x := ⟨xn, xs, xr, ⟨z.p, xe, xt, xh⟩⟩) (by simp [hj]) (i := 4) (x' := ⟨xn, xs, xr, ⟨z.p, z.e, xt, xh⟩⟩) (y := .int .i64 z.e) (by decide) rfl; have a3 := a2.1.setP ok (j := j) (x := ⟨xn, xs, xr, ⟨z.p, z.e, xt, xh⟩⟩) (by simp [hj]) (i := 5) (x' := ⟨xn, xs, xr, ⟨z.p, z.e, z.s, xh⟩⟩) (y := .int .i64 z.s) (by decide) rfl; have a4 := a3.1.setP ok (j := j) (x := ⟨xn, xs, xr, ⟨z.p, z.e, z.s, xh⟩⟩) (by simp [hj]) (i := 6) (x' := ⟨xn, xs, xr, z⟩) (y := .int .i64 z.h) (by decide) rfl; refine ⟨?_, ((a1.2.trans a2.2).trans a3.2).trans a4.2⟩
 have := a4.1; simp only [set_set'] at this
 exact this
theorem GS.seatR {gr cr j k : Nat} {a : AcM} {r : RgM} (h : GS T B q m gs va vp w) (ok : T.Ok) (hx : gs[j]? = some ⟨a, some ⟨gr, 0, none⟩, cr⟩) (hk : a.regs[k]? = some r) (z : SeatM) :
  GS T B q { m with acts := m.acts.set j { a with regs := a.regs.set k { r with z := z } } } (gs.set j ⟨{ a with regs := a.regs.set k { r with z := z } }, some ⟨gr, 0, none⟩, cr⟩) va vp (set4Q w gr (k * 6 + 2) z) ∧
   Asd (Ow q gs va vp) (Ow q (gs.set j ⟨{ a with regs := a.regs.set k { r with z := z } }, some ⟨gr, 0, none⟩, cr⟩) va vp) w (set4Q w gr (k * 6 + 2) z) := by
 obtain ⟨hj, hxj⟩ := List.getElem?_eq_some_iff.1 hx; obtain ⟨hk2, hkk⟩ := List.getElem?_eq_some_iff.1 hk; obtain ⟨c, par, dec, regs⟩ := a; obtain ⟨xn, xs, ⟨xp, xe, xt, xh⟩⟩ := r; dsimp only at hk hk2 hkk; have a1 := h.setR ok hx hk (i := 2) (r' := ⟨xn, xs, ⟨z.p, xe, xt, xh⟩⟩) (y := .int .i64 z.p) (by decide) rfl; have a2 := a1.1.setR ok (j := j) (k := k) (a := ⟨c, par, dec, regs.set k ⟨xn, xs, ⟨z.p, xe, xt, xh⟩⟩⟩) (gr := gr) (cr := cr) (by simp [hj]) (r := ⟨xn, xs, ⟨z.p, xe, xt, xh⟩⟩) (by simp [hk2]) (i := 3) (r' := ⟨xn, xs, ⟨z.p, z.e, xt, xh⟩⟩) (y := .int .i64 z.e) (by decide) rfl; have a3 := a2.1.setR ok (j := j) (k := k) (a := ⟨c, par, dec, (regs.set k ⟨xn, xs, ⟨z.p, xe, xt, xh⟩⟩).set k ⟨xn, xs, ⟨z.p, z.e, xt, xh⟩⟩⟩) (gr := gr) (cr := cr) (by simp [hj]) (r := ⟨xn, xs, ⟨z.p, z.e, xt, xh⟩⟩) (by simp [hk2]) (i := 4) (r' := ⟨xn, xs, ⟨z.p, z.e, z.s, xh⟩⟩) (y := .int .i64 z.s) (by decide) rfl
 have a4 := a3.1.setR ok (j := j) (k := k) (a := ⟨c, par, dec, ((regs.set k ⟨xn, xs, ⟨z.p, xe, xt, xh⟩⟩).set k ⟨xn, xs, ⟨z.p, z.e, xt, xh⟩⟩).set k ⟨xn, xs, ⟨z.p, z.e, z.s, xh⟩⟩⟩) (gr := gr) (cr := cr) (by simp [hj]) (r := ⟨xn, xs, ⟨z.p, z.e, z.s, xh⟩⟩) (by simp [hk2]) (i := 5) (r' := ⟨xn, xs, z⟩) (y := .int .i64 z.h) (by decide) rfl; simp only [set_set'] at a1 a2 a3 a4
 exact ⟨a4.1, ((a1.2.trans a2.2).trans a3.2).trans a4.2⟩
theorem refAct4 (Hs : GS tyD B q m gs va vp w) (h8 : gs.length ≤ 8) {i : Nat} {ii : Int} (hii : (i : Int) = ii) {xn xs xo xd xp xc : Int} {xx : Nat} {xr : List RgM} {xb : Option Addr} {xk : Nat} (hg : gs[i]? = some ⟨⟨⟨xn, xs, xo, xd, xx⟩, xp, xc, xr⟩, xb, xk⟩) (h6 : xr.length ≤ 6) (fn fs fr fe fp fq fo fd fa ft fh fc : Int) (fx : Nat) : Calls Tryz.prog 89 #[.pointer (some ⟨q, 0, none⟩), .int .i64 ii, .agg #[(4:Int), fn, fs, fr, fe, fp, fq, fo, fd, fa, ft, fh, fc, fx]] w fun r w' => r = .returned (.bool (actS m i ⟨⟨xn, xs, xo, xd, xx⟩, xp, xc, xr⟩ (⟨4, fn, fs, fr, fe, fp, fq, fo, fd, fa, ft, fh, fc, fx⟩ : FX)).isSome) ∧ ∃ gs' va', GS tyD B q ((actS m i ⟨⟨xn, xs, xo, xd, xx⟩, xp, xc, xr⟩ (⟨4, fn, fs, fr, fe, fp, fq, fo, fd, fa, ft, fh, fc, fx⟩ : FX)).getD m) gs' va' vp w' ∧ Asd (Ow q gs va vp) (Ow q gs' va' vp) w w' := by
 have _u := And.intro h8 h6; clear _u; obtain ⟨hi, hgi⟩ := List.getElem?_eq_some_iff.1 hg; obtain ⟨ga, cpa, rfl, hcpa, hgB, hgl, hfz, hcell⟩ := cQ (E := acE) Hs.oa rfl hi; rw [hgi, show acE.k = 8 from rfl] at hcell; have HR := hD (Hs.og _ (List.mem_of_getElem? hg)); obtain ⟨len, hl⟩ : ∃ x, gs.length = x := ⟨_, rfl⟩
 obtain ⟨n, hn⟩ : ∃ x, xr.length = x := ⟨_, rfl⟩
 have htn : ii.toNat = i := by omega
 have hi0 : 0 ≤ ii := by omega
 have hiL : ii < (len : Int) := by omega
 have x2 : w.cell? ⟨ga, ii.toNat * 8 + 2, none⟩ = some (.int .i64 xo) := by rw [htn]; exact hcell 2 _ (by decide) rfl
 have x6 : w.cell? ⟨ga, ii.toNat * 8 + 6, none⟩ = some (.int .i64 xc) := by rw [htn]; exact hcell 6 _ (by decide) rfl
 have x7 : w.cell? ⟨ga, ii.toNat * 8 + 7, none⟩ = some (.slice xb n xk) := by rw [htn, ← hn]; exact hcell 7 _ (by decide) rfl
 have e0 : w.cell? ⟨q, 2, none⟩ = some (.slice (some ⟨ga, 0, none⟩) len cpa) := by rw [← hl]; exact cU (i := 2) Hs.row rfl
 have hkW := kA w (.cells #[(4:Int), fn, fs, fr, fe, fp, fq, fo, fd, fa, ft, fh, fc, fx] 102); obtain ⟨f0, f1, f2, f3, f4, f5, f6, f7, f8, f9, f10, f11, f12, f13⟩ := cZ (mH w (.cells #[(4:Int), fn, fs, fr, fe, fp, fq, fo, fd, fa, ft, fh, fc, fx] 102)); obtain ⟨W, hW⟩ : ∃ W, w.alloc (.cells #[(4:Int), fn, fs, fr, fe, fp, fq, fo, fd, fa, ft, fh, fc, fx] 102) = W := ⟨_, rfl⟩
 rw [hW] at hkW f0 f1 f2 f3 f4 f5 f6 f7 f8 f9 f10 f11 f12 f13; obtain ⟨x2, x6, x7, e0⟩ := kZ4 hkW x2 x6 x7 e0; have hL : ∃ L : Int, (len : Int) = L := ⟨_, rfl⟩
 obtain ⟨L, hL⟩ := hL; rw [hL] at hiL; obtain ⟨N, hN⟩ : ∃ N : Int, (n : Int) = N := ⟨_, rfl⟩
 have hN6 : N ≤ 6 := by omega
 obtain ⟨HS, HG, HL, HN, HNN, HI, HII, HTN⟩ := hD8 Hs hg hl hn hN hi hii htn; have KW := hD hkW; have HZ := hD (show ∀ w', Kp w w' → ∀ j, w'.frozen? ⟨ga, j, none⟩ = false from fun w' h j => by rw [Below.frozen h hgl]; exact hfz j); have hsf := sF
 by_cases h1 : xo = 1
 ·by_cases h2 : xc = 0
  ·have hm : actS m i ⟨⟨xn, xs, xo, xd, xx⟩, xp, xc, xr⟩ (⟨4, fn, fs, fr, fe, fp, fq, fo, fd, fa, ft, fh, fc, fx⟩ : FX) = some { m with acts := m.acts.set i ⟨⟨xn, xs, xo, xd, xx⟩, xp, fc, xr⟩ } := by
    unfold actS
    simp [h1, h2]
   have HM := hD hm; have fin2 := (Hs.kp hkW).setA tyD_ok hg (i := 6) (y := .int .i64 fc) (x' := ⟨⟨⟨xn, xs, xo, xd, xx⟩, xp, fc, xr⟩, xb, xk⟩) (by decide) rfl rfl rfl; rw [show i * 8 + 6 = ii.toNat * 8 + 6 by omega] at fin2; have FIN := hD fin2; have z6 : W.frozen? ⟨ga, ii.toNat * 8 + 6, none⟩ = false := HZ.out W hkW _; subst h1 h2; rw [hm]; clear hm fin2 Hs hg hl hn hi hgi hcell htn hgB hgl hfz hii hcpa hkW; go_enter Tryz.func89, Tryz.ntmps89; go_wp2; go_ret; exact ⟨rfl, _, _, FIN.out.1, (Asd.of_kp _ KW.out).trans FIN.out.2⟩
  ·have HM := hD (show actS m i ⟨⟨xn, xs, xo, xd, xx⟩, xp, xc, xr⟩ (⟨4, fn, fs, fr, fe, fp, fq, fo, fd, fa, ft, fh, fc, fx⟩ : FX) = none by unfold actS; simp [h2]); have g2 : (xc == 0) = false := by simpa using h2
   rw [HM.out]; subst h1; clear h2 Hs hg hl hn hi hgi hcell htn hgB hgl hfz hii hcpa hkW; go_enter Tryz.func89, Tryz.ntmps89; go_wp2; go_ret; exact ⟨rfl, gs, _, HS.out.kp KW.out, Asd.of_kp _ KW.out⟩
 ·have HM := hD (show actS m i ⟨⟨xn, xs, xo, xd, xx⟩, xp, xc, xr⟩ (⟨4, fn, fs, fr, fe, fp, fq, fo, fd, fa, ft, fh, fc, fx⟩ : FX) = none by unfold actS; simp [h1]); have g1 : (xo == 1) = false := by simpa using h1
  rw [HM.out]; clear h1 Hs hg hl hn hi hgi hcell htn hgB hgl hfz hii hcpa hkW; go_enter Tryz.func89, Tryz.ntmps89; go_wp2; go_ret; exact ⟨rfl, gs, _, HS.out.kp KW.out, Asd.of_kp _ KW.out⟩
theorem refAct3 (Hs : GS tyD B q m gs va vp w) (h8 : gs.length ≤ 8) {i : Nat} {ii : Int} (hii : (i : Int) = ii) {xn xs xo xd xp xc : Int} {xx : Nat} {xr : List RgM} {xb : Option Addr} {xk : Nat} (hg : gs[i]? = some ⟨⟨⟨xn, xs, xo, xd, xx⟩, xp, xc, xr⟩, xb, xk⟩) (h6 : xr.length ≤ 6) (fn fs fr fe fp fq fo fd fa ft fh fc : Int) (fx : Nat) (hr0 : 0 ≤ fr) : Calls Tryz.prog 89 #[.pointer (some ⟨q, 0, none⟩), .int .i64 ii, .agg #[(3:Int), fn, fs, fr, fe, fp, fq, fo, fd, fa, ft, fh, fc, fx]] w fun r w' => r = .returned (.bool (actS m i ⟨⟨xn, xs, xo, xd, xx⟩, xp, xc, xr⟩ (⟨3, fn, fs, fr, fe, fp, fq, fo, fd, fa, ft, fh, fc, fx⟩ : FX)).isSome) ∧ ∃ gs' va', GS tyD B q ((actS m i ⟨⟨xn, xs, xo, xd, xx⟩, xp, xc, xr⟩ (⟨3, fn, fs, fr, fe, fp, fq, fo, fd, fa, ft, fh, fc, fx⟩ : FX)).getD m) gs' va' vp w' ∧ Asd (Ow q gs va vp) (Ow q gs' va' vp) w w' := by
 have _u := And.intro h8 h6; clear _u; obtain ⟨hi, hgi⟩ := List.getElem?_eq_some_iff.1 hg; obtain ⟨ga, cpa, rfl, hcpa, hgB, hgl, hfz, hcell⟩ := cQ (E := acE) Hs.oa rfl hi; rw [hgi, show acE.k = 8 from rfl] at hcell; have HR := hD (Hs.og _ (List.mem_of_getElem? hg)); obtain ⟨len, hl⟩ : ∃ x, gs.length = x := ⟨_, rfl⟩
 obtain ⟨n, hn⟩ : ∃ x, xr.length = x := ⟨_, rfl⟩
 have htn : ii.toNat = i := by omega
 have hi0 : 0 ≤ ii := by omega
 have hiL : ii < (len : Int) := by omega
 have x2 : w.cell? ⟨ga, ii.toNat * 8 + 2, none⟩ = some (.int .i64 xo) := by rw [htn]; exact hcell 2 _ (by decide) rfl
 have x6 : w.cell? ⟨ga, ii.toNat * 8 + 6, none⟩ = some (.int .i64 xc) := by rw [htn]; exact hcell 6 _ (by decide) rfl
 have x7 : w.cell? ⟨ga, ii.toNat * 8 + 7, none⟩ = some (.slice xb n xk) := by rw [htn, ← hn]; exact hcell 7 _ (by decide) rfl
 have e0 : w.cell? ⟨q, 2, none⟩ = some (.slice (some ⟨ga, 0, none⟩) len cpa) := by rw [← hl]; exact cU (i := 2) Hs.row rfl
 have hkW := kA w (.cells #[(3:Int), fn, fs, fr, fe, fp, fq, fo, fd, fa, ft, fh, fc, fx] 102); obtain ⟨f0, f1, f2, f3, f4, f5, f6, f7, f8, f9, f10, f11, f12, f13⟩ := cZ (mH w (.cells #[(3:Int), fn, fs, fr, fe, fp, fq, fo, fd, fa, ft, fh, fc, fx] 102)); obtain ⟨W, hW⟩ : ∃ W, w.alloc (.cells #[(3:Int), fn, fs, fr, fe, fp, fq, fo, fd, fa, ft, fh, fc, fx] 102) = W := ⟨_, rfl⟩
 rw [hW] at hkW f0 f1 f2 f3 f4 f5 f6 f7 f8 f9 f10 f11 f12 f13; obtain ⟨x2, x6, x7, e0⟩ := kZ4 hkW x2 x6 x7 e0; have hL : ∃ L : Int, (len : Int) = L := ⟨_, rfl⟩
 obtain ⟨L, hL⟩ := hL; rw [hL] at hiL; obtain ⟨N, hN⟩ : ∃ N : Int, (n : Int) = N := ⟨_, rfl⟩
 have hN6 : N ≤ 6 := by omega
 obtain ⟨HS, HG, HL, HN, HNN, HI, HII, HTN⟩ := hD8 Hs hg hl hn hN hi hii htn; have KW := hD hkW; have HZ := hD (show ∀ w', Kp w w' → ∀ j, w'.frozen? ⟨ga, j, none⟩ = false from fun w' h j => by rw [Below.frozen h hgl]; exact hfz j); have hsf := sF
 by_cases h1 : fr < N
 ·have hfn : fr.toNat < xr.length := by have := HN.out; omega
  obtain ⟨⟨rn, rp, ⟨zp, ze, zt, zh⟩⟩, hr⟩ : ∃ r, xr[fr.toNat]? = some r := ⟨_, List.getElem?_eq_getElem hfn⟩
  obtain ⟨gr, ck, exb, hck, hgrB, hgrl, hfzr, hcr⟩ := cQ (E := rgE) HR.out rfl hfn; rw [(List.getElem?_eq_some_iff.1 hr).2, show rgE.k = 6 from rfl] at hcr; unfold AcG.v at exb; have exb := congrArg (fun v => match v with | Value.slice a _ _ => a | _ => none) exb; dsimp only at exb; subst exb; have y2 := kZ hkW (hcr 2 _ (by decide) rfl); have y3 := kZ hkW (hcr 3 _ (by decide) rfl); have y4 := kZ hkW (hcr 4 _ (by decide) rfl); have y5 := kZ hkW (hcr 5 _ (by decide) rfl); have HRR := hD hr; have HT := hD (fun w1 : World => refTurned15 ⟨zp, ze, zt, zh⟩ (⟨3, fn, fs, fr, fe, fp, fq, fo, fd, fa, ft, fh, fc, fx⟩ : FX) w1); dsimp only [seatV, FX.cells] at HT; have hzr : ∀ w', Kp w w' → ∀ j, w'.frozen? ⟨gr, j, none⟩ = false := fun w' h j => by rw [Below.frozen h hgrl]; exact hfzr j
  have HZR := hD hzr; have hact : actS m i ⟨⟨xn, xs, xo, xd, xx⟩, xp, xc, xr⟩ (⟨3, fn, fs, fr, fe, fp, fq, fo, fd, fa, ft, fh, fc, fx⟩ : FX) = if turnOk ⟨zp, ze, zt, zh⟩ ft fh = true then some { m with acts := m.acts.set i ⟨⟨xn, xs, xo, xd, xx⟩, xp, xc, xr.set fr.toNat ⟨rn, rp, ⟨zp, ze, ft, fh⟩⟩⟩ } else none := by
   unfold actS; dsimp only; rw [if_neg (show ¬ (3 : Int) = 2 by decide), if_pos rfl, hr]; dsimp only; rw [turnS_eq]
   by_cases ht : turnOk ⟨zp, ze, zt, zh⟩ ft fh = true
   ·rw [if_pos ht, if_pos ht]
    rfl
   ·rw [if_neg ht, if_neg ht]
    rfl
  obtain ⟨tk, htk⟩ : ∃ b, turnOk ⟨zp, ze, zt, zh⟩ ft fh = b := ⟨_, rfl⟩
  rw [htk] at HT hact; rw [hact]; have Y := hD (And.intro y2 (And.intro y3 (And.intro y4 y5))); have X := hD (And.intro x7 e0); have FF := hD (And.intro f2 (And.intro f10 f11)); clear hr hcr hzr hact htk hck hgrB hgrl hfzr hfn Hs hg hl hn hi hgi hcell htn hgB hgl hfz hii hcpa hkW; go_enter Tryz.func89, Tryz.ntmps89; go_wp2_with fail
  go_region
  go_wp2_with fail
  obtain ⟨WD, hWD⟩ : ∃ x, W.drew.drew = x := ⟨_, rfl⟩
  have kD : Kp W WD := by rw [← hWD]; exact dQ (dQ (Kp.refl W))
  have HWD := hD hWD; clear hWD; refine rgW (fun w' => Kp W w') ?_ fun hH => ?_
  ·exact by rw [HWD.out]; exact kD
  rw [HWD.out] at hH ⊢; have hDD : Kp W WD := hH; refine tkP 0 ?_
  go_simp; refine tkP 1 ?_
  go_simp; refine tkP 2 ?_
  go_simp; refine tkP 3 ?_ (y := by intro w hZ; have g7 := kZ hZ x7; go_simp; try rfl)
  go_simp; refine tkP 4 ?_
  go_simp; refine tkP 5 ?_ (y := by intro w hZ; have gf := kZ hZ f3; go_simp; try rfl)
  go_simp; refine tkP 6 ?_
  go_simp; refine tkP 7 ?_
  go_simp; refine tkP 8 ?_ (y := by intro w hZ; obtain ⟨a2, a3, a4, a5⟩ := kZ4 hZ y2 y3 y4 y5; go_simp; try rfl)
  go_simp; refine tkP 9 ?_ (y := by intro w hZ; obtain ⟨a0, a1, a2, a3, a4, a5, a6, a7, a8, a9, a10, a11, a12, a13⟩ := kZ14 hZ f0 f1 f2 f3 f4 f5 f6 f7 f8 f9 f10 f11 f12 f13; go_simp; try rfl)
  go_simp; refine wpAnyH_ready (rs := [10, 14]) (by kernel_rfl) (by simp) ?_
  refine aC (fun K hK => ?_) (aC (fun K hK => ?_) aN0)
  ·go_simp; go_wp2_with (go_at_call 88; (with_reducible refine (HT.out _).mono ?_); rintro e' w5 ⟨rfl, hk5⟩)
   refine hK.out _ _ (kT hH hk5) fun hH => ?_
   clear hK K; have h55 : Kp W w5 := hH; refine tkP 11 ?_
   go_simp; refine tkP 12 ?_
   go_simp; refine tkP 13 ?_
   go_simp; refine rdW 14 fun K hK => ?_
   go_simp; refine hK.out _ _ (kT hH (kA _ _)) fun hH => ?_
   clear hK K; obtain ⟨Y14, hY14⟩ : ∃ x, w5.alloc (.cells #[(0:Int), (0:Int), (0:Int), (0:Int)] 128) = x := ⟨_, rfl⟩
   have r14 : Y14.heap[w5.heap.size]? = some (.cells #[(0:Int), (0:Int), (0:Int), (0:Int)] 128) := by rw [← hY14]; exact (mH w5 (.cells #[(0:Int), (0:Int), (0:Int), (0:Int)] 128))
   have b14 : W.heap.size ≤ w5.heap.size := kS (show Kp W w5 from by assumption); obtain ⟨p14, hp14⟩ : ∃ x, w5.heap.size = x := ⟨_, rfl⟩
   rw [hp14] at r14 b14; rw [hY14] at hH ⊢
   try rw [hp14]
   clear hY14 hp14; have hYY : Kp W Y14 := hH; refine rdW 15 fun K hK => ?_
   obtain ⟨v0, v1, v2, v3⟩ := cells_4 r14; have fz5 := fQ r14; go_simp; refine hK.out _ _ (set_4_kp hH b14 _ _ _ _) fun hH => ?_
   clear hK K; obtain ⟨w6, hw6⟩ : ∃ x, (((Y14.setCell ⟨p14, 0, none⟩ (.int .i64 zp)).setCell ⟨p14, 1, none⟩ (.int .i64 ze)).setCell ⟨p14, 2, none⟩ (.int .i64 ft)).setCell ⟨p14, 3, none⟩ (.int .i64 fh) = x := ⟨_, rfl⟩
   have r10 : w6.heap[p14]? = some (.cells #[zp, ze, ft, fh] 128) := by rw [← hw6]; exact set_4 _ _ _ _ r14
   rw [hw6] at hH ⊢; have kw6 : Kp W w6 := hH; clear hw6 v0 v1 v2 v3 fz5; refine tkP 16 ?_
   go_simp; refine dnW ?_ _
   obtain ⟨g0, g7, gf, h2, h3, h4, h5⟩ := kZ7 kw6 e0 x7 f3 y2 y3 y4 y5; obtain ⟨s0, s1, s2, s3⟩ := cells_4 r10; have zz := HZR.out w6 (kT KW.out kw6); have KW6 := hD kw6
   cases tk with
   | false =>
    clear kw6 hH; go_wp2; go_ret; exact ⟨rfl, gs, _, HS.out.kp (kT KW.out KW6.out), Asd.of_kp _ (kT KW.out KW6.out)⟩
   | true =>
    clear kw6 hH; go_wp2_with fail
    go_still_tail 9, (by kernel_rfl)
    change wpList _ _ _ _ _ w6.drew
    go_wp2; have FIN := (HS.out.kp (kT KW.out KW6.out).drew).seatR tyD_ok HG.out HRR.out ⟨zp, ze, ft, fh⟩; go_ret; exact ⟨rfl, _, _, FIN.1, (Asd.of_kp _ (kT KW.out KW6.out).drew).trans FIN.2⟩
  ·go_simp; refine hK.out _ _ (kT hH (kA _ _)) fun hH => ?_
   clear hK K; obtain ⟨Y14, hY14⟩ : ∃ x, WD.alloc (.cells #[(0:Int), (0:Int), (0:Int), (0:Int)] 128) = x := ⟨_, rfl⟩
   have r14 : Y14.heap[WD.heap.size]? = some (.cells #[(0:Int), (0:Int), (0:Int), (0:Int)] 128) := by rw [← hY14]; exact (mH WD (.cells #[(0:Int), (0:Int), (0:Int), (0:Int)] 128))
   have b14 : W.heap.size ≤ WD.heap.size := kS (show Kp W WD from by assumption); obtain ⟨p14, hp14⟩ : ∃ x, WD.heap.size = x := ⟨_, rfl⟩
   rw [hp14] at r14 b14; rw [hY14] at hH ⊢
   try rw [hp14]
   clear hY14 hp14; have hYY : Kp W Y14 := hH; refine rdW 10 fun K hK => ?_
   go_simp; go_wp2_with (go_at_call 88; (with_reducible refine (HT.out _).mono ?_); rintro e' w5 ⟨rfl, hk5⟩)
   refine hK.out _ _ (kT hH hk5) fun hH => ?_
   clear hK K; have h55 : Kp W w5 := hH; have r14 := rZ hk5 r14; refine tkP 11 ?_
   go_simp; refine tkP 12 ?_
   go_simp; refine tkP 13 ?_
   go_simp; refine rdW 15 fun K hK => ?_
   obtain ⟨v0, v1, v2, v3⟩ := cells_4 r14; have fz5 := fQ r14; go_simp; refine hK.out _ _ (set_4_kp hH b14 _ _ _ _) fun hH => ?_
   clear hK K; obtain ⟨w6, hw6⟩ : ∃ x, (((w5.setCell ⟨p14, 0, none⟩ (.int .i64 zp)).setCell ⟨p14, 1, none⟩ (.int .i64 ze)).setCell ⟨p14, 2, none⟩ (.int .i64 ft)).setCell ⟨p14, 3, none⟩ (.int .i64 fh) = x := ⟨_, rfl⟩
   have r10 : w6.heap[p14]? = some (.cells #[zp, ze, ft, fh] 128) := by rw [← hw6]; exact set_4 _ _ _ _ r14
   rw [hw6] at hH ⊢; have kw6 : Kp W w6 := hH; clear hw6 v0 v1 v2 v3 fz5; refine tkP 16 ?_
   go_simp; refine dnW ?_ _
   obtain ⟨g0, g7, gf, h2, h3, h4, h5⟩ := kZ7 kw6 e0 x7 f3 y2 y3 y4 y5; obtain ⟨s0, s1, s2, s3⟩ := cells_4 r10; have zz := HZR.out w6 (kT KW.out kw6); have KW6 := hD kw6
   cases tk with
   | false =>
    clear kw6 hH; go_wp2; go_ret; exact ⟨rfl, gs, _, HS.out.kp (kT KW.out KW6.out), Asd.of_kp _ (kT KW.out KW6.out)⟩
   | true =>
    clear kw6 hH; go_wp2_with fail
    go_still_tail 9, (by kernel_rfl)
    change wpList _ _ _ _ _ w6.drew
    go_wp2; have FIN := (HS.out.kp (kT KW.out KW6.out).drew).seatR tyD_ok HG.out HRR.out ⟨zp, ze, ft, fh⟩; go_ret; exact ⟨rfl, _, _, FIN.1, (Asd.of_kp _ (kT KW.out KW6.out).drew).trans FIN.2⟩
 ·have g1 : ¬ fr < N := h1; have hno : xr[fr.toNat]? = none := List.getElem?_eq_none (by have := HN.out; omega); have HM := hD (show actS m i ⟨⟨xn, xs, xo, xd, xx⟩, xp, xc, xr⟩ (⟨3, fn, fs, fr, fe, fp, fq, fo, fd, fa, ft, fh, fc, fx⟩ : FX) = none by unfold actS; dsimp only; rw [if_neg (show ¬ (3 : Int) = 2 by decide), if_pos rfl, hno]); rw [HM.out]; clear hno h1 Hs hg hl hn hi hgi hcell htn hgB hgl hfz hii hcpa hkW; go_enter Tryz.func89, Tryz.ntmps89; go_wp2_with fail
  go_region
  go_wp2; go_ret; exact ⟨rfl, gs, _, HS.out.kp (dQ KW.out), Asd.of_kp _ (dQ KW.out)⟩
end Go.Proofs.YtlmlmhmhgdjhnaaGreatDoor
