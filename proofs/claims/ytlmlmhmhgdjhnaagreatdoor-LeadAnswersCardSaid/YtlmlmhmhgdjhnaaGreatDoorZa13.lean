/- Parts of this proof (own work). -/
import Derived.Test.YtlmlmhmhgdjhnaaGreatDoorZa12
set_option maxRecDepth 100000
set_option maxHeartbeats 40000000
namespace Go.Proofs.YtlmlmhmhgdjhnaaGreatDoor
open Go.RowKit Go.ChangeShapes Go.WideShapes
variable {w0 w w' W w3 : World} {B q : Nat} {m : StM} {gs : List AcG} {va vp : Value}
theorem c7X {b : Nat} {t : TypeId} {w : World} {x0 x1 x2 x3 x4 x5 x6 : Value} (h : w.heap[b]? = some (.cells #[x0, x1, x2, x3, x4, x5, x6] t (0, 0))) : w.cell? ⟨b, 0, none⟩ = some x0 ∧ w.cell? ⟨b, 1, none⟩ = some x1 ∧ w.cell? ⟨b, 2, none⟩ = some x2 ∧ w.cell? ⟨b, 3, none⟩ = some x3 ∧ w.cell? ⟨b, 4, none⟩ = some x4 ∧ w.cell? ⟨b, 5, none⟩ = some x5 ∧ w.cell? ⟨b, 6, none⟩ = some x6 := by
 refine ⟨?_, ?_, ?_, ?_, ?_, ?_, ?_⟩ <;> (unfold World.cell?; dsimp only; rw [h]; rfl)
theorem set_7 {b : Nat} {t : TypeId} {w : World} {x0 x1 x2 x3 x4 x5 x6 : Value} (y0 y1 y2 y3 y4 y5 y6 : Value) (h : w.heap[b]? = some (.cells #[x0, x1, x2, x3, x4, x5, x6] t (0, 0))) : (((((((w.setCell ⟨b, 0, none⟩ y0).setCell ⟨b, 1, none⟩ y1).setCell ⟨b, 2, none⟩ y2).setCell ⟨b, 3, none⟩ y3).setCell ⟨b, 4, none⟩ y4).setCell ⟨b, 5, none⟩ y5).setCell ⟨b, 6, none⟩ y6).heap[b]? = some (.cells #[y0, y1, y2, y3, y4, y5, y6] t (0, 0)) := by
 have h0 : (w.setCell ⟨b, 0, none⟩ y0).heap[b]? = some (.cells #[y0, x1, x2, x3, x4, x5, x6] t (0, 0)) := (Joins.block_setCell h _).trans rfl; have h1 : ((w.setCell ⟨b, 0, none⟩ y0).setCell ⟨b, 1, none⟩ y1).heap[b]? = some (.cells #[y0, y1, x2, x3, x4, x5, x6] t (0, 0)) := (Joins.block_setCell h0 _).trans rfl; have h2 : (((w.setCell ⟨b, 0, none⟩ y0).setCell ⟨b, 1, none⟩ y1).setCell ⟨b, 2, none⟩ y2).heap[b]? = some (.cells #[y0, y1, y2, x3, x4, x5, x6] t (0, 0)) := (Joins.block_setCell h1 _).trans rfl; have h3 : ((((w.setCell ⟨b, 0, none⟩ y0).setCell ⟨b, 1, none⟩ y1).setCell ⟨b, 2, none⟩ y2).setCell ⟨b, 3, none⟩ y3).heap[b]? = some (.cells #[y0, y1, y2, y3, x4, x5, x6] t (0, 0)) := (Joins.block_setCell h2 _).trans rfl; have h4 : (((((w.setCell ⟨b, 0, none⟩ y0).setCell ⟨b, 1, none⟩ y1).setCell ⟨b, 2, none⟩ y2).setCell ⟨b, 3, none⟩ y3).setCell ⟨b, 4, none⟩ y4).heap[b]? = some (.cells #[y0, y1, y2, y3, y4, x5, x6] t (0, 0)) := (Joins.block_setCell h3 _).trans rfl
 have h5 : ((((((w.setCell ⟨b, 0, none⟩ y0).setCell ⟨b, 1, none⟩ y1).setCell ⟨b, 2, none⟩ y2).setCell ⟨b, 3, none⟩ y3).setCell ⟨b, 4, none⟩ y4).setCell ⟨b, 5, none⟩ y5).heap[b]? = some (.cells #[y0, y1, y2, y3, y4, y5, x6] t (0, 0)) := (Joins.block_setCell h4 _).trans rfl; have h6 : (((((((w.setCell ⟨b, 0, none⟩ y0).setCell ⟨b, 1, none⟩ y1).setCell ⟨b, 2, none⟩ y2).setCell ⟨b, 3, none⟩ y3).setCell ⟨b, 4, none⟩ y4).setCell ⟨b, 5, none⟩ y5).setCell ⟨b, 6, none⟩ y6).heap[b]? = some (.cells #[y0, y1, y2, y3, y4, y5, y6] t (0, 0)) := (Joins.block_setCell h5 _).trans rfl; exact h6
theorem set_7_kp {b : Nat} {w0 w : World} (hk : Kp w0 w) (hb : w0.heap.size ≤ b) (y0 y1 y2 y3 y4 y5 y6 : Value) : Kp w0 (((((((w.setCell ⟨b, 0, none⟩ y0).setCell ⟨b, 1, none⟩ y1).setCell ⟨b, 2, none⟩ y2).setCell ⟨b, 3, none⟩ y3).setCell ⟨b, 4, none⟩ y4).setCell ⟨b, 5, none⟩ y5).setCell ⟨b, 6, none⟩ y6) := by
 refine Below.setCell ?_ hb _
 refine Below.setCell ?_ hb _
 refine Below.setCell ?_ hb _
 refine Below.setCell ?_ hb _
 refine Below.setCell ?_ hb _
 refine Below.setCell ?_ hb _
 refine Below.setCell ?_ hb _
 exact hk
def paV (x : PaM) : Array Value := #[.int .i64 x.n, .int .i64 x.s, .int .i64 x.reg, .int .i64 x.z.p, .int .i64 x.z.e, .int .i64 x.z.s, .int .i64 x.z.h]
def zeroP : PaM := ⟨0, 0, 0, ⟨0, 0, 0, 0⟩⟩
def partQ (m : StM) (i : Int) : Option PaM := if 0 ≤ i then m.parts[i.toNat]? else none
theorem child_eq (hp : ∀ a ∈ m.acts, 0 ≤ a.par) (p : Int) : m.acts.findIdx? (fun a => decide (a.par ≠ 0 ∧ a.par - 1 = p)) = childS m.acts p := by
 unfold childS
 by_cases h : p < 0
 ·rw [if_pos h, List.findIdx?_eq_none_iff]; intro x hx; have := hp x hx; simp only [decide_eq_false_iff_not]
  omega
 ·rw [if_neg h]
  congr 1
  funext a
  have : (a.par ≠ 0 ∧ a.par - 1 = p) ↔ a.par = p + 1 := by omega
  simp [this]
theorem stFind (H : GS tyL B q m gs va vp w) (h8 : gs.length ≤ 8) (h6 : ∀ a ∈ m.acts, a.regs.length ≤ 6) (n s : Int) : Calls Tryz.prog 116 #[.pointer (some ⟨q, 0, none⟩), .agg #[n, s]] w fun r w' => ∃ v, r = .returned (.tuple #[.agg v, .bool (findS m.acts n s).isSome]) ∧ OutA m (findS m.acts n s) v w.heap.size w' ∧ Kp w w' := by
 have k1 : Kp w ((w.alloc (.cells #[n, s] 25)).alloc (.cells #[(0:Int), (0:Int), (0:Int), (0:Int), .float .f64 0, (0:Int), (0:Int), .slice none 0 0] 92)) := kT (kA _ _) (kA _ _); have r1 := nX0 w (.cells #[n, s] 25) (.cells #[(0:Int), (0:Int), (0:Int), (0:Int), .float .f64 0, (0:Int), (0:Int), .slice none 0 0] 92); have r2 := nX1 w (.cells #[n, s] 25) (.cells #[(0:Int), (0:Int), (0:Int), (0:Int), .float .f64 0, (0:Int), (0:Int), .slice none 0 0] 92); obtain ⟨W, hW⟩ : ∃ W, ((w.alloc (.cells #[n, s] 25)).alloc (.cells #[(0:Int), (0:Int), (0:Int), (0:Int), .float .f64 0, (0:Int), (0:Int), .slice none 0 0] 92)) = W := ⟨_, rfl⟩
 rw [hW] at k1 r1 r2; have h6' : ∀ g ∈ gs, g.a.regs.length ≤ 6 := fun g hg => h6 _ (by rw [H.acts]; exact List.mem_map_of_mem hg)
 have hfi := firstFind (H.kp k1) h8 h6' w.heap.size n s r1; rw [show m.acts.findIdx? (fun a => decide (a.c.n = n ∧ a.c.s = s)) = findS m.acts n s from rfl] at hfi; obtain ⟨PL, hPL⟩ : ∃ x, findS m.acts n s = x := ⟨_, rfl⟩
 rw [hPL] at hfi ⊢; obtain ⟨tb, htb⟩ : ∃ b, PL.isSome = b := ⟨_, rfl⟩
 rw [htb] at hfi ⊢; obtain ⟨HFI, K1, R2⟩ := hD3 hfi k1 r2; have hsf := sF; clear H h8 h6 h6' hfi k1 r1 r2 hPL htb; go_enter Tryz.func116, Tryz.ntmps116; go_wp2_with (go_at_call 110; (with_reducible refine HFI.out.mono ?_); rintro e' w3 ⟨v, rfl, hO, hk⟩; obtain ⟨xn, xs, xo, xd, xx, xp, xc, av, nv, cv, rfl⟩ := hO.form; have r3 := rZ hk R2.out; obtain ⟨u0, u1, u2, u3, u4, u5, u6, u7⟩ := c8X r3; have fz3 := fQ r3; have K3 := hD (kT K1.out hk); obtain ⟨R3, O3⟩ := hD2 r3 hO; clear hk r3 hO)
 refine bodyPost_ret (rQ (p := 4) (u := 5) rfl _ _ (w.heap.size + 1) 92 _ (0, 0) _ rfl (set_8 (.int .i64 xn) (.int .i64 xs) (.int .i64 xo) (.int .i64 xd) (.float .f64 xx) (.int .i64 xp) (.int .i64 xc) (.slice av nv cv) R3.out) Tryz.underlying92 rfl (by kernel_rfl)) rfl ?_
 refine ⟨_, rfl, ?_, set_8_kp K3.out (by omega) _ _ _ _ _ _ _ _⟩
 obtain ⟨a, oo, cc, h1, h2, h3⟩ := O3.out; refine ⟨a, oo, cc, h1, h2, bG (sG h3 (fun b e => ?_)) (kS K1.out)⟩
 have hb := (h3.lt b e).1; have hs := oZ R2.out; rw [bS _ _ _ _ (by dsimp only; omega), bS _ _ _ _ (by dsimp only; omega), bS _ _ _ _ (by dsimp only; omega), bS _ _ _ _ (by dsimp only; omega), bS _ _ _ _ (by dsimp only; omega), bS _ _ _ _ (by dsimp only; omega), bS _ _ _ _ (by dsimp only; omega), bS _ _ _ _ (by dsimp only; omega)]
theorem stChild (H : GS tyL B q m gs va vp w) (h8 : gs.length ≤ 8) (h6 : ∀ a ∈ m.acts, a.regs.length ≤ 6) (p : Int) (hp : ∀ a ∈ m.acts, 0 ≤ a.par ∧ a.par ≤ 8) : Calls Tryz.prog 51 #[.pointer (some ⟨q, 0, none⟩), .int .i64 p] w fun r w' => ∃ v, r = .returned (.tuple #[.agg v, .bool (childS m.acts p).isSome]) ∧ OutA m (childS m.acts p) v w.heap.size w' ∧ Kp w w' := by
 have k1 : Kp w ((w.alloc (.cells #[p] 3)).alloc (.cells #[(0:Int), (0:Int), (0:Int), (0:Int), .float .f64 0, (0:Int), (0:Int), .slice none 0 0] 92)) := kT (kA _ _) (kA _ _); have r1 := nX0 w (.cells #[p] 3) (.cells #[(0:Int), (0:Int), (0:Int), (0:Int), .float .f64 0, (0:Int), (0:Int), .slice none 0 0] 92); have r2 := nX1 w (.cells #[p] 3) (.cells #[(0:Int), (0:Int), (0:Int), (0:Int), .float .f64 0, (0:Int), (0:Int), .slice none 0 0] 92); obtain ⟨W, hW⟩ : ∃ W, ((w.alloc (.cells #[p] 3)).alloc (.cells #[(0:Int), (0:Int), (0:Int), (0:Int), .float .f64 0, (0:Int), (0:Int), .slice none 0 0] 92)) = W := ⟨_, rfl⟩
 rw [hW] at k1 r1 r2; have h6' : ∀ g ∈ gs, g.a.regs.length ≤ 6 := fun g hg => h6 _ (by rw [H.acts]; exact List.mem_map_of_mem hg)
 have hfi := firstChild (H.kp k1) h8 h6' w.heap.size p (fun g hg => hp _ (by rw [H.acts]; exact List.mem_map_of_mem hg)) r1; rw [child_eq (fun a ha => (hp a ha).1)] at hfi; obtain ⟨PL, hPL⟩ : ∃ x, childS m.acts p = x := ⟨_, rfl⟩
 rw [hPL] at hfi ⊢; obtain ⟨tb, htb⟩ : ∃ b, PL.isSome = b := ⟨_, rfl⟩
 rw [htb] at hfi ⊢; obtain ⟨HFI, K1, R2⟩ := hD3 hfi k1 r2; have hsf := sF; clear H h8 h6 h6' hp hfi k1 r1 r2 hPL htb; go_enter Tryz.func51, Tryz.ntmps51; go_wp2_with (go_at_call 110; (with_reducible refine HFI.out.mono ?_); rintro e' w3 ⟨v, rfl, hO, hk⟩; obtain ⟨xn, xs, xo, xd, xx, xp, xc, av, nv, cv, rfl⟩ := hO.form; have r3 := rZ hk R2.out; obtain ⟨u0, u1, u2, u3, u4, u5, u6, u7⟩ := c8X r3; have fz3 := fQ r3; have K3 := hD (kT K1.out hk); obtain ⟨R3, O3⟩ := hD2 r3 hO; clear hk r3 hO)
 refine bodyPost_ret (rQ (p := 4) (u := 5) rfl _ _ (w.heap.size + 1) 92 _ (0, 0) _ rfl (set_8 (.int .i64 xn) (.int .i64 xs) (.int .i64 xo) (.int .i64 xd) (.float .f64 xx) (.int .i64 xp) (.int .i64 xc) (.slice av nv cv) R3.out) Tryz.underlying92 rfl (by kernel_rfl)) rfl ?_
 refine ⟨_, rfl, ?_, set_8_kp K3.out (by omega) _ _ _ _ _ _ _ _⟩
 obtain ⟨a, oo, cc, h1, h2, h3⟩ := O3.out; refine ⟨a, oo, cc, h1, h2, bG (sG h3 (fun b e => ?_)) (kS K1.out)⟩
 have hb := (h3.lt b e).1; have hs := oZ R2.out; rw [bS _ _ _ _ (by dsimp only; omega), bS _ _ _ _ (by dsimp only; omega), bS _ _ _ _ (by dsimp only; omega), bS _ _ _ _ (by dsimp only; omega), bS _ _ _ _ (by dsimp only; omega), bS _ _ _ _ (by dsimp only; omega), bS _ _ _ _ (by dsimp only; omega), bS _ _ _ _ (by dsimp only; omega)]
theorem stPart (H : GS tyL B q m gs va vp w) (i : Int) : Calls Tryz.prog 107 #[.pointer (some ⟨q, 0, none⟩), .int .i64 i] w fun r w' => ∃ x, r = .returned (.tuple #[.agg (paV x), .bool (partQ m i).isSome]) ∧ (match partQ m i with | none => x = zeroP | some y => x = y) ∧ Kp w w' := by
 obtain ⟨b0, d0, evp⟩ := H.pForm; subst evp; obtain ⟨np, hnp⟩ : ∃ x, m.parts.length = x := ⟨_, rfl⟩
 have e0 : w.cell? ⟨q, 3, none⟩ = some (.slice b0 np d0) := by rw [← hnp]; exact cU (i := 3) H.row rfl
 have kz := kA w (.cells #[(0:Int), (0:Int), (0:Int), (0:Int), (0:Int), (0:Int), (0:Int)] 119); have rz := (mH w (.cells #[(0:Int), (0:Int), (0:Int), (0:Int), (0:Int), (0:Int), (0:Int)] 119))
 obtain ⟨W, hW⟩ : ∃ W, w.alloc (.cells #[(0:Int), (0:Int), (0:Int), (0:Int), (0:Int), (0:Int), (0:Int)] 119) = W := ⟨_, rfl⟩
 rw [hW] at kz rz; have e0 := kZ kz e0; obtain ⟨u0, u1, u2, u3, u4, u5, u6⟩ := c7X rz; have fz := fQ rz; obtain ⟨N, hN⟩ : ∃ N : Int, (np : Int) = N := ⟨_, rfl⟩
 obtain ⟨KZ, RZ⟩ := hD2 kz rz
 by_cases h1 : i < 0
 ·rw [show partQ m i = none by unfold partQ; rw [if_neg (by omega)]]; have g1 : decide (i < 0) = true := dT h1; clear H hnp kz rz h1 hN; go_enter Tryz.func107, Tryz.ntmps107; go_wp2; refine bodyPost_ret (rQ (p := 4) (u := 5) rfl _ _ w.heap.size 119 _ (0, 0) _ rfl (set_7 (.int .i64 0) (.int .i64 0) (.int .i64 0) (.int .i64 0) (.int .i64 0) (.int .i64 0) (.int .i64 0) RZ.out) Tryz.underlying119 rfl (by kernel_rfl)) rfl ?_
  exact ⟨zeroP, rfl, rfl, set_7_kp KZ.out (Nat.le_refl _) _ _ _ _ _ _ _⟩
 ·have g1 : decide (i < 0) = false := dF h1
  by_cases h2 : i ≥ N
  ·rw [show partQ m i = none by unfold partQ; rw [if_pos (by omega), List.getElem?_eq_none (by omega)]]; have g2 : decide (i ≥ N) = true := dT h2; clear H hnp kz rz h1 h2; go_enter Tryz.func107, Tryz.ntmps107; go_wp2; refine bodyPost_ret (rQ (p := 4) (u := 5) rfl _ _ w.heap.size 119 _ (0, 0) _ rfl (set_7 (.int .i64 0) (.int .i64 0) (.int .i64 0) (.int .i64 0) (.int .i64 0) (.int .i64 0) (.int .i64 0) RZ.out) Tryz.underlying119 rfl (by kernel_rfl)) rfl ?_
   exact ⟨zeroP, rfl, rfl, set_7_kp KZ.out (Nat.le_refl _) _ _ _ _ _ _ _⟩
  ·have g2 : decide (i ≥ N) = false := dF h2; have hj : i.toNat < m.parts.length := by omega
   obtain ⟨gp, ck, evp2, hck, hgpB, hgpl, hfzp, hcp⟩ := cQ (E := paE) H.op rfl hj; obtain ⟨⟨yn, ys, yr, ⟨y1, y2, y3, y4⟩⟩, hx⟩ : ∃ x, m.parts[i.toNat]'hj = x := ⟨_, rfl⟩
   have hcp2 : ∀ (j : Nat) (u : Value), j < paE.k → (paE.enc (m.parts[i.toNat]'hj))[j]? = some u → w.cell? ⟨gp, i.toNat * paE.k + j, none⟩ = some u := hcp; rw [hx, show paE.k = 7 from rfl] at hcp2; have evp2 := congrArg (fun v => match v with | Value.slice a _ _ => a | _ => none) evp2; dsimp only at evp2; subst evp2; have x0 := kZ kz (show w.cell? ⟨gp, i.toNat * 7, none⟩ = some (.int .i64 yn) from hcp2 0 _ (by decide) rfl); have x1 := kZ kz (show w.cell? ⟨gp, i.toNat * 7 + 1, none⟩ = some (.int .i64 ys) from hcp2 1 _ (by decide) rfl); have x2 := kZ kz (show w.cell? ⟨gp, i.toNat * 7 + 2, none⟩ = some (.int .i64 yr) from hcp2 2 _ (by decide) rfl); have x3 := kZ kz (show w.cell? ⟨gp, i.toNat * 7 + 3, none⟩ = some (.int .i64 y1) from hcp2 3 _ (by decide) rfl); have x4 := kZ kz (show w.cell? ⟨gp, i.toNat * 7 + 4, none⟩ = some (.int .i64 y2) from hcp2 4 _ (by decide) rfl); have x5 := kZ kz (show w.cell? ⟨gp, i.toNat * 7 + 5, none⟩ = some (.int .i64 y3) from hcp2 5 _ (by decide) rfl)
   have x6 := kZ kz (show w.cell? ⟨gp, i.toNat * 7 + 6, none⟩ = some (.int .i64 y4) from hcp2 6 _ (by decide) rfl); rw [show partQ m i = some ⟨yn, ys, yr, ⟨y1, y2, y3, y4⟩⟩ by unfold partQ; rw [if_pos (by omega), List.getElem?_eq_getElem hj, hx]]; have i0 : 0 ≤ i := by omega
   have iN : i < N := by omega
   clear H hnp kz rz h1 h2 hj hck hgpB hgpl hfzp hcp hcp2 hx; go_enter Tryz.func107, Tryz.ntmps107; go_wp2; refine bodyPost_ret (rQ (p := 4) (u := 5) rfl _ _ w.heap.size 119 _ (0, 0) _ rfl (set_7 (.int .i64 yn) (.int .i64 ys) (.int .i64 yr) (.int .i64 y1) (.int .i64 y2) (.int .i64 y3) (.int .i64 y4) RZ.out) Tryz.underlying119 rfl (by kernel_rfl)) rfl ?_
   exact ⟨⟨yn, ys, yr, ⟨y1, y2, y3, y4⟩⟩, rfl, rfl, set_7_kp KZ.out (Nat.le_refl _) _ _ _ _ _ _ _⟩
theorem stNode (H : GS tyL B q m gs va vp w) : Calls Tryz.prog 73 #[.pointer (some ⟨q, 0, none⟩)] w fun r w' => r = .returned (.int .i64 m.node) ∧ w = w' := by
 have e0 : w.cell? ⟨q, 0, none⟩ = some (.int .i64 m.node) := cU (i := 0) H.row rfl; obtain ⟨x, hx⟩ : ∃ x, m.node = x := ⟨_, rfl⟩
 rw [hx] at e0 ⊢; clear H hx; go_enter Tryz.func73, Tryz.ntmps73; go_wp2; go_ret; exact ⟨rfl, rfl⟩
def SlI (v : Value) (bs : List Int) (w : World) : Prop :=
 (bs = [] ∧ ∃ a cap, v = .slice a 0 cap) ∨
 ∃ b off cap, 0 < bs.length ∧ v = .slice (some ⟨b, off, none⟩) bs.length cap ∧ ∀ j, j < bs.length → w.cell? ⟨b, off + j, none⟩ = some (.int .i64 (bs.getD j 0))
theorem SlI.kp {v : Value} {bs : List Int} {w w' : World} (h : SlI v bs w) (hb : Kp w w') : SlI v bs w' := by
 rcases h with h | ⟨b, off, cap, h0, h1, h2⟩
 ·exact Or.inl h
 ·exact Or.inr ⟨b, off, cap, h0, h1, fun j hj => kZ hb (h2 j hj)⟩
theorem SlI.form {v : Value} {bs : List Int} {w : World} (h : SlI v bs w) : ∃ a cap, v = .slice a bs.length cap := by
 rcases h with ⟨rfl, a, cap, rfl⟩ | ⟨b, off, cap, _, rfl, _⟩
 ·exact ⟨a, cap, rfl⟩
 ·exact ⟨_, cap, rfl⟩
theorem SlI.at {a : Option Addr} {n cap : Nat} {bs : List Int} {w : World} (h : SlI (.slice a n cap) bs w) (j : Nat) (hj : j < bs.length) : ∃ b off, a = some ⟨b, off, none⟩ ∧ w.cell? ⟨b, off + j, none⟩ = some (.int .i64 (bs.getD j 0)) := by
 rcases h with ⟨hz, _⟩ | ⟨b, off, cap', _, hv, hcc⟩
 ·rw [hz] at hj; cases hj
 ·injection hv with hv1 _ _
  exact ⟨b, off, hv1, hcc j hj⟩
theorem own_sli {w : World} {base n : Nat} {v : Value} {bs : List Int} (h : w.ownsRow base 3 1 v n (bs.map (Value.int .i64))) : SlI v bs w := by
 obtain ⟨h1, h2⟩ := h; have hlen : bs.length = n := by simpa using h1
 rcases h2 with ⟨rfl, hn⟩ | ⟨g, cap, cur, rfl, hg, hh, hc, hm, hs, ht⟩
 ·left
  exact ⟨List.length_eq_zero_iff.1 (by omega), none, 0, rfl⟩
 ·by_cases h0 : n = 0
  ·left
   subst h0; exact ⟨List.length_eq_zero_iff.1 (by omega), _, cap, rfl⟩
  ·right
   refine ⟨g, 0, cap, by omega, by rw [hlen], fun j hj => ?_⟩
   unfold World.cell?; dsimp only; rw [hh]; simp only [Option.isSome_none, Bool.false_eq_true, if_false, Nat.zero_add]
   have : (cur.toList.take (n * 1))[j]? = some (.int .i64 (bs.getD j 0)) := by
    rw [ht]; simp [List.getD, hj]
   rw [List.getElem?_take, Nat.mul_one, if_pos (by omega)] at this
   simpa using this
def i64T (x : Int) : Prop := -9223372036854775808 ≤ x ∧ x ≤ 9223372036854775807
instance (x : Int) : Decidable (i64T x) := by unfold i64T; infer_instance
structure TabC (ads : List Addr) (w : World) : Prop where
 look : ∀ w1, Kp w w1 → ∀ p e k s : Int, i64T p → i64T e → i64T k → i64T s → Calls Tryz.prog 172 #[.int .i64 p, .int .i64 e, .int .i64 k, .int .i64 s] w1 fun e' w' => e' = .returned (.tuple #[.agg (cellV (lookT p e k s).2), errI ads (lookT p e k s).1]) ∧ Kp w1 w'
 waits : ∀ w1, Kp w w1 → ∀ p e s : Int, i64T p → i64T e → i64T s → Calls Tryz.prog 84 #[.int .i64 p, .int .i64 e, .int .i64 s] w1 fun e' w' => e' = .returned (.tuple #[.int .i64 (waitsT p e s).2, errI ads (waitsT p e s).1]) ∧ Kp w1 w'
theorem TabC.kp {ads : List Addr} {w w' : World} (C : TabC ads w) (hk : Kp w w') : TabC ads w' where
 look := fun w1 h => C.look w1 (kT hk h)
 waits := fun w1 h => C.waits w1 (kT hk h)
structure TabS (ads : List Addr) (w : World) : Prop where
 step : ∀ w1, Kp w w1 → ∀ p e k s : Int, i64T p → i64T e → i64T k → i64T s → Calls Tryz.prog 118 #[.int .i64 p, .int .i64 e, .int .i64 k, .int .i64 s] w1 fun e' w' => e' = .returned (.tuple #[.int .i64 (stepT p e k s).2, errI ads (stepT p e k s).1]) ∧ Kp w1 w'
theorem TabS.kp {ads : List Addr} {w w' : World} (C : TabS ads w) (hk : Kp w w') : TabS ads w' where
 step := fun w1 h => C.step w1 (kT hk h)
theorem errI_ifaceM (ads : List Addr) (k : Int) (h : k ≠ 0) : ∃ q, errI ads k = .iface 283 (.pointer q) := ⟨_, if_neg h⟩
def howOk (z : SeatM) : Bool := if z.s = 14 then decide (z.h = 1 ∨ (4 ≤ z.h ∧ z.h ≤ 8)) else decide (z.h = 0)
def dueM (s : Int) : Int := if s = 13 then 13 else if s = 12 then 14 else if 8 ≤ s ∧ s ≤ 11 then 12 else 0
def howC (k : Int) : Int := if k = 13 then 1 else if k = 14 then 5 else if k = 12 then 4 else k
def SeatM.goes (z : SeatM) (st k send : Int) : EffM := ⟨⟨z.p, z.e, st, if st = 14 then howC k else 0⟩, send, 0, if SeatM.right ⟨z.p, z.e, st, if st = 14 then howC k else 0⟩ = true then SeatM.work ⟨z.p, z.e, st, if st = 14 then howC k else 0⟩ else 0, true⟩
def SeatM.toldC (z : SeatM) (k st : Int) : EffM := if z.e = 1 ∧ dueM st ≠ 0 then z.goes 14 (dueM st) (dueM st) else z.goes st k 0
theorem right_how (z : SeatM) : z.right = (rightT z.p z.e && hasT z.p z.e z.s && howOk z) := rfl
theorem msHow_any (z : SeatM) (w : World) : Calls Tryz.prog 137 #[.agg (seatV z)] w fun r w' => r = .returned (.bool (howOk z)) ∧ Kp w w' := by
 obtain ⟨p, e, s, h⟩ := z; dsimp only [seatV]; have KB := hD (kA w (.cells #[p, e, s, h] 94)); have HR := hD (mH w (.cells #[p, e, s, h] 94)); obtain ⟨g0, g1, g2, g3⟩ := cells_4 HR.out
 by_cases h14 : s = 14
 ·subst h14
  by_cases h1 : h = 1
  ·subst h1; rw [show howOk ⟨p, e, 14, 1⟩ = true by simp [howOk]]; (go_enter Tryz.func137, Tryz.ntmps137; go_wp2; go_ret; exact ⟨rfl, KB.out⟩)
  by_cases h4 : h = 4
  ·subst h4; rw [show howOk ⟨p, e, 14, 4⟩ = true by simp [howOk]]; (go_enter Tryz.func137, Tryz.ntmps137; go_wp2; go_ret; exact ⟨rfl, KB.out⟩)
  by_cases h5 : h = 5
  ·subst h5; rw [show howOk ⟨p, e, 14, 5⟩ = true by simp [howOk]]; (go_enter Tryz.func137, Tryz.ntmps137; go_wp2; go_ret; exact ⟨rfl, KB.out⟩)
  by_cases h6 : h = 6
  ·subst h6; rw [show howOk ⟨p, e, 14, 6⟩ = true by simp [howOk]]; (go_enter Tryz.func137, Tryz.ntmps137; go_wp2; go_ret; exact ⟨rfl, KB.out⟩)
  by_cases h7 : h = 7
  ·subst h7; rw [show howOk ⟨p, e, 14, 7⟩ = true by simp [howOk]]; (go_enter Tryz.func137, Tryz.ntmps137; go_wp2; go_ret; exact ⟨rfl, KB.out⟩)
  by_cases h8 : h = 8
  ·subst h8; rw [show howOk ⟨p, e, 14, 8⟩ = true by simp [howOk]]; (go_enter Tryz.func137, Tryz.ntmps137; go_wp2; go_ret; exact ⟨rfl, KB.out⟩)
  have b1 : (h == 1) = false := by simpa using h1
  have b4 : (h == 4) = false := by simpa using h4
  have b5 : (h == 5) = false := by simpa using h5
  have b6 : (h == 6) = false := by simpa using h6
  have b7 : (h == 7) = false := by simpa using h7
  have b8 : (h == 8) = false := by simpa using h8
  rw [show howOk ⟨p, e, 14, h⟩ = false by simp only [howOk, if_true]; exact dF (by omega)]; clear h1 h4 h5 h6 h7 h8
  (go_enter Tryz.func137, Tryz.ntmps137; go_wp2; go_ret; exact ⟨rfl, KB.out⟩)
 ·rw [show howOk ⟨p, e, s, h⟩ = (h == 0) by simp [howOk, h14]; rw [Bool.eq_iff_iff]; simp]; have b14 : (s == 14) = false := by simpa using h14
  clear h14
  (go_enter Tryz.func137, Tryz.ntmps137; go_wp2; go_ret; exact ⟨rfl, KB.out⟩)
theorem due_any (s : Int) (w : World) : Calls Tryz.prog 212 #[.int .i64 s] w fun r w' => r = .returned (.int .i64 (dueM s)) ∧ w = w' := by
 by_cases h13 : s = 13
 ·subst h13; (go_enter Tryz.func212, Tryz.ntmps212; go_wp2; go_ret; exact ⟨rfl, rfl⟩)
 by_cases h12 : s = 12
 ·subst h12; (go_enter Tryz.func212, Tryz.ntmps212; go_wp2; go_ret; exact ⟨rfl, rfl⟩)
 by_cases h8 : s = 8
 ·subst h8; (go_enter Tryz.func212, Tryz.ntmps212; go_wp2; go_ret; exact ⟨rfl, rfl⟩)
 by_cases h9 : s = 9
 ·subst h9; (go_enter Tryz.func212, Tryz.ntmps212; go_wp2; go_ret; exact ⟨rfl, rfl⟩)
 by_cases h10 : s = 10
 ·subst h10; (go_enter Tryz.func212, Tryz.ntmps212; go_wp2; go_ret; exact ⟨rfl, rfl⟩)
 by_cases h11 : s = 11
 ·subst h11; (go_enter Tryz.func212, Tryz.ntmps212; go_wp2; go_ret; exact ⟨rfl, rfl⟩)
 have b13 : (s == 13) = false := by simpa using h13
 have b12 : (s == 12) = false := by simpa using h12
 have b8 : (s == 8) = false := by simpa using h8
 have b9 : (s == 9) = false := by simpa using h9
 have b10 : (s == 10) = false := by simpa using h10
 have b11 : (s == 11) = false := by simpa using h11
 rw [show dueM s = 0 by unfold dueM; rw [if_neg h13, if_neg h12, if_neg (by omega)]]; clear h13 h12 h8 h9 h10 h11
 (go_enter Tryz.func212, Tryz.ntmps212; go_wp2; go_ret; exact ⟨rfl, rfl⟩)
theorem how_any (k : Int) (w : World) : Calls Tryz.prog 164 #[.int .i64 k] w fun r w' => r = .returned (.int .i64 (howC k)) ∧ w = w' := by
 by_cases h13 : k = 13
 ·subst h13; (go_enter Tryz.func164, Tryz.ntmps164; go_wp2; go_ret; exact ⟨rfl, rfl⟩)
 by_cases h14 : k = 14
 ·subst h14; (go_enter Tryz.func164, Tryz.ntmps164; go_wp2; go_ret; exact ⟨rfl, rfl⟩)
 by_cases h12 : k = 12
 ·subst h12; (go_enter Tryz.func164, Tryz.ntmps164; go_wp2; go_ret; exact ⟨rfl, rfl⟩)
 have b13 : (k == 13) = false := by simpa using h13
 have b14 : (k == 14) = false := by simpa using h14
 have b12 : (k == 12) = false := by simpa using h12
 rw [show howC k = k by unfold howC; rw [if_neg h13, if_neg h14, if_neg h12]]; clear h13 h14 h12
 (go_enter Tryz.func164, Tryz.ntmps164; go_wp2; go_ret; exact ⟨rfl, rfl⟩)
theorem msRight_any {ads : List Addr} (z : SeatM) (hz : z.ok) (w : World) (T : TabC ads w) : Calls Tryz.prog 83 #[.agg (seatV z)] w fun r w' => r = .returned (.bool z.right) ∧ Kp w w' := by
 obtain ⟨p, e, s, h⟩ := z; obtain ⟨ip, ie, is, -⟩ := hz; dsimp only [seatV]; have KB := hD (kA w (.cells #[p, e, s, h] 94)); have HR := hD (mH w (.cells #[p, e, s, h] 94)); obtain ⟨g0, g1, g2, g3⟩ := cells_4 HR.out; have hw := T.waits _ KB.out p e s ip ie is; rw [right_how]; clear ip ie is T; dsimp only
 cases hr : rightT p e with
 | false =>
  obtain ⟨q, hq⟩ := errI_ifaceM ads 14 (by decide); simp only [waitsT, hr, if_true, hq] at hw
  have HW := hD hw; clear hw hr hq; go_enter Tryz.func83, Tryz.ntmps83; go_wp2_with (go_at_call 84; (with_reducible refine HW.out.mono ?_); rintro e' w1 ⟨rfl, hk⟩; have K1 := hD (kT KB.out hk); have R1 := rZ hk HR.out; obtain ⟨q0, q1, q2, q3⟩ := cells_4 R1; clear hk)
  go_ret; exact ⟨rfl, K1.out⟩
 | true =>
  cases hs : hasT p e s with
  | false =>
   obtain ⟨q, hq⟩ := errI_ifaceM ads 1 (by decide); simp only [waitsT, hr, hs, if_true, if_false, Bool.true_eq_false, hq] at hw
   have HW := hD hw; clear hw hr hs hq; go_enter Tryz.func83, Tryz.ntmps83; go_wp2_with (go_at_call 84; (with_reducible refine HW.out.mono ?_); rintro e' w1 ⟨rfl, hk⟩; have K1 := hD (kT KB.out hk); have R1 := rZ hk HR.out; obtain ⟨q0, q1, q2, q3⟩ := cells_4 R1; clear hk)
   go_ret; exact ⟨rfl, K1.out⟩
  | true =>
   simp only [waitsT, hr, hs, if_false, Bool.true_eq_false, eN] at hw
   have HW := hD hw; have HH := hD (fun w => msHow_any ⟨p, e, s, h⟩ w); dsimp only [seatV] at HH; obtain ⟨b, hb⟩ : ∃ b, howOk ⟨p, e, s, h⟩ = b := ⟨_, rfl⟩
   rw [hb] at HH ⊢; clear hw hr hs hb; go_enter Tryz.func83, Tryz.ntmps83; go_wp2_with (first | (go_at_call 84; (with_reducible refine HW.out.mono ?_); rintro e' w1 ⟨rfl, hk⟩; have K1 := hD (kT KB.out hk); have R1 := rZ hk HR.out; obtain ⟨q0, q1, q2, q3⟩ := cells_4 R1; clear hk) | (go_at_call 137; (with_reducible refine (HH.out _).mono ?_); rintro e' w2 ⟨rfl, hk⟩; have K2 := hD (kT K1.out hk); clear hk))
   go_ret; exact ⟨by simp, K2.out⟩
theorem msWork_any {ads : List Addr} (z : SeatM) (hz : z.ok) (w : World) (T : TabC ads w) : Calls Tryz.prog 165 #[.agg (seatV z)] w fun r w' => r = .returned (.int .i64 (if z.right = true then z.work else 0)) ∧ Kp w w' := by
 have hw := msRight_any (ads := ads) z hz; obtain ⟨p, e, s, h⟩ := z; dsimp only [seatV] at hw ⊢; have KB := hD (kA w (.cells #[p, e, s, h] 94)); have HR := hD (mH w (.cells #[p, e, s, h] 94)); obtain ⟨g0, g1, g2, g3⟩ := cells_4 HR.out
 replace hw := hw (w.alloc (.cells #[p, e, s, h] 94)) (T.kp KB.out)
 by_cases he : e = 2
 ·subst he
  cases hr : SeatM.right ⟨p, 2, s, h⟩ with
  | false =>
   rw [hr] at hw; have HW := hD hw; clear hw hr T hz
   (go_enter Tryz.func165, Tryz.ntmps165; go_wp2_with (go_at_call 83; (with_reducible refine HW.out.mono ?_); rintro e' w1 ⟨rfl, hk⟩; have K1 := hD (kT KB.out hk); have R1 := rZ hk HR.out; obtain ⟨q0, q1, q2, q3⟩ := cells_4 R1; clear hk); go_ret; exact ⟨rfl, K1.out⟩)
  | true =>
   rw [hr] at hw; have HW := hD hw; clear hw hr T hz; rw [if_pos rfl]
   by_cases h4 : s = 4
   ·subst h4; (go_enter Tryz.func165, Tryz.ntmps165; go_wp2_with (go_at_call 83; (with_reducible refine HW.out.mono ?_); rintro e' w1 ⟨rfl, hk⟩; have K1 := hD (kT KB.out hk); have R1 := rZ hk HR.out; obtain ⟨q0, q1, q2, q3⟩ := cells_4 R1; clear hk); go_ret; exact ⟨rfl, K1.out⟩)
   by_cases h6 : s = 6
   ·subst h6; (go_enter Tryz.func165, Tryz.ntmps165; go_wp2_with (go_at_call 83; (with_reducible refine HW.out.mono ?_); rintro e' w1 ⟨rfl, hk⟩; have K1 := hD (kT KB.out hk); have R1 := rZ hk HR.out; obtain ⟨q0, q1, q2, q3⟩ := cells_4 R1; clear hk); go_ret; exact ⟨rfl, K1.out⟩)
   by_cases h2 : s = 2
   ·subst h2; (go_enter Tryz.func165, Tryz.ntmps165; go_wp2_with (go_at_call 83; (with_reducible refine HW.out.mono ?_); rintro e' w1 ⟨rfl, hk⟩; have K1 := hD (kT KB.out hk); have R1 := rZ hk HR.out; obtain ⟨q0, q1, q2, q3⟩ := cells_4 R1; clear hk); go_ret; exact ⟨rfl, K1.out⟩)
   by_cases h7 : s = 7
   ·subst h7; (go_enter Tryz.func165, Tryz.ntmps165; go_wp2_with (go_at_call 83; (with_reducible refine HW.out.mono ?_); rintro e' w1 ⟨rfl, hk⟩; have K1 := hD (kT KB.out hk); have R1 := rZ hk HR.out; obtain ⟨q0, q1, q2, q3⟩ := cells_4 R1; clear hk); go_ret; exact ⟨rfl, K1.out⟩)
   have b4 : (s == 4) = false := by simpa using h4
   have b6 : (s == 6) = false := by simpa using h6
   have b2 : (s == 2) = false := by simpa using h2
   have b7 : (s == 7) = false := by simpa using h7
   rw [show SeatM.work ⟨p, 2, s, h⟩ = 0 by simp [SeatM.work, h4, h6, h2, h7]]; clear h4 h6 h2 h7
   (go_enter Tryz.func165, Tryz.ntmps165; go_wp2_with (go_at_call 83; (with_reducible refine HW.out.mono ?_); rintro e' w1 ⟨rfl, hk⟩; have K1 := hD (kT KB.out hk); have R1 := rZ hk HR.out; obtain ⟨q0, q1, q2, q3⟩ := cells_4 R1; clear hk); go_ret; exact ⟨rfl, K1.out⟩)
 ·rw [show (if SeatM.right ⟨p, e, s, h⟩ = true then SeatM.work ⟨p, e, s, h⟩ else 0) = 0 by rw [show SeatM.work ⟨p, e, s, h⟩ = 0 by simp [SeatM.work, he]]; exact ite_self _]; have be : (e == 2) = false := by simpa using he
  have bn : (!(e == 2)) = true := by simp [be]
  have bm : (e != 2) = true := by simp [bne, be]
  clear hw hz T; go_enter Tryz.func165, Tryz.ntmps165; go_wp2; go_ret; exact ⟨rfl, KB.out⟩
theorem msWaits_any {ads : List Addr} (z : SeatM) (hz : z.ok) (w : World) (T : TabC ads w) : Calls Tryz.prog 32 #[.agg (seatV z)] w fun r w' => r = .returned (.int .i64 (if z.right = true then z.waits else 0)) ∧ Kp w w' := by
 have hw := msRight_any (ads := ads) z hz; obtain ⟨p, e, s, h⟩ := z; dsimp only [seatV] at hw ⊢; have ht := fun w1 hk => T.waits w1 hk p e s hz.1 hz.2.1 hz.2.2.1
 have KB := hD (kA w (.cells #[p, e, s, h] 94)); have HR := hD (mH w (.cells #[p, e, s, h] 94)); obtain ⟨g0, g1, g2, g3⟩ := cells_4 HR.out
 replace hw := hw (w.alloc (.cells #[p, e, s, h] 94)) (T.kp KB.out)
 cases hr : SeatM.right ⟨p, e, s, h⟩ with
 | false =>
  rw [hr] at hw; have HW := hD hw; clear hw hr T hz ht
  (go_enter Tryz.func32, Tryz.ntmps32; go_wp2_with (go_at_call 83; (with_reducible refine HW.out.mono ?_); rintro e' w1 ⟨rfl, hk⟩; have K1 := hD (kT KB.out hk); have R1 := rZ hk HR.out; obtain ⟨q0, q1, q2, q3⟩ := cells_4 R1; clear hk); go_ret; exact ⟨rfl, K1.out⟩)
 | true =>
  rw [hr] at hw; have HW := hD hw; have hr2 := hr; rw [right_how] at hr2; simp only [Bool.and_eq_true] at hr2
  simp only [waitsT, hr2.1.1, hr2.1.2, if_false, Bool.true_eq_false, eN] at ht
  have HT := hD ht; rw [if_pos rfl, show SeatM.waits ⟨p, e, s, h⟩ = waitT e s from rfl]; obtain ⟨k, hk⟩ : ∃ k, waitT e s = k := ⟨_, rfl⟩
  rw [hk] at HT ⊢; clear hw hr hr2 T hz ht hk; go_enter Tryz.func32, Tryz.ntmps32; go_wp2_with (first | (go_at_call 83; (with_reducible refine HW.out.mono ?_); rintro e' w1 ⟨rfl, hk⟩; have K1 := hD (kT KB.out hk); have R1 := rZ hk HR.out; obtain ⟨q0, q1, q2, q3⟩ := cells_4 R1; clear hk) | (go_at_call 84; (with_reducible refine (HT.out _ K1.out).mono ?_); rintro e' w2 ⟨rfl, hk⟩; have K2 := hD (kT K1.out hk); clear hk))
  go_ret; exact ⟨rfl, K2.out⟩
theorem goes_14 {ads : List Addr} (p e s h _st k send hc : Int) (hz : SeatM.ok ⟨p, e, 14, hc⟩) (hhc : howC k = hc) (w : World) (T : TabC ads w) : Calls Tryz.prog 119 #[.agg #[p, e, s, h], .int .i64 14, .int .i64 k, .int .i64 send] w fun r w' => r = .returned (.agg #[p, e, (14:Int), hc, send, (0:Int), .int .i64 (if SeatM.right ⟨p, e, 14, hc⟩ = true then SeatM.work ⟨p, e, 14, hc⟩ else 0), .bool true]) ∧ Kp w w' := by
 have hw := fun w1 (hk : Kp w w1) => msWork_any ⟨p, e, 14, hc⟩ hz w1 (T.kp hk)
 obtain ⟨wk, hwk⟩ : ∃ x, (if SeatM.right ⟨p, e, 14, hc⟩ = true then SeatM.work ⟨p, e, 14, hc⟩ else 0) = x := ⟨_, rfl⟩
 rw [hwk] at hw ⊢; dsimp only [seatV] at hw; have HW := hD hw; have HC := hD (fun w => hhc ▸ how_any k w); obtain ⟨W1, hW1⟩ : ∃ W1, (((w.alloc (.cells #[p, e, s, h] 94)).alloc (.cells #[(0:Int), (0:Int), (0:Int), (0:Int), (0:Int), (0:Int), (0:Int), .bool false] 143)).alloc (.cells #[p, e, (14:Int), hc] 94)) = W1 := ⟨_, rfl⟩
 have s1 : (w.alloc (.cells #[p, e, s, h] 94)).heap.size = w.heap.size + 1 := by simp
 have s2 : ((w.alloc (.cells #[p, e, s, h] 94)).alloc (.cells #[(0:Int), (0:Int), (0:Int), (0:Int), (0:Int), (0:Int), (0:Int), .bool false] 143)).heap.size = w.heap.size + 2 := by simp
 have r0 := (mH ((w.alloc (.cells #[p, e, s, h] 94)).alloc (.cells #[(0:Int), (0:Int), (0:Int), (0:Int), (0:Int), (0:Int), (0:Int), .bool false] 143)) (.cells #[p, e, (14:Int), (0:Int)] 94))
 have r2 := (mH ((w.alloc (.cells #[p, e, s, h] 94)).alloc (.cells #[(0:Int), (0:Int), (0:Int), (0:Int), (0:Int), (0:Int), (0:Int), .bool false] 143)) (.cells #[p, e, (14:Int), hc] 94))
 rw [s2] at r0 r2; have rz := (mH (w.alloc (.cells #[p, e, s, h] 94)) (.cells #[(0:Int), (0:Int), (0:Int), (0:Int), (0:Int), (0:Int), (0:Int), .bool false] 143))
 rw [s1] at rz; have k2 := kT (kA w (.cells #[p, e, s, h] 94)) (kA (w.alloc (.cells #[p, e, s, h] 94)) (.cells #[(0:Int), (0:Int), (0:Int), (0:Int), (0:Int), (0:Int), (0:Int), .bool false] 143)); have rs := (mH w (.cells #[p, e, s, h] 94))
 obtain ⟨g0, g1, g2, g3⟩ := cells_4 rs; have HX := hD (show W1.heap[w.heap.size + 2]? = some (.cells #[p, e, (14:Int), hc] 94) by rw [← hW1]; exact r2); have HZ := hD (show W1.heap[w.heap.size + 1]? = some (.cells #[(0:Int), (0:Int), (0:Int), (0:Int), (0:Int), (0:Int), (0:Int), .bool false] 143) by rw [← hW1]; exact rZ (kA _ _) rz); have KW := hD (show Kp w W1 by rw [← hW1]; exact kT k2 (kA _ _)); have fr := frozN r0; obtain ⟨x0, x1, x2, x3⟩ := cells_4 r0; have hs1 : W1.heap.size = w.heap.size + 1 + 1 + 1 := by rw [← hW1]; simp
 replace hW1 := hD hW1
 clear hwk hw hz T rz r0 r2 k2 rs s1 s2 hhc; go_enter Tryz.func119, Tryz.ntmps119; go_wp2_with (first | (go_at_call 164; (with_reducible refine (HC.out _).mono ?_); rintro e' w' ⟨rfl, rfl⟩) | fail)
 try rw [hW1.out]
 clear hW1; refine rgW (fun w' => Kp w w' ∧ w'.heap[w.heap.size + 2]? = some (.cells #[p, e, (14:Int), hc] 94)) ?_ fun hH => ?_
 ·exact ⟨kp_drewM KW.out, HX.out⟩
 refine tkP 0 ?_ (y := by intro w hZ; obtain ⟨q0, q1, q2, q3⟩ := cells_4 hZ.2; go_simp; try rfl)
 go_simp; refine tkP 1 ?_
 go_simp; refine tkP 2 ?_ (y := by intro w hZ; obtain ⟨q0, q1, q2, q3⟩ := cells_4 hZ.2; go_simp; try rfl)
 go_simp; refine rdW 3 fun K hK => ?_
 go_simp; go_wp2_with (go_at_call 165; (with_reducible refine (HW.out _ (kT KW.out.drew (Kp.refl _))).mono ?_); rintro e' w4 ⟨rfl, hk4⟩; have K4 := hD (kT hH.1 hk4); have R4 := hD (rZ hk4 hH.2); have RZ := rZ hk4 HZ.out; clear hk4)
 refine hK.out _ _ (⟨K4.out, R4.out⟩) fun hH => ?_
 clear hK K; refine tkP 4 ?_
 go_simp; refine rdW 5 fun K hK => ?_
 obtain ⟨z0, z1, z2, z3, z4, z5, z6, z7⟩ := c8X RZ; have fz := frozN RZ; go_simp; refine hK.out _ _ (⟨set_8_kp K4.out (Nat.le_succ _) _ _ _ _ _ _ _ _, set_8_ne _ _ _ _ _ _ _ _ R4.out (by omega)⟩) fun hH => ?_
 clear hK K; refine dnW ?_ _
 go_wp2; refine bodyPost_ret (results_cell_row (p := 8) rfl _ _ (w.heap.size + 1) 143 _ (0, 0) _ rfl (set_8 (.int .i64 p) (.int .i64 e) (.int .i64 14) (.int .i64 hc) (.int .i64 send) (.int .i64 0) (.int .i64 wk) (.bool true) RZ) Tryz.underlying143 rfl (by kernel_rfl)) rfl ?_
 exact ⟨rfl, set_8_kp K4.out (Nat.le_succ _) _ _ _ _ _ _ _ _⟩
theorem goes_no {ads : List Addr} (p e s h st k send hc : Int) (hz : SeatM.ok ⟨p, e, st, 0⟩) (hhc : howC k = hc) (b14 : (st == 14) = false) (w : World) (T : TabC ads w) : Calls Tryz.prog 119 #[.agg #[p, e, s, h], .int .i64 st, .int .i64 k, .int .i64 send] w fun r w' => r = .returned (.agg #[p, e, st, (0:Int), send, (0:Int), .int .i64 (if SeatM.right ⟨p, e, st, 0⟩ = true then SeatM.work ⟨p, e, st, 0⟩ else 0), .bool true]) ∧ Kp w w' := by
 have hw := fun w1 (hk : Kp w w1) => msWork_any ⟨p, e, st, 0⟩ hz w1 (T.kp hk)
 obtain ⟨wk, hwk⟩ : ∃ x, (if SeatM.right ⟨p, e, st, 0⟩ = true then SeatM.work ⟨p, e, st, 0⟩ else 0) = x := ⟨_, rfl⟩
 rw [hwk] at hw ⊢; dsimp only [seatV] at hw; have HW := hD hw; have HC := hD (fun w => hhc ▸ how_any k w); obtain ⟨W1, hW1⟩ : ∃ W1, (((w.alloc (.cells #[p, e, s, h] 94)).alloc (.cells #[(0:Int), (0:Int), (0:Int), (0:Int), (0:Int), (0:Int), (0:Int), .bool false] 143)).alloc (.cells #[p, e, st, (0:Int)] 94)) = W1 := ⟨_, rfl⟩
 have s1 : (w.alloc (.cells #[p, e, s, h] 94)).heap.size = w.heap.size + 1 := by simp
 have s2 : ((w.alloc (.cells #[p, e, s, h] 94)).alloc (.cells #[(0:Int), (0:Int), (0:Int), (0:Int), (0:Int), (0:Int), (0:Int), .bool false] 143)).heap.size = w.heap.size + 2 := by simp
 have r0 := (mH ((w.alloc (.cells #[p, e, s, h] 94)).alloc (.cells #[(0:Int), (0:Int), (0:Int), (0:Int), (0:Int), (0:Int), (0:Int), .bool false] 143)) (.cells #[p, e, st, (0:Int)] 94))
 have r2 := (mH ((w.alloc (.cells #[p, e, s, h] 94)).alloc (.cells #[(0:Int), (0:Int), (0:Int), (0:Int), (0:Int), (0:Int), (0:Int), .bool false] 143)) (.cells #[p, e, st, (0:Int)] 94))
 rw [s2] at r0 r2; have rz := (mH (w.alloc (.cells #[p, e, s, h] 94)) (.cells #[(0:Int), (0:Int), (0:Int), (0:Int), (0:Int), (0:Int), (0:Int), .bool false] 143))
 rw [s1] at rz; have k2 := kT (kA w (.cells #[p, e, s, h] 94)) (kA (w.alloc (.cells #[p, e, s, h] 94)) (.cells #[(0:Int), (0:Int), (0:Int), (0:Int), (0:Int), (0:Int), (0:Int), .bool false] 143)); have rs := (mH w (.cells #[p, e, s, h] 94))
 obtain ⟨g0, g1, g2, g3⟩ := cells_4 rs; have HX := hD (show W1.heap[w.heap.size + 2]? = some (.cells #[p, e, st, (0:Int)] 94) by rw [← hW1]; exact r2); have HZ := hD (show W1.heap[w.heap.size + 1]? = some (.cells #[(0:Int), (0:Int), (0:Int), (0:Int), (0:Int), (0:Int), (0:Int), .bool false] 143) by rw [← hW1]; exact rZ (kA _ _) rz); have KW := hD (show Kp w W1 by rw [← hW1]; exact kT k2 (kA _ _)); have fr := frozN r0; obtain ⟨x0, x1, x2, x3⟩ := cells_4 r0; have hs1 : W1.heap.size = w.heap.size + 1 + 1 + 1 := by rw [← hW1]; simp
 replace hW1 := hD hW1
 clear hwk hw hz T rz r0 r2 k2 rs s1 s2 hhc; go_enter Tryz.func119, Tryz.ntmps119; go_wp2_with (first | (go_at_call 164; (with_reducible refine (HC.out _).mono ?_); rintro e' w' ⟨rfl, rfl⟩) | fail)
 try rw [hW1.out]
 clear hW1; refine rgW (fun w' => Kp w w' ∧ w'.heap[w.heap.size + 2]? = some (.cells #[p, e, st, (0:Int)] 94)) ?_ fun hH => ?_
 ·exact ⟨kp_drewM KW.out, HX.out⟩
 refine tkP 0 ?_ (y := by intro w hZ; obtain ⟨q0, q1, q2, q3⟩ := cells_4 hZ.2; go_simp; try rfl)
 go_simp; refine tkP 1 ?_
 go_simp; refine tkP 2 ?_ (y := by intro w hZ; obtain ⟨q0, q1, q2, q3⟩ := cells_4 hZ.2; go_simp; try rfl)
 go_simp; refine rdW 3 fun K hK => ?_
 go_simp; go_wp2_with (go_at_call 165; (with_reducible refine (HW.out _ (kT KW.out.drew (Kp.refl _))).mono ?_); rintro e' w4 ⟨rfl, hk4⟩; have K4 := hD (kT hH.1 hk4); have R4 := hD (rZ hk4 hH.2); have RZ := rZ hk4 HZ.out; clear hk4)
 refine hK.out _ _ (⟨K4.out, R4.out⟩) fun hH => ?_
 clear hK K; refine tkP 4 ?_
 go_simp; refine rdW 5 fun K hK => ?_
 obtain ⟨z0, z1, z2, z3, z4, z5, z6, z7⟩ := c8X RZ; have fz := frozN RZ; go_simp; refine hK.out _ _ (⟨set_8_kp K4.out (Nat.le_succ _) _ _ _ _ _ _ _ _, set_8_ne _ _ _ _ _ _ _ _ R4.out (by omega)⟩) fun hH => ?_
 clear hK K; refine dnW ?_ _
 go_wp2; refine bodyPost_ret (results_cell_row (p := 8) rfl _ _ (w.heap.size + 1) 143 _ (0, 0) _ rfl (set_8 (.int .i64 p) (.int .i64 e) (.int .i64 st) (.int .i64 0) (.int .i64 send) (.int .i64 0) (.int .i64 wk) (.bool true) RZ) Tryz.underlying143 rfl (by kernel_rfl)) rfl ?_
 exact ⟨rfl, set_8_kp K4.out (Nat.le_succ _) _ _ _ _ _ _ _ _⟩
theorem goes_any {ads : List Addr} (z : SeatM) (hz : z.ok) (st k send : Int) (hst : i64M st) (hk : i64M k) (w : World) (T : TabC ads w) : Calls Tryz.prog 119 #[.agg (seatV z), .int .i64 st, .int .i64 k, .int .i64 send] w fun r w' => r = .returned (.agg (effV (z.goes st k send))) ∧ Kp w w' := by
 have hc : i64M (howC k) := by
  unfold howC
  repeat' split
  all_goals first | decide | exact hk
 by_cases h14 : st = 14
 ·subst h14; have := goes_14 z.p z.e z.s z.h 14 k send (howC k) ⟨hz.1, hz.2.1, (by decide : i64M 14), hc⟩ rfl w T
  simpa [SeatM.goes, effV, seatV] using this
 ·have := goes_no z.p z.e z.s z.h st k send (howC k) ⟨hz.1, hz.2.1, hst, (by decide : i64M 0)⟩ rfl (by simpa using h14) w T
  simpa [SeatM.goes, effV, seatV, h14] using this
end Go.Proofs.YtlmlmhmhgdjhnaaGreatDoor
