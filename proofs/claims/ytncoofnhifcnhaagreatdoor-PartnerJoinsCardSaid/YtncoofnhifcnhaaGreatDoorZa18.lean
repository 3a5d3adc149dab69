/- Parts of this proof (own work). -/
import Derived.Test.YtncoofnhifcnhaaGreatDoorZa17
import Derived.ChangeKeysEq
import Derived.Test.YtncoofnhifcnhaaGreatDoorZa11
set_option maxRecDepth 100000
set_option maxHeartbeats 40000000
namespace Go.Proofs.YtncoofnhifcnhaaGreatDoor
open Go.RowKit Go.ChangeShapes Go.WideShapes
variable {w0 w w' W w3 : World} {B q : Nat} {m : StM} {gs : List AcG} {va vp : Value}
theorem c7X {b : Nat} {t : TypeId} {w : World} {x0 x1 x2 x3 x4 x5 x6 : Value} (h : w.heap[b]? = some (.cells #[x0, x1, x2, x3, x4, x5, x6] t (0, 0))) : w.cell? ⟨b, 0, none⟩ = some x0 ∧ w.cell? ⟨b, 1, none⟩ = some x1 ∧ w.cell? ⟨b, 2, none⟩ = some x2 ∧ w.cell? ⟨b, 3, none⟩ = some x3 ∧ w.cell? ⟨b, 4, none⟩ = some x4 ∧ w.cell? ⟨b, 5, none⟩ = some x5 ∧ w.cell? ⟨b, 6, none⟩ = some x6 := by
 refine ⟨?_, ?_, ?_, ?_, ?_, ?_, ?_⟩ <;> (unfold World.cell?; dsimp only; rw [h]; rfl)
theorem set_7 {b : Nat} {t : TypeId} {w : World} {x0 x1 x2 x3 x4 x5 x6 : Value} (y0 y1 y2 y3 y4 y5 y6 : Value) (h : w.heap[b]? = some (.cells #[x0, x1, x2, x3, x4, x5, x6] t (0, 0))) : (((((((w.setCell ⟨b, 0, none⟩ y0).setCell ⟨b, 1, none⟩ y1).setCell ⟨b, 2, none⟩ y2).setCell ⟨b, 3, none⟩ y3).setCell ⟨b, 4, none⟩ y4).setCell ⟨b, 5, none⟩ y5).setCell ⟨b, 6, none⟩ y6).heap[b]? = some (.cells #[y0, y1, y2, y3, y4, y5, y6] t (0, 0)) := by
 have h0 : (w.setCell ⟨b, 0, none⟩ y0).heap[b]? = some (.cells #[y0, x1, x2, x3, x4, x5, x6] t (0, 0)) := (Joins.block_setCell h _).trans rfl; have h1 : ((w.setCell ⟨b, 0, none⟩ y0).setCell ⟨b, 1, none⟩ y1).heap[b]? = some (.cells #[y0, y1, x2, x3, x4, x5, x6] t (0, 0)) := (Joins.block_setCell h0 _).trans rfl; have h2 : (((w.setCell ⟨b, 0, none⟩ y0).setCell ⟨b, 1, none⟩ y1).setCell ⟨b, 2, none⟩ y2).heap[b]? = some (.cells #[y0, y1, y2, x3, x4, x5, x6] t (0, 0)) := (Joins.block_setCell h1 _).trans rfl; have h3 : ((((w.setCell ⟨b, 0, none⟩ y0).setCell ⟨b, 1, none⟩ y1).setCell ⟨b, 2, none⟩ y2).setCell ⟨b, 3, none⟩ y3).heap[b]? = some (.cells #[y0, y1, y2, y3, x4, x5, x6] t (0, 0)) := (Joins.block_setCell h2 _).trans rfl; have h4 : (((((w.setCell ⟨b, 0, none⟩ y0).setCell ⟨b, 1, none⟩ y1).setCell ⟨b, 2, none⟩ y2).setCell ⟨b, 3, none⟩ y3).setCell ⟨b, 4, none⟩ y4).heap[b]? = some (.cells #[y0, y1, y2, y3, y4, x5, x6] t (0, 0)) := (Joins.block_setCell h3 _).trans rfl
 have h5 : ((((((w.setCell ⟨b, 0, none⟩ y0).setCell ⟨b, 1, none⟩ y1).setCell ⟨b, 2, none⟩ y2).setCell ⟨b, 3, none⟩ y3).setCell ⟨b, 4, none⟩ y4).setCell ⟨b, 5, none⟩ y5).heap[b]? = some (.cells #[y0, y1, y2, y3, y4, y5, x6] t (0, 0)) := (Joins.block_setCell h4 _).trans rfl; have h6 : (((((((w.setCell ⟨b, 0, none⟩ y0).setCell ⟨b, 1, none⟩ y1).setCell ⟨b, 2, none⟩ y2).setCell ⟨b, 3, none⟩ y3).setCell ⟨b, 4, none⟩ y4).setCell ⟨b, 5, none⟩ y5).setCell ⟨b, 6, none⟩ y6).heap[b]? = some (.cells #[y0, y1, y2, y3, y4, y5, y6] t (0, 0)) := (Joins.block_setCell h5 _).trans rfl; exact h6
theorem set_7_kp {b : Nat} {w0 w : World} (hk : Kp w0 w) (hb : w0.heap.size ≤ b) (y0 y1 y2 y3 y4 y5 y6 : Value) : Kp w0 (((((((w.setCell ⟨b, 0, none⟩ y0).setCell ⟨b, 1, none⟩ y1).setCell ⟨b, 2, none⟩ y2).setCell ⟨b, 3, none⟩ y3).setCell ⟨b, 4, none⟩ y4).setCell ⟨b, 5, none⟩ y5).setCell ⟨b, 6, none⟩ y6) := by
 refine Below.setCell ?_ hb _
 refine Below.setCell ?_ hb _
 refine Below.setCell ?_ hb _
 refine Below.setCell ?_ hb _
 refine Below.setCell ?_ hb _
 refine Below.setCell ?_ hb _
 refine Below.setCell ?_ hb _
 exact hk
def paV (x : PaM) : Array Value := #[.int .i64 x.n, .int .i64 x.s, .int .i64 x.reg, .int .i64 x.z.p, .int .i64 x.z.e, .int .i64 x.z.s, .int .i64 x.z.h]
def zeroP : PaM := ⟨0, 0, 0, ⟨0, 0, 0, 0⟩⟩
def partQ (m : StM) (i : Int) : Option PaM := if 0 ≤ i then m.parts[i.toNat]? else none
theorem child_eq (hp : ∀ a ∈ m.acts, 0 ≤ a.par) (p : Int) : m.acts.findIdx? (fun a => decide (a.par ≠ 0 ∧ a.par - 1 = p)) = childS m.acts p := by
 unfold childS
 by_cases h : p < 0
 ·rw [if_pos h, List.findIdx?_eq_none_iff]; intro x hx; have := hp x hx; simp only [decide_eq_false_iff_not]
  omega
 ·rw [if_neg h]
  congr 1
  funext a
  have : (a.par ≠ 0 ∧ a.par - 1 = p) ↔ a.par = p + 1 := by omega
  simp [this]
theorem stChild (H : GS tyL B q m gs va vp w) (h8 : gs.length ≤ 8) (h6 : ∀ a ∈ m.acts, a.regs.length ≤ 6) (p : Int) (hp : ∀ a ∈ m.acts, 0 ≤ a.par ∧ a.par ≤ 8) : Calls Tryz.prog 178 #[.pointer (some ⟨q, 0, none⟩), .int .i64 p] w fun r w' => ∃ v, r = .returned (.tuple #[.agg v, .bool (childS m.acts p).isSome]) ∧ OutA m (childS m.acts p) v w.heap.size w' ∧ Kp w w' := by
 have k1 : Kp w ((w.alloc (.cells #[p] 3)).alloc (.cells #[(0:Int), (0:Int), (0:Int), (0:Int), .float .f64 0, (0:Int), (0:Int), .slice none 0 0] 209)) := kT (kA _ _) (kA _ _); have r1 := nX0 w (.cells #[p] 3) (.cells #[(0:Int), (0:Int), (0:Int), (0:Int), .float .f64 0, (0:Int), (0:Int), .slice none 0 0] 209); have r2 := nX1 w (.cells #[p] 3) (.cells #[(0:Int), (0:Int), (0:Int), (0:Int), .float .f64 0, (0:Int), (0:Int), .slice none 0 0] 209); obtain ⟨W, hW⟩ : ∃ W, ((w.alloc (.cells #[p] 3)).alloc (.cells #[(0:Int), (0:Int), (0:Int), (0:Int), .float .f64 0, (0:Int), (0:Int), .slice none 0 0] 209)) = W := ⟨_, rfl⟩
 rw [hW] at k1 r1 r2; have h6' : ∀ g ∈ gs, g.a.regs.length ≤ 6 := fun g hg => h6 _ (by rw [H.acts]; exact List.mem_map_of_mem hg)
 have hfi := firstChild (H.kp k1) h8 h6' w.heap.size p (fun g hg => hp _ (by rw [H.acts]; exact List.mem_map_of_mem hg)) r1; rw [child_eq (fun a ha => (hp a ha).1)] at hfi; obtain ⟨PL, hPL⟩ : ∃ x, childS m.acts p = x := ⟨_, rfl⟩
 rw [hPL] at hfi ⊢; obtain ⟨tb, htb⟩ : ∃ b, PL.isSome = b := ⟨_, rfl⟩
 rw [htb] at hfi ⊢; obtain ⟨HFI, K1, R2⟩ := hD3 hfi k1 r2; have hsf := sF; clear H h8 h6 h6' hp hfi k1 r1 r2 hPL htb; go_enter Tryz.func178, Tryz.ntmps178; go_wp2_with (go_at_call 188; (with_reducible refine HFI.out.mono ?_); rintro e' w3 ⟨v, rfl, hO, hk⟩; obtain ⟨xn, xs, xo, xd, xx, xp, xc, av, nv, cv, rfl⟩ := hO.form; have r3 := rZ hk R2.out; obtain ⟨u0, u1, u2, u3, u4, u5, u6, u7⟩ := c8X r3; have fz3 := fQ r3; have K3 := hD (kT K1.out hk); obtain ⟨R3, O3⟩ := hD2 r3 hO; clear hk r3 hO)
 refine bodyPost_ret (rQ (p := 4) (u := 5) rfl _ _ (w.heap.size + 1) 209 _ (0, 0) _ rfl (set_8 (.int .i64 xn) (.int .i64 xs) (.int .i64 xo) (.int .i64 xd) (.float .f64 xx) (.int .i64 xp) (.int .i64 xc) (.slice av nv cv) R3.out) Tryz.underlying209 rfl (by kernel_rfl)) rfl ?_
 refine ⟨_, rfl, ?_, set_8_kp K3.out (by omega) _ _ _ _ _ _ _ _⟩
 obtain ⟨a, oo, cc, h1, h2, h3⟩ := O3.out; refine ⟨a, oo, cc, h1, h2, bG (sG h3 (fun b e => ?_)) (kS K1.out)⟩
 have hb := (h3.lt b e).1; have hs := oZ R2.out; rw [bS _ _ _ _ (by dsimp only; omega), bS _ _ _ _ (by dsimp only; omega), bS _ _ _ _ (by dsimp only; omega), bS _ _ _ _ (by dsimp only; omega), bS _ _ _ _ (by dsimp only; omega), bS _ _ _ _ (by dsimp only; omega), bS _ _ _ _ (by dsimp only; omega), bS _ _ _ _ (by dsimp only; omega)]
theorem stPart (H : GS tyL B q m gs va vp w) (i : Int) : Calls Tryz.prog 77 #[.pointer (some ⟨q, 0, none⟩), .int .i64 i] w fun r w' => ∃ x, r = .returned (.tuple #[.agg (paV x), .bool (partQ m i).isSome]) ∧ (match partQ m i with | none => x = zeroP | some y => x = y) ∧ Kp w w' := by
 obtain ⟨b0, d0, evp⟩ := H.pForm; subst evp; obtain ⟨np, hnp⟩ : ∃ x, m.parts.length = x := ⟨_, rfl⟩
 have e0 : w.cell? ⟨q, 3, none⟩ = some (.slice b0 np d0) := by rw [← hnp]; exact cU (i := 3) H.row rfl
 have kz := kA w (.cells #[(0:Int), (0:Int), (0:Int), (0:Int), (0:Int), (0:Int), (0:Int)] 71); have rz := (mH w (.cells #[(0:Int), (0:Int), (0:Int), (0:Int), (0:Int), (0:Int), (0:Int)] 71))
 obtain ⟨W, hW⟩ : ∃ W, w.alloc (.cells #[(0:Int), (0:Int), (0:Int), (0:Int), (0:Int), (0:Int), (0:Int)] 71) = W := ⟨_, rfl⟩
 rw [hW] at kz rz; have e0 := kZ kz e0; obtain ⟨u0, u1, u2, u3, u4, u5, u6⟩ := c7X rz; have fz := fQ rz; obtain ⟨N, hN⟩ : ∃ N : Int, (np : Int) = N := ⟨_, rfl⟩
 obtain ⟨KZ, RZ⟩ := hD2 kz rz
 by_cases h1 : i < 0
 ·rw [show partQ m i = none by unfold partQ; rw [if_neg (by omega)]]; have g1 : decide (i < 0) = true := dT h1; clear H hnp kz rz h1 hN; go_enter Tryz.func77, Tryz.ntmps77; go_wp2; refine bodyPost_ret (rQ (p := 4) (u := 5) rfl _ _ w.heap.size 71 _ (0, 0) _ rfl (set_7 (.int .i64 0) (.int .i64 0) (.int .i64 0) (.int .i64 0) (.int .i64 0) (.int .i64 0) (.int .i64 0) RZ.out) Tryz.underlying71 rfl (by kernel_rfl)) rfl ?_
  exact ⟨zeroP, rfl, rfl, set_7_kp KZ.out (Nat.le_refl _) _ _ _ _ _ _ _⟩
 ·have g1 : decide (i < 0) = false := dF h1
  by_cases h2 : i ≥ N
  ·rw [show partQ m i = none by unfold partQ; rw [if_pos (by omega), List.getElem?_eq_none (by omega)]]; have g2 : decide (i ≥ N) = true := dT h2; clear H hnp kz rz h1 h2; go_enter Tryz.func77, Tryz.ntmps77; go_wp2; refine bodyPost_ret (rQ (p := 4) (u := 5) rfl _ _ w.heap.size 71 _ (0, 0) _ rfl (set_7 (.int .i64 0) (.int .i64 0) (.int .i64 0) (.int .i64 0) (.int .i64 0) (.int .i64 0) (.int .i64 0) RZ.out) Tryz.underlying71 rfl (by kernel_rfl)) rfl ?_
   exact ⟨zeroP, rfl, rfl, set_7_kp KZ.out (Nat.le_refl _) _ _ _ _ _ _ _⟩
  ·have g2 : decide (i ≥ N) = false := dF h2; have hj : i.toNat < m.parts.length := by omega
   obtain ⟨gp, ck, evp2, hck, hgpB, hgpl, hfzp, hcp⟩ := cQ (E := paE) H.op rfl hj; obtain ⟨⟨yn, ys, yr, ⟨y1, y2, y3, y4⟩⟩, hx⟩ : ∃ x, m.parts[i.toNat]'hj = x := ⟨_, rfl⟩
   have hcp2 : ∀ (j : Nat) (u : Value), j < paE.k → (paE.enc (m.parts[i.toNat]'hj))[j]? = some u → w.cell? ⟨gp, i.toNat * paE.k + j, none⟩ = some u := hcp; rw [hx, show paE.k = 7 from rfl] at hcp2; have evp2 := congrArg (fun v => match v with | Value.slice a _ _ => a | _ => none) evp2; dsimp only at evp2; subst evp2; have x0 := kZ kz (show w.cell? ⟨gp, i.toNat * 7, none⟩ = some (.int .i64 yn) from hcp2 0 _ (by decide) rfl); have x1 := kZ kz (show w.cell? ⟨gp, i.toNat * 7 + 1, none⟩ = some (.int .i64 ys) from hcp2 1 _ (by decide) rfl); have x2 := kZ kz (show w.cell? ⟨gp, i.toNat * 7 + 2, none⟩ = some (.int .i64 yr) from hcp2 2 _ (by decide) rfl); have x3 := kZ kz (show w.cell? ⟨gp, i.toNat * 7 + 3, none⟩ = some (.int .i64 y1) from hcp2 3 _ (by decide) rfl); have x4 := kZ kz (show w.cell? ⟨gp, i.toNat * 7 + 4, none⟩ = some (.int .i64 y2) from hcp2 4 _ (by decide) rfl); have x5 := kZ kz (show w.cell? ⟨gp, i.toNat * 7 + 5, none⟩ = some (.int .i64 y3) from hcp2 5 _ (by decide) rfl)
   have x6 := kZ kz (show w.cell? ⟨gp, i.toNat * 7 + 6, none⟩ = some (.int .i64 y4) from hcp2 6 _ (by decide) rfl); rw [show partQ m i = some ⟨yn, ys, yr, ⟨y1, y2, y3, y4⟩⟩ by unfold partQ; rw [if_pos (by omega), List.getElem?_eq_getElem hj, hx]]; have i0 : 0 ≤ i := by omega
   have iN : i < N := by omega
   clear H hnp kz rz h1 h2 hj hck hgpB hgpl hfzp hcp hcp2 hx; go_enter Tryz.func77, Tryz.ntmps77; go_wp2; refine bodyPost_ret (rQ (p := 4) (u := 5) rfl _ _ w.heap.size 71 _ (0, 0) _ rfl (set_7 (.int .i64 yn) (.int .i64 ys) (.int .i64 yr) (.int .i64 y1) (.int .i64 y2) (.int .i64 y3) (.int .i64 y4) RZ.out) Tryz.underlying71 rfl (by kernel_rfl)) rfl ?_
   exact ⟨⟨yn, ys, yr, ⟨y1, y2, y3, y4⟩⟩, rfl, rfl, set_7_kp KZ.out (Nat.le_refl _) _ _ _ _ _ _ _⟩
theorem stParts (H : GS tyL B q m gs va vp w) (p8 : m.parts.length ≤ 8) : Calls Tryz.prog 25 #[.pointer (some ⟨q, 0, none⟩)] w fun r w' => ∃ v, r = .returned v ∧ w'.ownsRow w.heap.size 71 7 v m.parts.length (paE.row m.parts) ∧ Kp w w' := by
 obtain ⟨b0, d0, evp⟩ := H.pForm; subst evp; have HC := hD (cloneP_any _ m.parts (by omega) (qG (E := paE) (by decide) H.op)); obtain ⟨np, hnp⟩ : ∃ x, m.parts.length = x := ⟨_, rfl⟩
 have e0 : w.cell? ⟨q, 3, none⟩ = some (.slice b0 np d0) := by rw [← hnp]; exact cU (i := 3) H.row rfl
 rw [hnp] at HC ⊢; clear H p8 hnp; go_enter Tryz.func25, Tryz.ntmps25; go_wp2_with (go_at_call 69; (with_reducible refine HC.out.mono ?_); rintro e' w2 ⟨v, rfl, ho, hk⟩)
 go_ret; exact ⟨_, rfl, ho, hk⟩
theorem stNode (H : GS tyL B q m gs va vp w) : Calls Tryz.prog 59 #[.pointer (some ⟨q, 0, none⟩)] w fun r w' => r = .returned (.int .i64 m.node) ∧ w = w' := by
 have e0 : w.cell? ⟨q, 0, none⟩ = some (.int .i64 m.node) := cU (i := 0) H.row rfl; obtain ⟨x, hx⟩ : ∃ x, m.node = x := ⟨_, rfl⟩
 rw [hx] at e0 ⊢; clear H hx; go_enter Tryz.func59, Tryz.ntmps59; go_wp2; go_ret; exact ⟨rfl, rfl⟩
theorem arrInt : ∃ i : TypeInfo, Tryz.prog.info? 3 = some i := by
 have h : (Tryz.prog.info? 3).isSome = true := by kernel_rfl
 exact Option.isSome_iff_exists.1 h
theorem a2X {t : TypeId} (hu : Tryz.prog.underlying t = some (.array 2 3)) (a0 a1 b0 b1 : Int) (w : World) : (binOp .eql t (.agg #[a0, a1]) (.agg #[b0, b1])).run Tryz.prog w = .ok (.bool (a0 == b0 && (a1 == b1))) w := by
 obtain ⟨i, hi⟩ := arrInt; have hc : Tryz.prog.cellsOf 3 = 1 := by kernel_rfl
 rw [run_eql_struct, show (10000 : Nat) = 9999 + 1 from rfl, run_equalIn_array w 9999 _ _ hu hi, hc]
 simp [Op.eqItems, part, go_sem, List.range, List.range.loop, Tryz.underlying3]
 by_cases h0 : a0 = b0
 rotate_left
 ·simp [h0]
 subst h0
 by_cases h1 : a1 = b1
 ·simp [h1]
 ·simp [h1]
theorem aX (t : TypeId) (h : Tryz.prog.eqGuardType Tryz.prog.depth t = false) (op : BinOp) (x y : Operand) (xs ys : Array Value) (w : World) : (eqGuard op t x y (.agg xs) (.agg ys)).run Tryz.prog w = .ok () w := run_eqGuard_agg w op t x y _ _ h
theorem letUp_any (k : Int) (w : World) : Calls Tryz.prog 182 #[.int .i64 k] w fun e' w' => e' = .returned (.bool (upT k)) ∧ w = w' := by
 by_cases h1 : k = 1
 ·subst h1; rw [show (upT 1) = true by decide]
  (go_enter Tryz.func182, Tryz.ntmps182; go_wp2; go_ret; exact ⟨by first | rfl | (simp [*]; done), rfl⟩)
 by_cases h3 : k = 3
 ·subst h3; rw [show (upT 3) = true by decide]
  (go_enter Tryz.func182, Tryz.ntmps182; go_wp2; go_ret; exact ⟨by first | rfl | (simp [*]; done), rfl⟩)
 by_cases h4 : k = 4
 ·subst h4; rw [show (upT 4) = true by decide]
  (go_enter Tryz.func182, Tryz.ntmps182; go_wp2; go_ret; exact ⟨by first | rfl | (simp [*]; done), rfl⟩)
 by_cases h5 : k = 5
 ·subst h5; rw [show (upT 5) = true by decide]
  (go_enter Tryz.func182, Tryz.ntmps182; go_wp2; go_ret; exact ⟨by first | rfl | (simp [*]; done), rfl⟩)
 by_cases h6 : k = 6
 ·subst h6; rw [show (upT 6) = true by decide]
  (go_enter Tryz.func182, Tryz.ntmps182; go_wp2; go_ret; exact ⟨by first | rfl | (simp [*]; done), rfl⟩)
 by_cases h7 : k = 7
 ·subst h7; rw [show (upT 7) = true by decide]
  (go_enter Tryz.func182, Tryz.ntmps182; go_wp2; go_ret; exact ⟨by first | rfl | (simp [*]; done), rfl⟩)
 by_cases h8 : k = 8
 ·subst h8; rw [show (upT 8) = true by decide]
  (go_enter Tryz.func182, Tryz.ntmps182; go_wp2; go_ret; exact ⟨by first | rfl | (simp [*]; done), rfl⟩)
 rw [show (upT k) = false from by unfold upT; exact dF (by omega)]; have b1 : (k == 1) = false := by simpa using h1
 have b3 : (k == 3) = false := by simpa using h3
 have b4 : (k == 4) = false := by simpa using h4
 have b5 : (k == 5) = false := by simpa using h5
 have b6 : (k == 6) = false := by simpa using h6
 have b7 : (k == 7) = false := by simpa using h7
 have b8 : (k == 8) = false := by simpa using h8
 clear h1 h3 h4 h5 h6 h7 h8
 (go_enter Tryz.func182, Tryz.ntmps182; go_wp2; go_ret; exact ⟨by first | rfl | (simp [*]; done), rfl⟩)
theorem letDown_any (k : Int) (w : World) : Calls Tryz.prog 35 #[.int .i64 k] w fun e' w' => e' = .returned (.bool (downT 2 k)) ∧ w = w' := by
 by_cases h2 : k = 2
 ·subst h2; rw [show (downT 2 2) = true by decide]
  (go_enter Tryz.func35, Tryz.ntmps35; go_wp2; go_ret; exact ⟨by first | rfl | (simp [*]; done), rfl⟩)
 by_cases h9 : k = 9
 ·subst h9; rw [show (downT 2 9) = true by decide]
  (go_enter Tryz.func35, Tryz.ntmps35; go_wp2; go_ret; exact ⟨by first | rfl | (simp [*]; done), rfl⟩)
 by_cases h10 : k = 10
 ·subst h10; rw [show (downT 2 10) = true by decide]
  (go_enter Tryz.func35, Tryz.ntmps35; go_wp2; go_ret; exact ⟨by first | rfl | (simp [*]; done), rfl⟩)
 by_cases h11 : k = 11
 ·subst h11; rw [show (downT 2 11) = true by decide]
  (go_enter Tryz.func35, Tryz.ntmps35; go_wp2; go_ret; exact ⟨by first | rfl | (simp [*]; done), rfl⟩)
 by_cases h12 : k = 12
 ·subst h12; rw [show (downT 2 12) = true by decide]
  (go_enter Tryz.func35, Tryz.ntmps35; go_wp2; go_ret; exact ⟨by first | rfl | (simp [*]; done), rfl⟩)
 by_cases h13 : k = 13
 ·subst h13; rw [show (downT 2 13) = true by decide]
  (go_enter Tryz.func35, Tryz.ntmps35; go_wp2; go_ret; exact ⟨by first | rfl | (simp [*]; done), rfl⟩)
 by_cases h14 : k = 14
 ·subst h14; rw [show (downT 2 14) = true by decide]
  (go_enter Tryz.func35, Tryz.ntmps35; go_wp2; go_ret; exact ⟨by first | rfl | (simp [*]; done), rfl⟩)
 rw [show (downT 2 k) = false from by unfold downT; exact dF (by omega)]; have b2 : (k == 2) = false := by simpa using h2
 have b9 : (k == 9) = false := by simpa using h9
 have b10 : (k == 10) = false := by simpa using h10
 have b11 : (k == 11) = false := by simpa using h11
 have b12 : (k == 12) = false := by simpa using h12
 have b13 : (k == 13) = false := by simpa using h13
 have b14 : (k == 14) = false := by simpa using h14
 clear h2 h9 h10 h11 h12 h13 h14
 (go_enter Tryz.func35, Tryz.ntmps35; go_wp2; go_ret; exact ⟨by first | rfl | (simp [*]; done), rfl⟩)
theorem known_any (p e : Int) (w : World) : Calls Tryz.prog 128 #[.int .i64 p, .int .i64 e] w fun e' w' => e' = .returned (.bool (rightT p e)) ∧ w = w' := by
 by_cases hp1 : p = 1
 ·subst hp1
  by_cases he1 : e = 1
  ·subst he1; rw [show rightT 1 1 = true by decide]
   (go_enter Tryz.func128, Tryz.ntmps128; go_wp2; go_ret; exact ⟨by first | rfl | (simp [*]; done), rfl⟩)
  by_cases he2 : e = 2
  ·subst he2; rw [show rightT 1 2 = true by decide]
   (go_enter Tryz.func128, Tryz.ntmps128; go_wp2; go_ret; exact ⟨by first | rfl | (simp [*]; done), rfl⟩)
  rw [show rightT 1 e = false from dF (by omega)]; have c1 : (e == 1) = false := by simpa using he1
  have c2 : (e == 2) = false := by simpa using he2
  clear he1 he2
  (go_enter Tryz.func128, Tryz.ntmps128; go_wp2; go_ret; exact ⟨by first | rfl | (simp [*]; done), rfl⟩)
 by_cases hp2 : p = 2
 ·subst hp2
  by_cases he1 : e = 1
  ·subst he1; rw [show rightT 2 1 = true by decide]
   (go_enter Tryz.func128, Tryz.ntmps128; go_wp2; go_ret; exact ⟨by first | rfl | (simp [*]; done), rfl⟩)
  by_cases he2 : e = 2
  ·subst he2; rw [show rightT 2 2 = true by decide]
   (go_enter Tryz.func128, Tryz.ntmps128; go_wp2; go_ret; exact ⟨by first | rfl | (simp [*]; done), rfl⟩)
  rw [show rightT 2 e = false from dF (by omega)]; have c1 : (e == 1) = false := by simpa using he1
  have c2 : (e == 2) = false := by simpa using he2
  clear he1 he2
  (go_enter Tryz.func128, Tryz.ntmps128; go_wp2; go_ret; exact ⟨by first | rfl | (simp [*]; done), rfl⟩)
 rw [show rightT p e = false from dF (by omega)]; have c1 : (p == 1) = false := by simpa using hp1
 have c2 : (p == 2) = false := by simpa using hp2
 clear hp1 hp2
 (go_enter Tryz.func128, Tryz.ntmps128; go_wp2; go_ret; exact ⟨by first | rfl | (simp [*]; done), rfl⟩)
theorem has_any (p e s : Int) (w : World) : Calls Tryz.prog 130 #[.int .i64 p, .int .i64 e, .int .i64 s] w fun e' w' => e' = .returned (.bool (hasT p e s)) ∧ w = w' := by
 by_cases h4 : s = 4
 ·subst h4; rw [show hasT p e 4 = (p == 2) by simp [hasT]; rw [Bool.eq_iff_iff]; simp]
  (go_enter Tryz.func130, Tryz.ntmps130; go_wp2; go_ret; exact ⟨by first | rfl | (simp [*]; done), rfl⟩)
 by_cases h10 : s = 10
 ·subst h10; rw [show hasT p e 10 = (p == 2) by simp [hasT]; rw [Bool.eq_iff_iff]; simp]
  (go_enter Tryz.func130, Tryz.ntmps130; go_wp2; go_ret; exact ⟨by first | rfl | (simp [*]; done), rfl⟩)
 have b4 : (s == 4) = false := by simpa using h4
 have b10 : (s == 10) = false := by simpa using h10
 by_cases h3 : s = 3
 ·subst h3
  by_cases hp : p = 2
  ·subst hp; rw [show hasT 2 e 3 = (e == 1) by simp [hasT]; rw [Bool.eq_iff_iff]; simp]
   (go_enter Tryz.func130, Tryz.ntmps130; go_wp2; go_ret; exact ⟨by first | rfl | (simp [*]; done), rfl⟩)
  ·rw [show hasT p e 3 = false by simp [hasT, hp]]; have bp : (p == 2) = false := by simpa using hp
   (go_enter Tryz.func130, Tryz.ntmps130; go_wp2; go_ret; exact ⟨by first | rfl | (simp [*]; done), rfl⟩)
 have b3 : (s == 3) = false := by simpa using h3
 by_cases h1 : 1 ≤ s
 ·by_cases h2 : s ≤ 14
  ·rw [show hasT p e s = true by simp [hasT, h4, h10, h3, h1, h2]]
   (go_enter Tryz.func130, Tryz.ntmps130; go_wp2; go_ret; exact ⟨by first | rfl | (simp [*]; done), rfl⟩)
  ·rw [show hasT p e s = false by simp [hasT, h4, h10, h3, h2]]
   (go_enter Tryz.func130, Tryz.ntmps130; go_wp2; go_ret; exact ⟨by first | rfl | (simp [*]; done), rfl⟩)
 ·rw [show hasT p e s = false by simp [hasT, h4, h10, h3, h1]]
  (go_enter Tryz.func130, Tryz.ntmps130; go_wp2; go_ret; exact ⟨by first | rfl | (simp [*]; done), rfl⟩)
theorem down_2 (p k : Int) (h : ¬ k = 2) : downT p k = downT 2 k := by
 unfold downT; rw [decide_eq_decide]; omega
theorem takes_any (p e k : Int) (w : World) : Calls Tryz.prog 163 #[.int .i64 p, .int .i64 e, .int .i64 k] w fun e' w' => e' = .returned (.bool (takesT p e k)) ∧ w = w' := by
 have HU := hD (fun w => letUp_any k w); have HD := hD (fun w => letDown_any k w)
 by_cases he : e = 1
 ·subst he; rw [show takesT p 1 k = upT k from rfl]
  (go_enter Tryz.func163, Tryz.ntmps163; go_wp2_with (go_at_call 182; (with_reducible refine (HU.out _).mono ?_); rintro e' w' ⟨rfl, rfl⟩); go_ret; exact ⟨by first | rfl | (simp [*]; done), rfl⟩)
 ·have be : (e == 1) = false := by simpa using he
  rw [show takesT p e k = downT p k from if_neg he]
  by_cases h2 : k = 2
  ·subst h2; rw [show downT p 2 = (p == 2) by unfold downT; rw [Bool.eq_iff_iff]; simp]; clear he
   (go_enter Tryz.func163, Tryz.ntmps163; go_wp2; go_ret; exact ⟨by first | rfl | (simp [*]; done), rfl⟩)
  ·have b2 : (k == 2) = false := by simpa using h2
   rw [down_2 p k h2]; clear he h2
   (go_enter Tryz.func163, Tryz.ntmps163; go_wp2_with (go_at_call 35; (with_reducible refine (HD.out _).mono ?_); rintro e' w' ⟨rfl, rfl⟩); go_ret; exact ⟨by first | rfl | (simp [*]; done), rfl⟩)
theorem sends_any (p e k : Int) (he : e = 1 ∨ e = 2) (w : World) : Calls Tryz.prog 129 #[.int .i64 p, .int .i64 e, .int .i64 k] w fun e' w' => e' = .returned (.bool (sendsT p e k)) ∧ w = w' := by
 have HT := hD (fun e w => takes_any p e k w)
 rcases he with rfl | rfl
 ·rw [show sendsT p 1 k = takesT p 2 k from rfl]
  (go_enter Tryz.func129, Tryz.ntmps129; go_wp2_with (go_at_call 163; (with_reducible refine (HT.out _ _).mono ?_); rintro e' w' ⟨rfl, rfl⟩); go_ret; exact ⟨by first | rfl | (simp [*]; done), rfl⟩)
 ·rw [show sendsT p 2 k = takesT p 1 k from rfl]
  (go_enter Tryz.func129, Tryz.ntmps129; go_wp2_with (go_at_call 163; (with_reducible refine (HT.out _ _).mono ?_); rintro e' w' ⟨rfl, rfl⟩); go_ret; exact ⟨by first | rfl | (simp [*]; done), rfl⟩)
theorem twaits_1 (s : Int) (hs : s = 1 ∨ s = 2 ∨ s = 3 ∨ s = 4 ∨ s = 5 ∨ s = 6 ∨ s = 7 ∨ s = 8 ∨ s = 9 ∨ s = 10 ∨ s = 11 ∨ s = 12 ∨ s = 13 ∨ s = 14) (w : World) : Calls Tryz.prog 136 #[.int .i64 1, .int .i64 s] w fun e' w' => e' = .returned (.int .i64 (waitT 1 s)) ∧ w = w' := by
 rcases hs with rfl | rfl | rfl | rfl | rfl | rfl | rfl | rfl | rfl | rfl | rfl | rfl | rfl | rfl
 ·(have hq := a2X Tryz.underlying224 1 1; have hg := aX 224 (by kernel_rfl); (go_enter Tryz.func136, Tryz.ntmps136; go_wp2; go_ret; exact ⟨rfl, rfl⟩))
 ·(have hq := a2X Tryz.underlying224 1 2; have hg := aX 224 (by kernel_rfl); (go_enter Tryz.func136, Tryz.ntmps136; go_wp2; go_ret; exact ⟨rfl, rfl⟩))
 ·(have hq := a2X Tryz.underlying224 1 3; have hg := aX 224 (by kernel_rfl); (go_enter Tryz.func136, Tryz.ntmps136; go_wp2; go_ret; exact ⟨rfl, rfl⟩))
 ·(have hq := a2X Tryz.underlying224 1 4; have hg := aX 224 (by kernel_rfl); (go_enter Tryz.func136, Tryz.ntmps136; go_wp2; go_ret; exact ⟨rfl, rfl⟩))
 ·(have hq := a2X Tryz.underlying224 1 5; have hg := aX 224 (by kernel_rfl); (go_enter Tryz.func136, Tryz.ntmps136; go_wp2; go_ret; exact ⟨rfl, rfl⟩))
 ·(have hq := a2X Tryz.underlying224 1 6; have hg := aX 224 (by kernel_rfl); (go_enter Tryz.func136, Tryz.ntmps136; go_wp2; go_ret; exact ⟨rfl, rfl⟩))
 ·(have hq := a2X Tryz.underlying224 1 7; have hg := aX 224 (by kernel_rfl); (go_enter Tryz.func136, Tryz.ntmps136; go_wp2; go_ret; exact ⟨rfl, rfl⟩))
 ·(have hq := a2X Tryz.underlying224 1 8; have hg := aX 224 (by kernel_rfl); (go_enter Tryz.func136, Tryz.ntmps136; go_wp2; go_ret; exact ⟨rfl, rfl⟩))
 ·(have hq := a2X Tryz.underlying224 1 9; have hg := aX 224 (by kernel_rfl); (go_enter Tryz.func136, Tryz.ntmps136; go_wp2; go_ret; exact ⟨rfl, rfl⟩))
 ·(have hq := a2X Tryz.underlying224 1 10; have hg := aX 224 (by kernel_rfl); (go_enter Tryz.func136, Tryz.ntmps136; go_wp2; go_ret; exact ⟨rfl, rfl⟩))
 ·(have hq := a2X Tryz.underlying224 1 11; have hg := aX 224 (by kernel_rfl); (go_enter Tryz.func136, Tryz.ntmps136; go_wp2; go_ret; exact ⟨rfl, rfl⟩))
 ·(have hq := a2X Tryz.underlying224 1 12; have hg := aX 224 (by kernel_rfl); (go_enter Tryz.func136, Tryz.ntmps136; go_wp2; go_ret; exact ⟨rfl, rfl⟩))
 ·(have hq := a2X Tryz.underlying224 1 13; have hg := aX 224 (by kernel_rfl); (go_enter Tryz.func136, Tryz.ntmps136; go_wp2; go_ret; exact ⟨rfl, rfl⟩))
 ·(have hq := a2X Tryz.underlying224 1 14; have hg := aX 224 (by kernel_rfl); (go_enter Tryz.func136, Tryz.ntmps136; go_wp2; go_ret; exact ⟨rfl, rfl⟩))
theorem twaits_2 (s : Int) (hs : s = 1 ∨ s = 2 ∨ s = 3 ∨ s = 4 ∨ s = 5 ∨ s = 6 ∨ s = 7 ∨ s = 8 ∨ s = 9 ∨ s = 10 ∨ s = 11 ∨ s = 12 ∨ s = 13 ∨ s = 14) (w : World) : Calls Tryz.prog 136 #[.int .i64 2, .int .i64 s] w fun e' w' => e' = .returned (.int .i64 (waitT 2 s)) ∧ w = w' := by
 rcases hs with rfl | rfl | rfl | rfl | rfl | rfl | rfl | rfl | rfl | rfl | rfl | rfl | rfl | rfl
 ·(have hq := a2X Tryz.underlying224 2 1; have hg := aX 224 (by kernel_rfl); (go_enter Tryz.func136, Tryz.ntmps136; go_wp2; go_ret; exact ⟨rfl, rfl⟩))
 ·(have hq := a2X Tryz.underlying224 2 2; have hg := aX 224 (by kernel_rfl); (go_enter Tryz.func136, Tryz.ntmps136; go_wp2; go_ret; exact ⟨rfl, rfl⟩))
 ·(have hq := a2X Tryz.underlying224 2 3; have hg := aX 224 (by kernel_rfl); (go_enter Tryz.func136, Tryz.ntmps136; go_wp2; go_ret; exact ⟨rfl, rfl⟩))
 ·(have hq := a2X Tryz.underlying224 2 4; have hg := aX 224 (by kernel_rfl); (go_enter Tryz.func136, Tryz.ntmps136; go_wp2; go_ret; exact ⟨rfl, rfl⟩))
 ·(have hq := a2X Tryz.underlying224 2 5; have hg := aX 224 (by kernel_rfl); (go_enter Tryz.func136, Tryz.ntmps136; go_wp2; go_ret; exact ⟨rfl, rfl⟩))
 ·(have hq := a2X Tryz.underlying224 2 6; have hg := aX 224 (by kernel_rfl); (go_enter Tryz.func136, Tryz.ntmps136; go_wp2; go_ret; exact ⟨rfl, rfl⟩))
 ·(have hq := a2X Tryz.underlying224 2 7; have hg := aX 224 (by kernel_rfl); (go_enter Tryz.func136, Tryz.ntmps136; go_wp2; go_ret; exact ⟨rfl, rfl⟩))
 ·(have hq := a2X Tryz.underlying224 2 8; have hg := aX 224 (by kernel_rfl); (go_enter Tryz.func136, Tryz.ntmps136; go_wp2; go_ret; exact ⟨rfl, rfl⟩))
 ·(have hq := a2X Tryz.underlying224 2 9; have hg := aX 224 (by kernel_rfl); (go_enter Tryz.func136, Tryz.ntmps136; go_wp2; go_ret; exact ⟨rfl, rfl⟩))
 ·(have hq := a2X Tryz.underlying224 2 10; have hg := aX 224 (by kernel_rfl); (go_enter Tryz.func136, Tryz.ntmps136; go_wp2; go_ret; exact ⟨rfl, rfl⟩))
 ·(have hq := a2X Tryz.underlying224 2 11; have hg := aX 224 (by kernel_rfl); (go_enter Tryz.func136, Tryz.ntmps136; go_wp2; go_ret; exact ⟨rfl, rfl⟩))
 ·(have hq := a2X Tryz.underlying224 2 12; have hg := aX 224 (by kernel_rfl); (go_enter Tryz.func136, Tryz.ntmps136; go_wp2; go_ret; exact ⟨rfl, rfl⟩))
 ·(have hq := a2X Tryz.underlying224 2 13; have hg := aX 224 (by kernel_rfl); (go_enter Tryz.func136, Tryz.ntmps136; go_wp2; go_ret; exact ⟨rfl, rfl⟩))
 ·(have hq := a2X Tryz.underlying224 2 14; have hg := aX 224 (by kernel_rfl); (go_enter Tryz.func136, Tryz.ntmps136; go_wp2; go_ret; exact ⟨rfl, rfl⟩))
theorem tgoes_any (s : Int) (w : World) : Calls Tryz.prog 183 #[.int .i64 s] w fun e' w' => e' = .returned (.agg #[(1:Int), s, (0:Int)]) ∧ Kp w w' := by
 have K1 := hD (kA w (.cells #[(0:Int), (0:Int), (0:Int)] 180)); have HZ := hD (mH w (.cells #[(0:Int), (0:Int), (0:Int)] 180)); obtain ⟨z0, z1, z2⟩ := cells3 HZ.out; have fz := froz3 HZ.out; clear K1 HZ z0 z1 z2 fz; go_enter Tryz.func183, Tryz.ntmps183; go_wp2; refine bodyPost_ret (results_cell_row (p := 2) rfl _ _ w.heap.size 180 _ (0, 0) _ rfl (mH w (.cells #[(1:Int), s, (0:Int)] 180)) Tryz.underlying180 rfl (by kernel_rfl)) rfl ?_; exact ⟨rfl, kA _ _⟩
theorem tresends_any (s : Int) (w : World) : Calls Tryz.prog 184 #[.int .i64 s] w fun e' w' => e' = .returned (.agg #[(3:Int), (0:Int), s]) ∧ Kp w w' := by
 have K1 := hD (kA w (.cells #[(0:Int), (0:Int), (0:Int)] 180)); have HZ := hD (mH w (.cells #[(0:Int), (0:Int), (0:Int)] 180)); obtain ⟨z0, z1, z2⟩ := cells3 HZ.out; have fz := froz3 HZ.out; clear K1 HZ z0 z1 z2 fz; go_enter Tryz.func184, Tryz.ntmps184; go_wp2; refine bodyPost_ret (results_cell_row (p := 2) rfl _ _ w.heap.size 180 _ (0, 0) _ rfl (mH w (.cells #[(3:Int), (0:Int), s] 180)) Tryz.underlying180 rfl (by kernel_rfl)) rfl ?_; exact ⟨rfl, kA _ _⟩
theorem kp_drewU {a b : World} (h : Kp a b) : Kp a b.drew := ⟨h.os, h.tape, h.output, h.size, h.block⟩
theorem kp_drewT {a b : World} (h : Kp a b) (n : Nat) : Kp a (b.drewN n) := ⟨h.os, h.tape, h.output, h.size, h.block⟩
theorem look_known (ads : List Addr) (p e k s : Int) (h : rightT p e = false) (w : World) (ce : w.cell? ⟨13, 0, none⟩ = some (errI ads 14)) : Calls Tryz.prog 119 #[.int .i64 p, .int .i64 e, .int .i64 k, .int .i64 s] w fun e' w' => e' = .returned (.tuple #[.agg (cellV (0, 0, 0)), errI ads 14]) ∧ Kp w w' := by
 have HK := hD (fun w => h ▸ known_any p e w); obtain ⟨q, hq⟩ : ∃ x, errI ads 14 = x := ⟨_, rfl⟩
 rw [hq] at ce ⊢; have K1 := hD (kA w (.cells #[(0:Int), (0:Int), (0:Int)] 180)); have HZ := hD (mH w (.cells #[(0:Int), (0:Int), (0:Int)] 180)); obtain ⟨z0, z1, z2⟩ := cells3 HZ.out; have fz := froz3 HZ.out; have cq := kZ K1.out ce; clear hq ce h; go_enter Tryz.func119, Tryz.ntmps119; go_wp2_with (go_at_call 128; (with_reducible refine (HK.out _).mono ?_); rintro e' w' ⟨rfl, rfl⟩)
 go_region
 go_wp2; refine bodyPost_ret (results_row_tmpT (p := 8) (u := 9) rfl _ _ w.heap.size 180 _ (0, 0) _ rfl HZ.out Tryz.underlying180 rfl (by kernel_rfl)) rfl ?_
 exact ⟨rfl, kp_drewU K1.out⟩
theorem look_takes (ads : List Addr) (p e k s : Int) (h : rightT p e = true) (h2 : takesT p e k = false) (w : World) (ce : w.cell? ⟨5, 0, none⟩ = some (errI ads 4)) : Calls Tryz.prog 119 #[.int .i64 p, .int .i64 e, .int .i64 k, .int .i64 s] w fun e' w' => e' = .returned (.tuple #[.agg (cellV (0, 0, 0)), errI ads 4]) ∧ Kp w w' := by
 have HK := hD (fun w => h ▸ known_any p e w); have HT := hD (fun w => h2 ▸ takes_any p e k w); obtain ⟨q, hq⟩ : ∃ x, errI ads 4 = x := ⟨_, rfl⟩
 rw [hq] at ce ⊢; have K1 := hD (kA w (.cells #[(0:Int), (0:Int), (0:Int)] 180)); have HZ := hD (mH w (.cells #[(0:Int), (0:Int), (0:Int)] 180)); obtain ⟨z0, z1, z2⟩ := cells3 HZ.out; have fz := froz3 HZ.out; have cq := kZ K1.out ce; clear hq ce h h2; go_enter Tryz.func119, Tryz.ntmps119; go_wp2_with (first | (go_at_call 128; (with_reducible refine (HK.out _).mono ?_); rintro e' w' ⟨rfl, rfl⟩) | (go_at_call 163; (with_reducible refine (HT.out _).mono ?_); rintro e' w' ⟨rfl, rfl⟩))
 go_region
 go_wp2; refine bodyPost_ret (results_row_tmpT (p := 8) (u := 9) rfl _ _ w.heap.size 180 _ (0, 0) _ rfl HZ.out Tryz.underlying180 rfl (by kernel_rfl)) rfl ?_
 exact ⟨rfl, kp_drewU K1.out⟩
theorem look_has (ads : List Addr) (p e k s : Int) (h : rightT p e = true) (h2 : takesT p e k = true) (h3 : hasT p e s = false) (w : World) (ce : w.cell? ⟨2, 0, none⟩ = some (errI ads 1)) : Calls Tryz.prog 119 #[.int .i64 p, .int .i64 e, .int .i64 k, .int .i64 s] w fun e' w' => e' = .returned (.tuple #[.agg (cellV (0, 0, 0)), errI ads 1]) ∧ Kp w w' := by
 have HK := hD (fun w => h ▸ known_any p e w); have HT := hD (fun w => h2 ▸ takes_any p e k w); have HH := hD (fun w => h3 ▸ has_any p e s w); obtain ⟨q, hq⟩ : ∃ x, errI ads 1 = x := ⟨_, rfl⟩
 rw [hq] at ce ⊢; have K1 := hD (kA w (.cells #[(0:Int), (0:Int), (0:Int)] 180)); have HZ := hD (mH w (.cells #[(0:Int), (0:Int), (0:Int)] 180)); obtain ⟨z0, z1, z2⟩ := cells3 HZ.out; have fz := froz3 HZ.out; have cq := kZ K1.out ce; clear hq ce h h2 h3; go_enter Tryz.func119, Tryz.ntmps119; go_wp2_with (first | (go_at_call 128; (with_reducible refine (HK.out _).mono ?_); rintro e' w' ⟨rfl, rfl⟩) | (go_at_call 163; (with_reducible refine (HT.out _).mono ?_); rintro e' w' ⟨rfl, rfl⟩) | (go_at_call 130; (with_reducible refine (HH.out _).mono ?_); rintro e' w' ⟨rfl, rfl⟩))
 go_region
 go_wp2; refine bodyPost_ret (results_row_tmpT (p := 8) (u := 9) rfl _ _ w.heap.size 180 _ (0, 0) _ rfl HZ.out Tryz.underlying180 rfl (by kernel_rfl)) rfl ?_
 exact ⟨rfl, kp_drewU K1.out⟩
theorem step_known (ads : List Addr) (p e k s : Int) (h : rightT p e = false) (w : World) (ce : w.cell? ⟨13, 0, none⟩ = some (errI ads 14)) : Calls Tryz.prog 88 #[.int .i64 p, .int .i64 e, .int .i64 k, .int .i64 s] w fun e' w' => e' = .returned (.tuple #[(0:Int), errI ads 14]) ∧ Kp w w' := by
 have HK := hD (fun w => h ▸ known_any p e w); obtain ⟨q, hq⟩ : ∃ x, errI ads 14 = x := ⟨_, rfl⟩
 rw [hq] at ce ⊢; clear hq h; go_enter Tryz.func88, Tryz.ntmps88; go_wp2_with (go_at_call 128; (with_reducible refine (HK.out _).mono ?_); rintro e' w' ⟨rfl, rfl⟩)
 go_quiet (fail)
 go_wp2; go_ret2
 exact ⟨rfl, kp_drewT (Kp.refl _) _⟩
theorem step_sends (ads : List Addr) (p e k s : Int) (h : rightT p e = true) (h2 : sendsT p e k = false) (w : World) (ce : w.cell? ⟨5, 0, none⟩ = some (errI ads 4)) : Calls Tryz.prog 88 #[.int .i64 p, .int .i64 e, .int .i64 k, .int .i64 s] w fun e' w' => e' = .returned (.tuple #[(0:Int), errI ads 4]) ∧ Kp w w' := by
 have HK := hD (fun w => h ▸ known_any p e w); have HT := hD (fun w => h2 ▸ sends_any p e k (rightT_rng h).2 w); obtain ⟨q, hq⟩ : ∃ x, errI ads 4 = x := ⟨_, rfl⟩
 rw [hq] at ce ⊢; clear hq h h2; go_enter Tryz.func88, Tryz.ntmps88; go_wp2_with (first | (go_at_call 128; (with_reducible refine (HK.out _).mono ?_); rintro e' w' ⟨rfl, rfl⟩) | (go_at_call 129; (with_reducible refine (HT.out _).mono ?_); rintro e' w' ⟨rfl, rfl⟩))
 go_quiet (fail)
 go_wp2; go_ret2
 exact ⟨rfl, kp_drewT (Kp.refl _) _⟩
theorem step_has (ads : List Addr) (p e k s : Int) (h : rightT p e = true) (h2 : sendsT p e k = true) (h3 : hasT p e s = false) (w : World) (ce : w.cell? ⟨2, 0, none⟩ = some (errI ads 1)) : Calls Tryz.prog 88 #[.int .i64 p, .int .i64 e, .int .i64 k, .int .i64 s] w fun e' w' => e' = .returned (.tuple #[(0:Int), errI ads 1]) ∧ Kp w w' := by
 have HK := hD (fun w => h ▸ known_any p e w); have HT := hD (fun w => h2 ▸ sends_any p e k (rightT_rng h).2 w); have HH := hD (fun w => h3 ▸ has_any p e s w); obtain ⟨q, hq⟩ : ∃ x, errI ads 1 = x := ⟨_, rfl⟩
 rw [hq] at ce ⊢; clear hq h h2 h3; go_enter Tryz.func88, Tryz.ntmps88; go_wp2_with (first | (go_at_call 128; (with_reducible refine (HK.out _).mono ?_); rintro e' w' ⟨rfl, rfl⟩) | (go_at_call 129; (with_reducible refine (HT.out _).mono ?_); rintro e' w' ⟨rfl, rfl⟩) | (go_at_call 130; (with_reducible refine (HH.out _).mono ?_); rintro e' w' ⟨rfl, rfl⟩))
 go_quiet (fail)
 go_wp2; go_ret2
 exact ⟨rfl, kp_drewT (Kp.refl _) _⟩
theorem wt_known (ads : List Addr) (p e s : Int) (h : rightT p e = false) (w : World) (ce : w.cell? ⟨13, 0, none⟩ = some (errI ads 14)) : Calls Tryz.prog 93 #[.int .i64 p, .int .i64 e, .int .i64 s] w fun e' w' => e' = .returned (.tuple #[(0:Int), errI ads 14]) ∧ Kp w w' := by
 have HK := hD (fun w => h ▸ known_any p e w); obtain ⟨q, hq⟩ : ∃ x, errI ads 14 = x := ⟨_, rfl⟩
 rw [hq] at ce ⊢; clear hq h; go_enter Tryz.func93, Tryz.ntmps93; go_wp2_with (go_at_call 128; (with_reducible refine (HK.out _).mono ?_); rintro e' w' ⟨rfl, rfl⟩)
 go_quiet (fail)
 go_wp2; go_ret2
 exact ⟨rfl, kp_drewT (Kp.refl _) _⟩
theorem wt_has (ads : List Addr) (p e s : Int) (h : rightT p e = true) (h3 : hasT p e s = false) (w : World) (ce : w.cell? ⟨2, 0, none⟩ = some (errI ads 1)) : Calls Tryz.prog 93 #[.int .i64 p, .int .i64 e, .int .i64 s] w fun e' w' => e' = .returned (.tuple #[(0:Int), errI ads 1]) ∧ Kp w w' := by
 have HK := hD (fun w => h ▸ known_any p e w); have HH := hD (fun w => h3 ▸ has_any p e s w); obtain ⟨q, hq⟩ : ∃ x, errI ads 1 = x := ⟨_, rfl⟩
 rw [hq] at ce ⊢; clear hq h h3; go_enter Tryz.func93, Tryz.ntmps93; go_wp2_with (first | (go_at_call 128; (with_reducible refine (HK.out _).mono ?_); rintro e' w' ⟨rfl, rfl⟩) | (go_at_call 130; (with_reducible refine (HH.out _).mono ?_); rintro e' w' ⟨rfl, rfl⟩))
 go_quiet (fail)
 go_wp2; go_ret2
 exact ⟨rfl, kp_drewT (Kp.refl _) _⟩
end Go.Proofs.YtncoofnhifcnhaaGreatDoor
