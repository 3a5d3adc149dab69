/- Parts of this proof (own work). -/
import Derived.Test.YtlmlmhmhgdjhnaaGreatDoorZa20
import Derived.Test.YtlmlmhmhgdjhnaaGreatDoorZa21
import Derived.Laws.CopyRow
import Derived.Laws.CopyOwn
set_option maxRecDepth 100000
set_option maxHeartbeats 40000000
namespace Go.Proofs.YtlmlmhmhgdjhnaaGreatDoor
open Go.RowKit Go.ChangeShapes Go.WideShapes
variable {w0 w w' W w3 : World} {B q : Nat} {m : StM} {gs : List AcG} {va vp : Value}
def z8L : List Value := [.int .i64 0, .int .i64 0, .int .i64 0, .int .i64 0, .float .f64 0, .int .i64 0, .int .i64 0, .slice none 0 0]
theorem run_clear_ac (w : World) (ty : TypeId) (g i c : Nat) (cur : Array Value) (hg : w.heap[g]? = some (.cells cur 92 (0, 0))) (hl : i * 8 + 8 ≤ cur.size) :
  (Builtin.clear_ #[88] ty #[.slice (some ⟨g, i * 8, none⟩) 1 c]).run Tryz.prog w = .ok (.tuple #[]) (w.setRow g (cur.toList.take (i * 8) ++ z8L ++ cur.toList.drop (i * 8 + 8)).toArray) := by
 have hz : (Builtin.zeroCells ((.agg #[(0:Int), (0:Int), (0:Int), (0:Int), .float .f64 0, (0:Int), (0:Int), .slice none 0 0] : Value)).cells 1).toList = z8L := by kernel_rfl
 have hst := run_storeCells_at Tryz.prog g (i * 8) 92 z8L 0 cur w hg (by simpa [z8L] using hl) (by simp [z8L, Value.oneCell']); have hzv : ∀ w, (zeroValue 92).run Tryz.prog w = .ok (.agg #[(0:Int), (0:Int), (0:Int), (0:Int), .float .f64 0, (0:Int), (0:Int), .slice none 0 0]) w := fun w => by kernel_rfl
 rw [Nat.add_zero] at hst
 simp [Builtin.clear_, run_underlying Tryz.underlying88, hz, hzv, hst, Result.andThen]
 try rfl
theorem grown_setRowQ (w : World) (g : Nat) (cs : Array Value) : w.grownBy (w.setRow g cs) (some g) := ⟨rfl, rfl, rfl, by simp, fun k _ hk => setRow_other w g k _ (fun e => hk (by rw [e]))⟩
theorem Xb.grown {p : Nat} {w w' : World} (h : Xb p w w') : w.grownBy w' (some p) := ⟨h.os, h.tape, h.output, h.size, fun k hk hn => h.block k hk (fun e => hn (by rw [e]))⟩
theorem Xb.of_grown {p : Nat} {w w' : World} (h : w.grownBy w' (some p)) : Xb p w w' := ⟨h.os, h.tape, h.output, h.size, fun k hk hn => h.block k hk (fun e => hn (by injection e))⟩
def gapD (gs : List AcG) (i k : Nat) : List AcG := (gs.eraseIdx i).take k ++ gs.drop k
theorem gap_start {i : Nat} (hi : i < gs.length) : gapD gs i i = gs := by
 unfold gapD; rw [← tD, List.take_append_of_le_length (by simp; omega), List.take_take, Nat.min_self, List.take_append_drop]
theorem gap_len {i k : Nat} (hi : i < gs.length) (hk : k < gs.length) : (gapD gs i k).length = gs.length := by
 unfold gapD; rw [List.length_append, List.length_take, List.length_eraseIdx, if_pos hi, List.length_drop]; omega
theorem gap_at {i k j : Nat} (hi : i < gs.length) (hkj : k ≤ j) (hj : j < gs.length) : (gapD gs i k)[j]? = gs[j]? := by
 unfold gapD; have hl : ((gs.eraseIdx i).take k).length = k := by rw [List.length_take, List.length_eraseIdx, if_pos hi]; omega
 rw [List.getElem?_append_right (by omega), hl, List.getElem?_drop]
 congr 1
 omega
theorem gap_step {i k : Nat} {x : AcG} (hi : i < gs.length) (hik : i ≤ k) (hk : k + 1 < gs.length) (hx : gs[k + 1]? = some x) : (gapD gs i k).set k x = gapD gs i (k + 1) := by
 unfold gapD; have hl : ((gs.eraseIdx i).take k).length = k := by rw [List.length_take, List.length_eraseIdx, if_pos hi]; omega
 have he : (gs.eraseIdx i)[k]? = some x := by rw [List.getElem?_eraseIdx, if_neg (by omega), hx]
 obtain ⟨hk2, he2⟩ := List.getElem?_eq_some_iff.1 he; rw [List.set_append_right _ _ (by omega), hl, Nat.sub_self]; have hd : gs.drop k = gs[k] :: gs.drop (k + 1) := List.drop_eq_getElem_cons (by omega); rw [hd, List.set_cons_zero, List.take_succ_eq_append_getElem hk2, he2, List.append_assoc]
 rfl
theorem gap_end {i k : Nat} (hi : i < gs.length) (hk : k + 1 = gs.length) : (gapD gs i k).take k = gs.eraseIdx i := by
 unfold gapD; have hl : ((gs.eraseIdx i).take k).length = k := by rw [List.length_take, List.length_eraseIdx, if_pos hi]; omega
 rw [List.take_append_of_le_length (by omega), List.take_take, Nat.min_self, List.take_of_length_le (by rw [List.length_eraseIdx, if_pos hi]; omega)]
def set8A (w : World) (g i : Nat) (x : AcG) : World := (((((((w.setCell ⟨g, i, none⟩ (.int .i64 x.a.c.n)).setCell ⟨g, i + 1, none⟩ (.int .i64 x.a.c.s)).setCell ⟨g, i + 2, none⟩ (.int .i64 x.a.c.o)).setCell ⟨g, i + 3, none⟩ (.int .i64 x.a.c.d)).setCell ⟨g, i + 4, none⟩ (.float .f64 x.a.c.x)).setCell ⟨g, i + 5, none⟩ (.int .i64 x.a.par)).setCell ⟨g, i + 6, none⟩ (.int .i64 x.a.dec)).setCell ⟨g, i + 7, none⟩ x.v
theorem own_set8 {g n cp i : Nat} {f : List AcG} (h : w.ownsRow B 92 8 (.slice (some ⟨g, 0, none⟩) n cp) n (acE.row f)) (hi : i < f.length) (x : AcG) :
  (set8A w g (i * 8) x).ownsRow B 92 8 (.slice (some ⟨g, 0, none⟩) n cp) n (acE.row (f.set i x)) ∧ Xb g w (set8A w g (i * 8) x) := by
 obtain ⟨⟨⟨xn, xs, xo, xd, xx⟩, xp, xc, xr⟩, xb, xk⟩ := x; obtain ⟨⟨⟨⟨yn, ys, yo, yd, yx⟩, yp, yc, yr⟩, yb, yk⟩, hy⟩ : ∃ y, f[i]'hi = y := ⟨_, rfl⟩
 have e0 := row_set1 acE f i hi 0 (by decide) (.int .i64 xn) ⟨⟨⟨xn, ys, yo, yd, yx⟩, yp, yc, yr⟩, yb, yk⟩ (by rw [hy]; rfl); have e1 := row_set1 acE (f.set i ⟨⟨⟨xn, ys, yo, yd, yx⟩, yp, yc, yr⟩, yb, yk⟩) i (by simpa using hi) 1 (by decide) (.int .i64 xs) ⟨⟨⟨xn, xs, yo, yd, yx⟩, yp, yc, yr⟩, yb, yk⟩ (by simp; rfl); have e2 := row_set1 acE (f.set i ⟨⟨⟨xn, xs, yo, yd, yx⟩, yp, yc, yr⟩, yb, yk⟩) i (by simpa using hi) 2 (by decide) (.int .i64 xo) ⟨⟨⟨xn, xs, xo, yd, yx⟩, yp, yc, yr⟩, yb, yk⟩ (by simp; rfl); have e3 := row_set1 acE (f.set i ⟨⟨⟨xn, xs, xo, yd, yx⟩, yp, yc, yr⟩, yb, yk⟩) i (by simpa using hi) 3 (by decide) (.int .i64 xd) ⟨⟨⟨xn, xs, xo, xd, yx⟩, yp, yc, yr⟩, yb, yk⟩ (by simp; rfl); have e4 := row_set1 acE (f.set i ⟨⟨⟨xn, xs, xo, xd, yx⟩, yp, yc, yr⟩, yb, yk⟩) i (by simpa using hi) 4 (by decide) (.float .f64 xx) ⟨⟨⟨xn, xs, xo, xd, xx⟩, yp, yc, yr⟩, yb, yk⟩ (by simp; rfl); have e5 := row_set1 acE (f.set i ⟨⟨⟨xn, xs, xo, xd, xx⟩, yp, yc, yr⟩, yb, yk⟩) i (by simpa using hi) 5 (by decide) (.int .i64 xp) ⟨⟨⟨xn, xs, xo, xd, xx⟩, xp, yc, yr⟩, yb, yk⟩ (by simp; rfl)
 have e6 := row_set1 acE (f.set i ⟨⟨⟨xn, xs, xo, xd, xx⟩, xp, yc, yr⟩, yb, yk⟩) i (by simpa using hi) 6 (by decide) (.int .i64 xc) ⟨⟨⟨xn, xs, xo, xd, xx⟩, xp, xc, yr⟩, yb, yk⟩ (by simp; rfl); have e7 := row_set1 acE (f.set i ⟨⟨⟨xn, xs, xo, xd, xx⟩, xp, xc, yr⟩, yb, yk⟩) i (by simpa using hi) 7 (by decide) (⟨⟨⟨xn, xs, xo, xd, xx⟩, xp, xc, xr⟩, xb, xk⟩ : AcG).v ⟨⟨⟨xn, xs, xo, xd, xx⟩, xp, xc, xr⟩, xb, xk⟩ (by simp; rfl); simp only [set_set', show acE.k = 8 from rfl, Nat.add_zero] at e0 e1 e2 e3 e4 e5 e6 e7
 have o0 := (h.stored (i * 8) (.int .i64 xn)).1; rw [e0] at o0; have o1 := (o0.stored (i * 8 + 1) (.int .i64 xs)).1; rw [e1] at o1; have o2 := (o1.stored (i * 8 + 2) (.int .i64 xo)).1; rw [e2] at o2; have o3 := (o2.stored (i * 8 + 3) (.int .i64 xd)).1; rw [e3] at o3; have o4 := (o3.stored (i * 8 + 4) (.float .f64 xx)).1; rw [e4] at o4; have o5 := (o4.stored (i * 8 + 5) (.int .i64 xp)).1; rw [e5] at o5; have o6 := (o5.stored (i * 8 + 6) (.int .i64 xc)).1; rw [e6] at o6; have o7 := (o6.stored (i * 8 + 7) (⟨⟨⟨xn, xs, xo, xd, xx⟩, xp, xc, xr⟩, xb, xk⟩ : AcG).v).1; rw [e7] at o7; have X0 : Xb g w w := Xb.of_kp (Kp.refl w); exact ⟨o7, (((((((X0.set _ _).set _ _).set _ _).set _ _).set _ _).set _ _).set _ _).set _ _⟩
theorem lsDelete {ga len cp : Nat} (ow : w.ownsRow B 92 8 (.slice (some ⟨ga, 0, none⟩) len cp) len (acE.row gs)) (hl : gs.length = len) (h8 : len ≤ 8) {b : Nat} {n s : Int} (hb : w.cell? ⟨b, 1, none⟩ = some (.int .i64 n) ∧ w.cell? ⟨b, 2, none⟩ = some (.int .i64 s)) (hbg : b ≠ ga) {i : Nat} {x : AcG} (hx : gs[i]? = some x) (hm : x.a.c.n = n ∧ x.a.c.s = s) (hu : ∀ k y, gs[k]? = some y → k ≠ i → ¬ (y.a.c.n = n ∧ y.a.c.s = s)) :
  Calls Tryz.prog 190 #[.slice (some ⟨ga, 0, none⟩) len cp, .func (.func 191) #[] #[.pointer (some ⟨b, 0, none⟩)]] w fun r w' => r = .returned (.slice (some ⟨ga, 0, none⟩) (len - 1) cp) ∧ w'.ownsRow B 92 8 (.slice (some ⟨ga, 0, none⟩) (len - 1) cp) (len - 1) (acE.row (gs.eraseIdx i)) ∧ Xb ga w w' := by
 obtain ⟨hi, hxi⟩ := List.getElem?_eq_some_iff.1 hx; have hix := ixGone ow hl h8 b n s hb; rw [fi_at (p := (fun g : AcG => (fun a : AcM => decide (a.c.n = n ∧ a.c.s = s)) g.a)) hi (fun k hk hki => dF (hu k _ (List.getElem?_eq_getElem hk) (by omega))) (by show decide _ = true; rw [hxi]; exact dT hm)] at hix; obtain ⟨ii, hii⟩ : ∃ x : Int, (i : Int) = x := ⟨_, rfl⟩
 have hpl : placeQ (some i) = ii := hii; rw [hpl] at hix; have gne : (ii == -1) = false := by simp; omega
 obtain ⟨j1, hj1⟩ : ∃ x : Int, ii + 1 = x := ⟨_, rfl⟩
 have hw1 : wrap64 j1 = j1 := IntWalk.wrap64_in _ (by omega); obtain ⟨L, hL⟩ : ∃ L : Int, (len : Int) = L := ⟨_, rfl⟩
 have hsz : ∃ i0, Tryz.prog.info? 92 = some i0 ∧ i0.size = 8 := by obtain ⟨i0, h1, -, h3, -⟩ := info_acL; exact ⟨i0, h1, h3⟩
 obtain ⟨HIX, HO, HL, H8, HB, HBG, HU, HI⟩ := hD8 hix ow hl h8 hb hbg hu hi; obtain ⟨HII, HLL, HSZ⟩ := hD3 hii hL hsz; have hsf := sF; have HJ1 := hD hj1; clear ow hl h8 hb hbg hx hm hu hi hxi hix hpl hii hsz; go_enter Tryz.func190, Tryz.ntmps190; go_wp2_with (go_at_call 159; (with_reducible refine HIX.out.mono ?_); rintro e' w2 ⟨rfl, hk2⟩; have K2 := hD hk2; clear hk2)
 rw [hw1]; go_loopw [5, 6] (fun iv jv wr => ∃ k : Nat, i ≤ k ∧ k + 1 ≤ len ∧ iv = .int .i64 k ∧ jv = .int .i64 ((k : Int) + 1) ∧ wr.ownsRow B 92 8 (.slice (some ⟨ga, 0, none⟩) len cp) len (acE.row (gapD gs i k)) ∧ Xb ga w wr) (fun _ jv _ => len - (intOf jv).toNat)
 case atStart => exact ⟨i, Nat.le_refl _, by have := HI.out; have := HL.out; omega, by rw [HII.out], by rw [HII.out, HJ1.out], by rw [gap_start HI.out]; exact oK HO.out K2.out, Xb.of_kp K2.out⟩
 case round =>
  obtain ⟨k, hik, hkl, rfl, rfl, hown, hxb⟩ := hrel; obtain ⟨kk, hkk⟩ : ∃ x : Int, (k : Int) = x := ⟨_, rfl⟩
  obtain ⟨jj, hjj⟩ : ∃ x : Int, kk + 1 = x := ⟨_, rfl⟩
  rw [hkk, hjj]; obtain ⟨HKK, HJJ, HIK, HOW, HXB⟩ := hD5 hkk hjj hik hown hxb
  by_cases hlt : k + 1 < len
  ·have hjl : jj < L := by omega
   have hj0 : 0 ≤ jj := by omega
   have hk0 : 0 ≤ kk := by omega
   have hkL : kk < L := by omega
   have hL8 : L ≤ 8 := by have := H8.out; omega
   have htn : jj.toNat = k + 1 := by omega
   have htk : kk.toNat = k := by omega
   have hglen : (gapD gs i k).length = len := by rw [gap_len HI.out (by have := HL.out; omega)]; exact HL.out
   obtain ⟨⟨⟨⟨xn, xs, xo, xd, xx⟩, xp, xc, xr⟩, xb, xk⟩, hx⟩ : ∃ x, gs[k + 1]? = some x := ⟨_, List.getElem?_eq_getElem (by have := HL.out; omega)⟩
   have hgx := (gap_at (k := k) HI.out (by omega : k ≤ k + 1) (by have := HL.out; omega)).trans hx; obtain ⟨hgj, hgx'⟩ := List.getElem?_eq_some_iff.1 hgx; obtain ⟨g2, cp2, ev, hcp, hgB, hgl, hfz, hcell⟩ := cQ (E := acE) hown hglen hlt; have ev := congrArg (fun v => match v with | Value.slice (some a) _ _ => a.block | _ => 0) ev; dsimp only at ev; subst ev; have hcell2 : ∀ (j : Nat) (u : Value), j < acE.k → (acE.enc ((gapD gs i k)[k + 1]'hgj))[j]? = some u → wr.cell? ⟨ga, (k + 1) * acE.k + j, none⟩ = some u := hcell; rw [hgx', show acE.k = 8 from rfl, ← htn] at hcell2; obtain ⟨nv, hnv⟩ : ∃ n, xr.length = n := ⟨_, rfl⟩
   obtain ⟨x0, x1, x2, x3, x4, x5, x6, -⟩ := cW8 hcell2; have x7 : wr.cell? ⟨ga, jj.toNat * 8 + 7, none⟩ = some (.slice xb nv xk) := by rw [← hnv]; exact hcell2 7 _ (by decide) rfl
   have hbox := (mH wr (.cells #[xn, xs, xo, xd, xx, xp, xc, .slice xb nv xk] 92))
   obtain ⟨y0, y1, y2, y3, y4, y5, y6, y7⟩ := c8X hbox; have kb := kA wr (.cells #[xn, xs, xo, xd, xx, xp, xc, .slice xb nv xk] 92); obtain ⟨⟨⟨⟨on, os, oo, od, ox⟩, op, oc, or'⟩, ob, okk⟩, hox⟩ : ∃ x, (gapD gs i k)[k]? = some x := ⟨_, List.getElem?_eq_getElem (by omega)⟩
   obtain ⟨hok, hox'⟩ := List.getElem?_eq_some_iff.1 hox; obtain ⟨g3, cp3, ev3, -, -, -, -, hcellk⟩ := cQ (E := acE) hown hglen (by omega : k < len); have ev3 := congrArg (fun v => match v with | Value.slice (some a) _ _ => a.block | _ => 0) ev3; dsimp only at ev3; subst ev3; have hcellk2 : ∀ (j : Nat) (u : Value), j < acE.k → (acE.enc ((gapD gs i k)[k]'hok))[j]? = some u → wr.cell? ⟨ga, k * acE.k + j, none⟩ = some u := hcellk; rw [hox', show acE.k = 8 from rfl, ← htk] at hcellk2; obtain ⟨t0, t1, t2, t3, t4, t5, t6, t7⟩ := cW8 hcellk2; have hno : ¬ (xn = n ∧ xs = s) := HU.out (k + 1) _ hx (by omega); have hbw := HXB.out.cell (q := ⟨b, 1, none⟩) HBG.out HB.out.1; have hbv := HXB.out.cell (q := ⟨b, 2, none⟩) HBG.out HB.out.2; have HCL := cloGone xn xs xo xd xx xp xc xb nv xk b n s (w := wr.alloc (.cells #[xn, xs, xo, xd, xx, xp, xc, .slice xb nv xk] 92)) ⟨kZ kb hbw, kZ kb hbv⟩; rw [dF hno] at HCL
   obtain ⟨HCL, KB, YB⟩ := hD3 HCL kb hbox; have T := hD (And.intro t0 (And.intro t1 (And.intro t2 (And.intro t3 (And.intro t4 (And.intro t5 (And.intro t6 t7))))))); have HZ := hD (show ∀ w', Kp wr w' → ∀ j, w'.frozen? ⟨ga, j, none⟩ = false from fun w' h j => by rw [Below.frozen h hgl]; exact hfz j); obtain ⟨HX, HNV, HTK, HLT, HGL⟩ := hD5 hx hnv htk hlt hglen; have hwj : wrap64 (jj + 1) = jj + 1 := IntWalk.wrap64_in _ (by omega); have hwk : wrap64 (kk + 1) = kk + 1 := IntWalk.wrap64_in _ (by omega); clear hcell hcell2 hcellk hcellk2 hx hgx hgx' hox hox' hown hxb hik hkl hkk hlt htn htk hglen hbox kb hno hbw hbv hcp hgB hgl hfz hnv t0 t1 t2 t3 t4 t5 t6 t7 hjj; go_wp2_with (go_at_call 191; (with_reducible refine HCL.out.mono ?_); rintro e' w5 ⟨rfl, hk5⟩; have k5 := kT KB.out hk5; obtain ⟨z0, z1, z2, z3, z4, z5, z6, z7⟩ := c8X (rZ hk5 YB.out); have s0 := kZ k5 T.out.1; have s1 := kZ k5 T.out.2.1; have s2 := kZ k5 T.out.2.2.1; have s3 := kZ k5 T.out.2.2.2.1; have s4 := kZ k5 T.out.2.2.2.2.1; have s5 := kZ k5 T.out.2.2.2.2.2.1; have s6 := kZ k5 T.out.2.2.2.2.2.2.1; have s7 := kZ k5 T.out.2.2.2.2.2.2.2; have fz := HZ.out w5 k5; have K5 := hD k5; clear k5 hk5)
   have FIN := own_set8 (oK HOW.out K5.out) (i := k) (by rw [HGL.out]; have := HLT.out; omega) ⟨⟨⟨xn, xs, xo, xd, xx⟩, xp, xc, xr⟩, xb, xk⟩; rw [gap_step HI.out HIK.out (by have := HL.out; have := HLT.out; omega) HX.out] at FIN; rw [show k * 8 = kk.toNat * 8 by rw [HTK.out]] at FIN; unfold set8A AcG.v at FIN; dsimp only at FIN; rw [HNV.out] at FIN; have FN := hD FIN; clear FIN; go_roundw
   case rel => exact ⟨k + 1, by have := HIK.out; omega, by have := HLT.out; omega, by have := HKK.out; rw [show ((k + 1 : Nat) : Int) = kk + 1 by omega], by have := HKK.out; have := HJJ.out; rw [show (((k + 1 : Nat) : Int) + 1) = jj + 1 by omega], FN.out.1, (HXB.out.kp K5.out).trans FN.out.2⟩
   case measure => have := HKK.out; have := HJJ.out; have := HLT.out; simp [intOf]; omega
  ·have hkn : k + 1 = len := by omega
   have hje : ¬ jj < L := by omega
   have hk0 : 0 ≤ kk := by omega
   have hkL : kk ≤ L := by omega
   rcases hown.2 with ⟨h, _⟩ | ⟨g', cap', cur, hv, hbb, hh, hnc, hcm, hcs, ht⟩
   ·cases h
   injection hv with hv1 hv2 hv3
   injection hv1 with hv1
   injection hv1 with hv1
   subst hv1 hv3; have st := fun w => sl_tailG (P := Tryz.prog) (T := 88) (e := 92) (k := 8) (b := ga) (n := len) (cp := cp) (i := k) (ii := kk) Tryz.underlying88 HSZ.out hkk (by omega) w
   rw [if_neg (by omega), show len - k = 1 by omega] at st; obtain ⟨ck, hck⟩ : ∃ x, cp - k = x := ⟨_, rfl⟩
   rw [hck] at st; have hcl := fun ty => run_clear_ac wr ty ga k ck cur hh (by omega)
   obtain ⟨W7, hW7⟩ : ∃ W7, wr.setRow ga (cur.toList.take (k * 8) ++ z8L ++ cur.toList.drop (k * 8 + 8)).toArray = W7 := ⟨_, rfl⟩
   rw [hW7] at hcl; have shd := fun w => sl_headG (P := Tryz.prog) (T := 88) (e := 92) (k := 8) (b := ga) (n := len) (cp := cp) (i := k) (ii := kk) Tryz.underlying88 HSZ.out hkk (by omega) hnc w
   have X7 := hD (HXB.out.trans (show Xb ga wr W7 by rw [← hW7]; exact Xb.of_grown (grown_setRowQ _ _ _))); have hel : (gs.eraseIdx i).length = k := by rw [List.length_eraseIdx, if_pos HI.out, HL.out]; omega
   have F7 := hD (show W7.ownsRow B 92 8 (.slice (some ⟨ga, 0, none⟩) k cp) k (acE.row (gs.eraseIdx i)) from ⟨by rw [row_len, hel]; rfl, .inr ⟨ga, cp, _, rfl, hbb, by rw [← hW7]; exact setRow_heap _ _ _ _ _ _ hh, by omega, hcm, by simp [z8L]; omega, by
    rw [← gap_end HI.out (by rw [HL.out]; exact hkn), row_take, ← ht]; have h1 : (cur.toList.take (k * 8)).length = k * 8 := by rw [List.length_take]; simp; omega
    simp only [List.append_assoc]
    rw [List.take_append_of_le_length (by omega), List.take_of_length_le (by omega)]; rw [List.take_take, show acE.k = 8 from rfl]
    congr 1
    omega⟩⟩)
   have HKN := hD hkn; clear hown hxb hik hkl hkk hlt hjj hv2 hbb hh hnc hcm hcs ht hW7 hck hel hkn; go_wp2; go_ret; have e : len - 1 = k := by have := HKN.out; omega
   refine ⟨congrArg (fun x => Ending.returned (Value.slice (some ⟨ga, 0, none⟩) x cp)) e.symm, ?_, X7.out⟩
   rw [e]; exact F7.out
theorem lsForget1 (Hs : GS tyL B q m gs va vp w) (h8 : gs.length ≤ 8) (fk : Int) (fn fs fr fe fp fq fo fd fa ft fh fc : Int) (fx : Nat) {bf bs i : Nat} {x : AcG} (rf : w.heap[bf]? = some (.cells #[fk, fn, fs, fr, fe, fp, fq, fo, fd, fa, ft, fh, fc, fx] 87)) (rs : w.heap[bs]? = some (.cells #[.pointer (some ⟨q, 0, none⟩)] 31)) (hx : gs[i]? = some x) (hm : x.a.c.n = fn ∧ x.a.c.s = fs) (hu : ∀ k y, gs[k]? = some y → k ≠ i → ¬ (y.a.c.n = fn ∧ y.a.c.s = fs)) :
  Calls Tryz.prog 189 #[.pointer (some ⟨bs, 0, none⟩), .pointer (some ⟨bf, 0, none⟩)] w fun r w' => r = .returned (.tuple #[]) ∧ ∃ gs' va' vp', GS tyL B q { m with acts := m.acts.eraseIdx i } gs' va' vp' w' ∧ Asd (Ow q gs va vp) (Ow q gs' va' vp') w w' := by
 obtain ⟨hi, -⟩ := List.getElem?_eq_some_iff.1 hx; obtain ⟨ga, cpa, eva, hcpa, hgB, hgl, hfz, -⟩ := cQ (E := acE) Hs.oa rfl hi; subst eva; obtain ⟨len, hl⟩ : ∃ x, gs.length = x := ⟨_, rfl⟩
 have e2 : w.cell? ⟨q, 2, none⟩ = some (.slice (some ⟨ga, 0, none⟩) len cpa) := by rw [← hl]; exact cU (i := 2) Hs.row rfl
 have hO : w.ownsRow B 92 8 (.slice (some ⟨ga, 0, none⟩) len cpa) len (acE.row gs) := by have := Hs.oa; rw [hl] at this; exact this
 have s0 : w.cell? ⟨bs, 0, none⟩ = some (.pointer (some ⟨q, 0, none⟩)) := cU (i := 0) rs rfl; have kd : Kp w w.drew := dQ (Kp.refl w); have hbg : bf ≠ ga := fun e => nQ hO rf (by decide) (by rw [e]; rfl)
 have HDE := hD (lsDelete (w := w.drew) (oK hO kd) hl (by omega) (b := bf) (n := fn) (s := fs) ⟨kZ kd (cU (i := 1) rf rfl), kZ kd (cU (i := 2) rf rfl)⟩ hbg hx hm hu); obtain ⟨HS, HL, HI, KD, RSS, HOX⟩ := hD6 Hs hl hi kd rs hO; clear Hs h8 rf rs hx hm hu hi hcpa hgB hgl hfz hl hO kd hbg; go_enter Tryz.func189, Tryz.ntmps189; refine rgW (fun w' => w'.heap[bs]? = some (.cells #[.pointer (some ⟨q, 0, none⟩)] 31)) ?_ fun hH => ?_
 ·exact rZ KD.out RSS.out
 refine tkP 0 ?_ (y := by intro w hZ; have c : w.cell? ⟨bs, 0, none⟩ = some (.pointer (some ⟨q, 0, none⟩)) := cU (i := 0) hZ rfl; go_simp; try rfl)
 go_simp; refine tkP 1 ?_ (y := by intro w hZ; have c : w.cell? ⟨bs, 0, none⟩ = some (.pointer (some ⟨q, 0, none⟩)) := cU (i := 0) hZ rfl; go_simp; try rfl)
 go_simp; refine tkP 2 ?_
 go_simp; refine tkP 3 ?_
 go_simp; refine tkP 5 ?_
 go_simp; refine rdW 4 fun K hK => ?_
 go_simp; refine hK.out _ _ (hH) fun hH => ?_
 clear hK K; refine rdW 6 fun K hK => ?_
 go_simp; go_wp2_with (go_at_call 190; (with_reducible refine HDE.out.mono ?_); rintro e' w5 ⟨rfl, ho, hxb⟩)
 refine hK.out _ _ (hxb.row (fun e => nQ HOX.out RSS.out (by decide) (by rw [e]; rfl)) hH) fun hH => ?_
 clear hK K; have r5 := hxb.row (fun e => HS.out.qa tyL_ok (by rw [e]; rfl)) (rZ KD.out HS.out.row); have q5 : w5.cell? ⟨q, 2, none⟩ = some (.slice (some ⟨ga, 0, none⟩) gs.length cpa) := cU (i := 2) r5 rfl; have z5 := fQ r5 2; obtain ⟨XB, OW⟩ := hD2 hxb ho; clear ho hxb; refine tkP 7 ?_
 go_simp; refine tkP 8 ?_
 go_simp; refine rdW 9 fun K hK => ?_
 go_simp; refine hK.out _ _ ((bS _ _ _ _ (row_neQ hH r5 (by decide))).trans hH) fun hH => ?_
 clear hK K; refine dnW ?_ _
 go_end0
 have RF := HS.out.repA tyL_ok KD.out (w3 := w5) (XB.out.grown) (L := len - 1) (gs' := gs.eraseIdx i) (by rw [List.length_eraseIdx, if_pos HI.out, HL.out]) OW.out (fun b e => .inl e) (fun g hg => .inl (List.mem_of_mem_eraseIdx hg)) (dis_erase HS.out.dis); have hm2 : m.acts.eraseIdx i = (gs.eraseIdx i).map AcG.a := by rw [HS.out.acts, ← tD, ← tD]; simp [List.map_take, List.map_drop]
 rw [hm2]; exact ⟨rfl, _, _, vp, RF.1, RF.2⟩
theorem cells_6Q {b : Nat} {t : TypeId} {w : World} {x0 x1 x2 x3 x4 x5 : Value} (h : w.heap[b]? = some (.cells #[x0, x1, x2, x3, x4, x5] t (0, 0))) : w.cell? ⟨b, 0, none⟩ = some x0 ∧ w.cell? ⟨b, 1, none⟩ = some x1 ∧ w.cell? ⟨b, 2, none⟩ = some x2 ∧ w.cell? ⟨b, 3, none⟩ = some x3 ∧ w.cell? ⟨b, 4, none⟩ = some x4 ∧ w.cell? ⟨b, 5, none⟩ = some x5 := by
 refine ⟨?_, ?_, ?_, ?_, ?_, ?_⟩ <;> (unfold World.cell?; dsimp only; rw [h]; rfl)
theorem in_any (a : Option Addr) (cap n : Nat) (bs : List Int) (hn : bs.length = n) (hl : n ≤ 1000000) (x : Int) (w : World) (hs : SlI (.slice a n cap) bs w) :
  Calls Tryz.prog 153 #[.slice a n cap, .int .i64 x] w fun e w' => e = .returned (.bool (decide (x ∈ bs))) ∧ Kp w w' := by
 obtain ⟨B, hB⟩ : ∃ B, decide (x ∈ bs) = B := ⟨_, rfl⟩
 rw [hB]; have HB := hD hB; have HS := hD (fun w1 (hk : Kp w w1) (j : Nat) (hj : j < bs.length) => (hs.kp hk).at j hj); have HN := hD hn; clear hB hs hn; go_enter Tryz.func153, Tryz.ntmps153; go_wp2; go_loopw [9] (fun i wr => ∃ j : Nat, j ≤ n ∧ i = .int .i64 j ∧ Kp w wr ∧ x ∉ bs.take j) (fun i _ => n - (intOf i).toNat)
 case atStart => exact ⟨0, Nat.zero_le _, rfl, Kp.refl _, by simp⟩
 case round =>
  obtain ⟨j, hj, rfl, hk, hx⟩ := hrel; obtain ⟨jj, hjj⟩ : ∃ jj : Int, (j : Int) = jj := ⟨_, rfl⟩
  obtain ⟨K, HX⟩ := hD2 hk hx; rw [hjj]; have hnl := HN.out
  by_cases hlt : j < n
  ·have hjb : j < bs.length := by omega
   obtain ⟨b, off, rfl, ct⟩ := HS.out wr hk j hjb; have hg : bs.getD j 0 = bs[j] := by simp [List.getD, hjb]
   rw [hg] at ct; have ht : bs.take (j + 1) = bs.take j ++ [bs[j]] := by rw [List.take_add_one, List.getElem?_eq_getElem hjb]; rfl
   have hm : bs[j] ∈ bs := List.getElem_mem hjb; obtain ⟨y, hy⟩ : ∃ y, bs[j] = y := ⟨_, rfl⟩
   rw [hy] at ct ht hm; have ej : jj.toNat = j := by omega
   rw [← ej] at ct; have j0 : 0 ≤ jj := by omega
   have hltj : jj < n := by omega
   have HJ := hD hjj
   by_cases hxy : y = x
   ·subst hxy; have hBt : B = true := by rw [← HB.out]; exact dT hm
    subst hBt; clear hg ht hm hy hjb hnl hlt ej hjj hk hx; go_wp2; go_ret; exact ⟨rfl, K.out⟩
   ·have hb : (y == x) = false := by simpa using hxy
    have HT := hD (show x ∉ bs.take (j + 1) by
     rw [ht, List.mem_append, List.mem_singleton]; rintro (q | q)
     ·exact hx q
     ·exact hxy q.symm)
    clear hg ht hm hy hjb hnl hlt ej hjj hk hx; go_wp2; have hjj := HJ.out; go_roundw
    case rel => exact ⟨j + 1, by omega, by congr 1; omega, K.out, HT.out⟩
    case measure => simp [intOf]; omega
  ·obtain rfl : j = n := by omega
   rw [List.take_of_length_le (by omega)] at hx; have hBf : B = false := by rw [← HB.out]; exact dF hx
   subst hBf; have hex : ¬ jj < j := by omega
   clear hk hx hnl hlt; go_wp2; go_ret; exact ⟨rfl, K.out⟩
theorem refActF_any (nn si : Int) (w : World) :
  Calls Tryz.prog 98 #[.agg #[nn, si]] w fun e w' => e = .returned (.bool (rightA nn si)) ∧ Kp w w' := by
 go_enter Tryz.func98, Tryz.ntmps98; go_wp2
 all_goals (go_ret; refine ⟨?_, kA _ _⟩; simp [rightA, *] <;> (intros; omega))
theorem rstate_1 (t h : Int) (ht : t = 14) (hh : h = 1) (w : World) : Calls Tryz.prog 152 #[.int .i64 t, .int .i64 h] w fun e w' => e = .returned (.bool true) ∧ w = w' := by
 subst ht hh; go_enter Tryz.func152, Tryz.ntmps152; go_wp2; go_ret; exact ⟨by first | rfl | simp [*], rfl⟩
theorem rstate_2 (t h : Int) (ht : t = 14) (hh : h ≠ 1) (h4 : 4 ≤ h) (w : World) : Calls Tryz.prog 152 #[.int .i64 t, .int .i64 h] w fun e w' => e = .returned (.bool (decide (h ≤ 8))) ∧ w = w' := by
 subst ht; have g1 : (h == 1) = false := by simpa using hh
 have g2 : decide (4 ≤ h) = true := dT h4; clear hh h4; go_enter Tryz.func152, Tryz.ntmps152; go_wp2; go_ret; exact ⟨by first | rfl | simp [*], rfl⟩
theorem rstate_3 (t h : Int) (ht : t = 14) (hh : h ≠ 1) (h4 : ¬ 4 ≤ h) (w : World) : Calls Tryz.prog 152 #[.int .i64 t, .int .i64 h] w fun e w' => e = .returned (.bool false) ∧ w = w' := by
 subst ht; have g1 : (h == 1) = false := by simpa using hh
 have g2 : decide (4 ≤ h) = false := dF h4; clear hh h4; go_enter Tryz.func152, Tryz.ntmps152; go_wp2; go_ret; exact ⟨by first | rfl | simp [*], rfl⟩
theorem rstate_4 (t h : Int) (ht : t ≠ 14) (h1 : ¬ 1 ≤ t) (w : World) : Calls Tryz.prog 152 #[.int .i64 t, .int .i64 h] w fun e w' => e = .returned (.bool false) ∧ w = w' := by
 have g1 : (t == 14) = false := by simpa using ht
 have g2 : decide (1 ≤ t) = false := dF h1; clear ht h1; go_enter Tryz.func152, Tryz.ntmps152; go_wp2; go_ret; exact ⟨by first | rfl | simp [*], rfl⟩
theorem rstate_5 (t h : Int) (ht : t ≠ 14) (h1 : 1 ≤ t) (h13 : ¬ t ≤ 13) (w : World) : Calls Tryz.prog 152 #[.int .i64 t, .int .i64 h] w fun e w' => e = .returned (.bool false) ∧ w = w' := by
 have g1 : (t == 14) = false := by simpa using ht
 have g2 : decide (1 ≤ t) = true := dT h1; have g3 : decide (t ≤ 13) = false := dF h13; clear ht h1 h13; go_enter Tryz.func152, Tryz.ntmps152; go_wp2; go_ret; exact ⟨by first | rfl | simp [*], rfl⟩
theorem rstate_6 (t h : Int) (ht : t ≠ 14) (h1 : 1 ≤ t) (h13 : t ≤ 13) (w : World) : Calls Tryz.prog 152 #[.int .i64 t, .int .i64 h] w fun e w' => e = .returned (.bool (h == 0)) ∧ w = w' := by
 have g1 : (t == 14) = false := by simpa using ht
 have g2 : decide (1 ≤ t) = true := dT h1; have g3 : decide (t ≤ 13) = true := dT h13; clear ht h1 h13; go_enter Tryz.func152, Tryz.ntmps152; go_wp2; go_ret; exact ⟨by first | rfl | simp [*], rfl⟩
theorem refState_any (t h : Int) (w : World) : Calls Tryz.prog 152 #[.int .i64 t, .int .i64 h] w fun e w' => e = .returned (.bool (seatX t h)) ∧ w = w' := by
 unfold seatX
 by_cases ht : t = 14
 ·rw [if_pos ht]
  by_cases h1 : h = 1
  ·rw [dT (.inl h1)]; exact rstate_1 t h ht h1 w
  by_cases h4 : 4 ≤ h
  ·rw [show decide (h = 1 ∨ 4 ≤ h ∧ h ≤ 8) = decide (h ≤ 8) by simp [h1, h4]]; exact rstate_2 t h ht h1 h4 w
  ·rw [dF (by omega)]; exact rstate_3 t h ht h1 h4 w
 ·rw [if_neg ht]
  by_cases h1 : 1 ≤ t
  ·by_cases h13 : t ≤ 13
   ·rw [show decide (1 ≤ t ∧ t ≤ 13 ∧ h = 0) = (h == 0) by rw [Bool.eq_iff_iff]; simp [h1, h13]]; exact rstate_6 t h ht h1 h13 w
   ·rw [dF (by omega)]; exact rstate_5 t h ht h1 h13 w
  ·rw [dF (by omega)]; exact rstate_4 t h ht h1 w
theorem refNumbers_any (f : FX) (w : World) : Calls Tryz.prog 102 #[.agg f.cells] w fun e w' => ∃ g, e = .returned (.slice (some ⟨g, 0, none⟩) 13 13) ∧ w'.ownsRow w.heap.size 3 1 (.slice (some ⟨g, 0, none⟩) 13 13) 13 (f.nums.map (Value.int .i64)) ∧ Kp w w' := by
 obtain ⟨k, n, s, r, e, p, q, o, d, a, t, hh, c, x⟩ := f; dsimp only [FX.cells]; have HR := hD (mH w (.cells #[k, n, s, r, e, p, q, o, d, a, t, hh, c, x] 102)); obtain ⟨b0, b1, b2, b3, b4, b5, b6, b7, b8, b9, b10, b11, b12, b13⟩ := cZ HR.out; have K := hD (kT (kA w (.cells #[k, n, s, r, e, p, q, o, d, a, t, hh, c, x] 102)) (kA (w.alloc (.cells #[k, n, s, r, e, p, q, o, d, a, t, hh, c, x] 102)) (.cells #[k, n, s, r, e, p, q, o, d, a, t, hh, c] 3))); have h1 := World.ownsRow_lit (base := w.heap.size) (e := 3) (size := 1) (w.alloc (.cells #[k, n, s, r, e, p, q, o, d, a, t, hh, c, x] 102)) #[.int .i64 k, .int .i64 n, .int .i64 s, .int .i64 r, .int .i64 e, .int .i64 p, .int .i64 q, .int .i64 o, .int .i64 d, .int .i64 a, .int .i64 t, .int .i64 hh, .int .i64 c] 13 (by simp) (by decide) rfl; have H1 := hD h1; clear h1; go_enter Tryz.func102, Tryz.ntmps102; go_wp2; go_ret; exact ⟨_, rfl, by simpa [FX.nums] using H1.out, K.out⟩
end Go.Proofs.YtlmlmhmhgdjhnaaGreatDoor
