/- Parts of this proof (own work). -/
import Derived.Test.YtncoofnhifcnhaaGreatDoorZt33
set_option maxRecDepth 100000
set_option maxHeartbeats 40000000
namespace Go.Proofs.YtncoofnhifcnhaaGreatDoor
open Go.RowKit Go.ChangeShapes Go.WideShapes
variable {w0 w w' W w3 : World} {B q : Nat} {m : StM} {ads : List Addr}
theorem SD.look (h : SD B q m w) (np : Nat) (hnp : m.parts.length = np) : ∃ a d, w.cell? ⟨q, 0, none⟩ = some (.int .i64 m.node) ∧ w.cell? ⟨q, 3, none⟩ = some (.slice a np d) := by
 obtain ⟨gs, va, vp, H⟩ := h; obtain ⟨a, d, rfl⟩ := H.pForm; subst hnp; exact ⟨a, d, cU (i := 0) H.row rfl, cU (i := 3) H.row rfl⟩
theorem SD.lookAt (h : SD B q m w) (i : Int) (x : PaM) (hx : prtP m i = some x) (np : Nat) (hnp : m.parts.length = np) : ∃ gp d, w.cell? ⟨q, 0, none⟩ = some (.int .i64 m.node) ∧ w.cell? ⟨q, 3, none⟩ = some (.slice (some ⟨gp, 0, none⟩) np d) ∧ 0 ≤ i ∧ i.toNat < np ∧ ∀ (j : Nat) (u : Value), j < 7 → (paE.enc x)[j]? = some u → w.cell? ⟨gp, i.toNat * 7 + j, none⟩ = some u := by
 obtain ⟨gs, va, vp, H⟩ := h; obtain ⟨h0, h1⟩ := prt_some hx; have hj : i.toNat < m.parts.length := (List.getElem?_eq_some_iff.1 h1).1; have he : m.parts[i.toNat]'hj = x := (List.getElem?_eq_some_iff.1 h1).2; subst hnp; obtain ⟨gp, ck, ev, hck, _, _, _, hc⟩ := cQ (E := paE) H.op rfl hj; subst ev; refine ⟨gp, ck, cU (i := 0) H.row rfl, cU (i := 3) H.row rfl, h0, hj, fun j u hj2 hu => ?_⟩
 exact hc j u hj2 (by rw [he]; exact hu)
theorem rHas (h : SD B q m w) (i : Int) (b : Bool) (hb : (prtP m i).isSome = b) : Calls Tryz.prog 38 #[.pointer (some ⟨q, 0, none⟩), .int .i64 i] w fun r w' => r = .returned (.bool b) ∧ w = w' := by
 obtain ⟨np, hnp⟩ : ∃ n, m.parts.length = n := ⟨_, rfl⟩
 obtain ⟨a, d, q0, q3⟩ := h.look np hnp; obtain ⟨N, hN⟩ : ∃ N : Int, (np : Int) = N := ⟨_, rfl⟩
 by_cases h0 : 0 ≤ i
 ·by_cases h1 : i < N
  ·have hb : true = b := by rw [← hb]; unfold prtP; rw [if_pos h0, List.getElem?_eq_getElem (show i.toNat < m.parts.length by omega)]; rfl
   subst hb; have g0 : decide (i ≥ 0) = true := dT h0; have g1 : decide (i < N) = true := dT h1; clear h0 h1 hnp h q0; go_enter Tryz.func38, Tryz.ntmps38; go_wp2; go_ret; exact ⟨rfl, rfl⟩
  ·have hb : false = b := by rw [← hb]; unfold prtP; rw [if_pos h0, List.getElem?_eq_none (show m.parts.length ≤ i.toNat by omega)]; rfl
   subst hb; have g0 : decide (i ≥ 0) = true := dT h0; have g1 : decide (i < N) = false := dF h1; clear h0 h1 hnp h q0; go_enter Tryz.func38, Tryz.ntmps38; go_wp2; go_ret; exact ⟨rfl, rfl⟩
 ·have hb : false = b := by rw [← hb]; unfold prtP; rw [if_neg h0]; rfl
  subst hb; have g0 : decide (i ≥ 0) = false := dF (by omega); clear h0 hnp h q0 hN; go_enter Tryz.func38, Tryz.ntmps38; go_wp2; go_ret; exact ⟨rfl, rfl⟩
theorem rAnswer (g : MM) (k c : Int) : Calls Tryz.prog 39 #[.agg g.cells, .int .i64 k, .int .i64 c] w fun r w' => r = .returned (.agg (answerM g k c).cells) ∧ Kp w w' := by
 obtain ⟨gk, gf, gt, gn, gs, gr, gp, go, gc⟩ := g; dsimp only [MM.cells, answerM]; obtain ⟨b0, b1, b2, b3, b4, b5, b6, b7, b8⟩ := cells9 (nX0 w (.cells #[gk, gf, gt, gn, gs, gr, gp, go, gc] 26) (.cells #[(0:Int), (0:Int), (0:Int), (0:Int), (0:Int), (0:Int), (0:Int), (0:Int), (0:Int)] 26)); have K2 := hD (pk2 w (.cells #[gk, gf, gt, gn, gs, gr, gp, go, gc] 26) (.cells #[k, gt, gf, gn, gs, gr, gp, (0:Int), c] 26)); go_enter Tryz.func39, Tryz.ntmps39; go_wp2; refine bodyPost_ret (results_cell_row (p := 6) rfl _ _ (w.heap.size + 1) 26 _ (0, 0) _ rfl (nX1 w _ _) Tryz.underlying26 rfl (by kernel_rfl)) rfl ?_
 exact ⟨rfl, K2.out⟩
theorem rMessage (h : SD B q m w) (i nd : Int) (hnd : m.node = nd) (xn xs xr y1 y2 y3 y4 : Int) (hx : prtP m i = some ⟨xn, xs, xr, ⟨y1, y2, y3, y4⟩⟩) (rg k : Int) : Calls Tryz.prog 42 #[.pointer (some ⟨q, 0, none⟩), .int .i64 i, .int .i64 rg, .int .i64 k] w fun r w' => r = .returned (.agg #[k, nd, xn, xn, xs, rg, i, (0:Int), (0:Int)]) ∧ Kp w w' := by
 obtain ⟨np, hnp⟩ : ∃ n, m.parts.length = n := ⟨_, rfl⟩
 obtain ⟨gp, dp, q0, q3, hi0, hiN, hpc⟩ := h.lookAt i ⟨xn, xs, xr, ⟨y1, y2, y3, y4⟩⟩ hx np hnp; rw [hnd] at q0; obtain ⟨N, hN⟩ : ∃ N : Int, (np : Int) = N := ⟨_, rfl⟩
 have iN : i < N := by omega
 have kz := kA w (.cells #[(0:Int), (0:Int), (0:Int), (0:Int), (0:Int), (0:Int), (0:Int), (0:Int), (0:Int)] 26); have x0 := kZ kz (show w.cell? ⟨gp, i.toNat * 7, none⟩ = some (.int .i64 xn) from hpc 0 _ (by decide) rfl); have x1 := kZ kz (show w.cell? ⟨gp, i.toNat * 7 + 1, none⟩ = some (.int .i64 xs) from hpc 1 _ (by decide) rfl); have x2 := kZ kz (show w.cell? ⟨gp, i.toNat * 7 + 2, none⟩ = some (.int .i64 xr) from hpc 2 _ (by decide) rfl); have x3 := kZ kz (show w.cell? ⟨gp, i.toNat * 7 + 3, none⟩ = some (.int .i64 y1) from hpc 3 _ (by decide) rfl); have x4 := kZ kz (show w.cell? ⟨gp, i.toNat * 7 + 4, none⟩ = some (.int .i64 y2) from hpc 4 _ (by decide) rfl); have x5 := kZ kz (show w.cell? ⟨gp, i.toNat * 7 + 5, none⟩ = some (.int .i64 y3) from hpc 5 _ (by decide) rfl); have x6 := kZ kz (show w.cell? ⟨gp, i.toNat * 7 + 6, none⟩ = some (.int .i64 y4) from hpc 6 _ (by decide) rfl); have Q0 := hD q0
 have q3 := kZ kz q3; have K2 := hD (pk2 w (.cells #[(0:Int), (0:Int), (0:Int), (0:Int), (0:Int), (0:Int), (0:Int), (0:Int), (0:Int)] 26) (.cells #[xn, xs, xr, y1, y2, y3, y4] 95)); have R0 := hD (nX0 w (.cells #[(0:Int), (0:Int), (0:Int), (0:Int), (0:Int), (0:Int), (0:Int), (0:Int), (0:Int)] 26) (.cells #[xn, xs, xr, y1, y2, y3, y4] 95)); have R1 := hD (nX1 w (.cells #[(0:Int), (0:Int), (0:Int), (0:Int), (0:Int), (0:Int), (0:Int), (0:Int), (0:Int)] 26) (.cells #[xn, xs, xr, y1, y2, y3, y4] 95)); clear h hnd hx hnp hpc hiN kz q0; go_enter Tryz.func42, Tryz.ntmps42; go_wp2_with fail
 obtain ⟨WD, hWD⟩ : ∃ x, ((w.alloc (.cells #[(0:Int), (0:Int), (0:Int), (0:Int), (0:Int), (0:Int), (0:Int), (0:Int), (0:Int)] 26)).alloc (.cells #[xn, xs, xr, y1, y2, y3, y4] 95)).drew = x := ⟨_, rfl⟩
 have kD : Kp ((w.alloc (.cells #[(0:Int), (0:Int), (0:Int), (0:Int), (0:Int), (0:Int), (0:Int), (0:Int), (0:Int)] 26)).alloc (.cells #[xn, xs, xr, y1, y2, y3, y4] 95)) WD := by rw [← hWD]; exact dQ (Kp.refl _)
 have HWD := hD hWD; have RZD := hD (rZ kD R0.out); have KD := hD (kT K2.out kD); clear hWD; refine rgW (fun w' => w'.heap[w.heap.size + 1]? = some (.cells #[xn, xs, xr, y1, y2, y3, y4] 95) ∧ Kp w w') ?_ fun hH => ?_
 ·exact by rw [HWD.out]; exact ⟨rZ kD R1.out, kT K2.out kD⟩
 rw [HWD.out] at hH ⊢; refine tkP 0 ?_
 go_simp; refine tkP 1 ?_
 go_simp; refine tkP 2 ?_
 go_simp; refine tkP 3 ?_
 go_simp; refine tkP 4 ?_ (y := by intro w hZ; have n0 := kZ hZ.2 Q0.out; go_simp; try rfl)
 go_simp; refine tkP 5 ?_
 go_simp; refine tkP 6 ?_
 go_simp; refine tkP 7 ?_ (y := by intro w hZ; obtain ⟨z0, z1, z2, z3, z4, z5, z6⟩ := c7X hZ.1; go_simp; try rfl)
 go_simp; refine tkP 8 ?_
 go_simp; refine tkP 9 ?_ (y := by intro w hZ; obtain ⟨z0, z1, z2, z3, z4, z5, z6⟩ := c7X hZ.1; go_simp; try rfl)
 go_simp; refine tkP 10 ?_
 go_simp; refine tkP 11 ?_
 go_simp; refine tkP 12 ?_
 go_simp; refine rdW 13 fun K hK => ?_
 have r1 := RZD.out; obtain ⟨s0, s1, s2, s3, s4, s5, s6, s7, s8⟩ := cells9 r1; have fz := frozN r1; go_simp; refine hK.out _ _ (⟨(set9_neP (show w.heap.size + 1 ≠ w.heap.size by omega) _ _ _ _ _ _ _ _ _).trans hH.1, set9_kp hH.2 (Nat.le_refl _) _ _ _ _ _ _ _ _ _⟩) fun hH => ?_
 clear hK K; refine dnW ?_ _
 clear r1 hH; go_wp2; refine bodyPost_ret (results_cell_row (p := 8) rfl _ _ w.heap.size 26 _ (0, 0) _ rfl (set9 (.int .i64 k) (.int .i64 nd) (.int .i64 xn) (.int .i64 xn) (.int .i64 xs) (.int .i64 rg) (.int .i64 i) (.int .i64 0) (.int .i64 0) RZD.out) Tryz.underlying26 rfl (by kernel_rfl)) rfl ?_
 exact ⟨rfl, set9_kp KD.out (Nat.le_refl _) _ _ _ _ _ _ _ _ _⟩
structure ParC (ads : List Addr) (w : World) : Prop where
 tell : ∀ w1, Kp w w1 → ∀ (B q : Nat) (m : StM), SL B q m w1 → OkS m → ∀ g : MM, Calls Tryz.prog 10 #[.pointer (some ⟨q, 0, none⟩), .agg g.cells] w1 fun r w' => ∃ v, r = .returned v ∧ RsV 73 w1.heap.size (tellP m g) v w' ∧ Kp w1 w'
 asked : ∀ w1, Kp w w1 → ∀ (q : Nat) (g : MM), Calls Tryz.prog 14 #[.pointer (some ⟨q, 0, none⟩), .agg g.cells] w1 fun r w' => r = .returned (.bool (askedP g)) ∧ Kp w1 w'
theorem ParC.kp (C : ParC ads w) (hk : Kp w w') : ParC ads w' where
 tell := fun w1 h => C.tell w1 (kT hk h)
 asked := fun w1 h => C.asked w1 (kT hk h)
def bldM (m : StM) (fs : List FX) : StM := fs.foldl (fun m f => (applyQ m f).2) m
theorem bld_ok : ∀ (fs : List FX) {m : StM}, OkS m → OkS (bldM m fs)
 | [], _, h => h
 | f :: l, _, h => bld_ok l (applyQ_ok (f := f) h)
theorem apply_node16 {m : StM} {f : FX} : (applyQ m f).2.node = m.node := applyQ_node
theorem bld_node : ∀ (fs : List FX) (m : StM), (bldM m fs).node = m.node
 | [], _ => rfl
 | _ :: l, _ => (bld_node l _).trans apply_node16
theorem bld_take (fs : List FX) (m : StM) (j : Nat) (hj : j < fs.length) : bldM m (fs.take (j + 1)) = (applyQ (bldM m (fs.take j)) (fs[j]'hj)).2 := by
 unfold bldM; rw [List.take_succ_eq_append_getElem hj, List.foldl_append]
 rfl
theorem built_no (E : EP [0, 3, 4, 8, 13] ads w) (nd : Int) (a : Option Addr) (n cap : Nat) (h : ¬ inN nd ∨ 60 < n) : Calls Tryz.prog 9 #[.int .i64 nd, .slice a n cap] w fun r w' => r = .returned (.tuple #[.pointer none, .pointer none, .bool false]) ∧ Kp w w' := by
 obtain ⟨N, hN⟩ : ∃ N : Int, (n : Int) = N := ⟨_, rfl⟩
 have hsf := sF
 by_cases hin : inN nd
 ·have h60 : 60 < n := h.elim (fun e => absurd hin e) id; have d1 : decide (N > 60) = true := dT (by omega); have HNEW := hD (SL.new E nd hin); clear h h60 hin E; go_enter Tryz.func9, Tryz.ntmps9; go_wp2_with (go_at_call 26; (with_reducible refine HNEW.out.mono ?_); rintro e' w1 ⟨q, rfl, hg1, hk1⟩; obtain ⟨G1, K1⟩ := hD2 hg1 hk1; clear hg1 hk1)
  go_ret3
  exact ⟨rfl, K1.out⟩
 ·have hnew := SL.noNew E nd hin; obtain ⟨er, her⟩ := errI_some14 ads 1 (by decide); rw [her] at hnew; have HNEW := hD hnew; clear h hin E hnew her; go_enter Tryz.func9, Tryz.ntmps9; go_wp2_with (go_at_call 26; (with_reducible refine HNEW.out.mono ?_); rintro e' w1 ⟨rfl, hk1⟩; have K1 := hD hk1; clear hk1)
  go_ret3
  exact ⟨rfl, K1.out⟩
theorem built_any (C : FacC ads w) (E : EP [0, 3, 4, 8, 13] ads w) (nd : Int) (v : Value) (fs : List FX) (hin : inN nd) (hl : fs.length ≤ 60) (hs : SlFc v fs w) : Calls Tryz.prog 9 #[.int .i64 nd, v] w fun r w' => ∃ q q', r = .returned (.tuple #[.pointer (some ⟨q, 0, none⟩), .pointer (some ⟨q', 0, none⟩), .bool true]) ∧ SL w.heap.size q (bldM (newSt nd) fs) w' ∧ SD w.heap.size q' (bldM (newSt nd) fs) w' ∧ Kp w w' := by
 obtain ⟨a, cap, rfl, _⟩ := id hs; obtain ⟨n, hn⟩ : ∃ n, fs.length = n := ⟨_, rfl⟩
 rw [hn] at hs hl ⊢; obtain ⟨N, hN⟩ : ∃ N : Int, (n : Int) = N := ⟨_, rfl⟩
 have d1 : decide (N > 60) = false := dF (by omega); have HNEW := hD (SL.new E nd hin); obtain ⟨HC, HE, HN, HS, HNN, HL⟩ := hD6 C E hn hs hN hl; have hsf := sF; have HOK0 := hD (newSt_ok hin); clear hin C E hn hs hl; go_enter Tryz.func9, Tryz.ntmps9; go_wp2_with (go_at_call 26; (with_reducible refine HNEW.out.mono ?_); rintro e' w1 ⟨q, rfl, hg1, hk1⟩; obtain ⟨G1, K1⟩ := hD2 hg1 hk1; clear hg1 hk1)
 have KX := hD (kT K1.out (kA w1 (.cells #[nd, (0:Int), .slice none 0 0, .slice none 0 0] 79))); have SL0 := hD (G1.out.kp (kA w1 (.cells #[nd, (0:Int), .slice none 0 0, .slice none 0 0] 79))); have SD0 := hD (SD.new (B := w.heap.size) (mH w1 (.cells #[nd, (0:Int), .slice none 0 0, .slice none 0 0] 79)) (kS K1.out)); go_loopw [29] (fun i wr => ∃ (j : Nat) (m : StM), j ≤ n ∧ i = .int .i64 j ∧ m = bldM (newSt nd) (fs.take j) ∧ SL w.heap.size q m wr ∧ SD w.heap.size w1.heap.size m wr ∧ Kp w wr) (fun i _ => n - (intOf i).toNat)
 case atStart => exact ⟨0, newSt nd, Nat.zero_le _, rfl, rfl, SL0.out, SD0.out, KX.out⟩
 case round =>
  obtain ⟨j, m, hj, rfl, hm, hsl, hsd, hk⟩ := hrel; obtain ⟨kk, hkk⟩ : ∃ x : Int, (j : Int) = x := ⟨_, rfl⟩
  rw [hkk]; obtain ⟨HKK, KR⟩ := hD2 hkk hk
  by_cases hlt : j < n
  ·have hjl : kk < N := by have := HNN.out; omega
   have hk0 : 0 ≤ kk := by omega
   have htk : kk.toNat = j := by omega
   have hN8 : N ≤ 60 := by have := HNN.out; have := HL.out; omega
   have hw1 : wrap64 (kk + 1) = kk + 1 := IntWalk.wrap64_in _ (by omega); have HLT := hD hlt; have hjx : j < fs.length := by have := HN.out; omega
   have hok : OkS m := by rw [hm]; exact bld_ok _ HOK0.out
   have hnx := bld_take fs (newSt nd) j hjx; rw [← hm] at hnx; obtain ⟨bb, bo, rfl, hwf, hcell⟩ := (HS.out.kp hk).at j hjx; obtain ⟨⟨fk, fn, fs, fr, fe, fp, fq, fo, fd, fa, ft, fh, fc, fx⟩, hF⟩ : ∃ f, fs[j]'hjx = f := ⟨_, rfl⟩
   rw [hF] at hwf hcell hnx; rw [← htk] at hcell; have zf0 : wr.cell? ⟨bb, bo + kk.toNat * 14, none⟩ = some (.int .i64 fk) := hcell 0 _ rfl; have zf1 : wr.cell? ⟨bb, bo + kk.toNat * 14 + 1, none⟩ = some (.int .i64 fn) := hcell 1 _ rfl; have zf2 : wr.cell? ⟨bb, bo + kk.toNat * 14 + 2, none⟩ = some (.int .i64 fs) := hcell 2 _ rfl; have zf3 : wr.cell? ⟨bb, bo + kk.toNat * 14 + 3, none⟩ = some (.int .i64 fr) := hcell 3 _ rfl; have zf4 : wr.cell? ⟨bb, bo + kk.toNat * 14 + 4, none⟩ = some (.int .i64 fe) := hcell 4 _ rfl; have zf5 : wr.cell? ⟨bb, bo + kk.toNat * 14 + 5, none⟩ = some (.int .i64 fp) := hcell 5 _ rfl; have zf6 : wr.cell? ⟨bb, bo + kk.toNat * 14 + 6, none⟩ = some (.int .i64 fq) := hcell 6 _ rfl; have zf7 : wr.cell? ⟨bb, bo + kk.toNat * 14 + 7, none⟩ = some (.int .i64 fo) := hcell 7 _ rfl; have zf8 : wr.cell? ⟨bb, bo + kk.toNat * 14 + 8, none⟩ = some (.int .i64 fd) := hcell 8 _ rfl; have zf9 : wr.cell? ⟨bb, bo + kk.toNat * 14 + 9, none⟩ = some (.int .i64 fa) := hcell 9 _ rfl
   have zf10 : wr.cell? ⟨bb, bo + kk.toNat * 14 + 10, none⟩ = some (.int .i64 ft) := hcell 10 _ rfl; have zf11 : wr.cell? ⟨bb, bo + kk.toNat * 14 + 11, none⟩ = some (.int .i64 fh) := hcell 11 _ rfl; have zf12 : wr.cell? ⟨bb, bo + kk.toNat * 14 + 12, none⟩ = some (.int .i64 fc) := hcell 12 _ rfl; have zf13 : wr.cell? ⟨bb, bo + kk.toNat * 14 + 13, none⟩ = some (.float .f64 fx) := hcell 13 _ rfl; have kb := kA wr (.cells #[fk, fn, fs, fr, fe, fp, fq, fo, fd, fa, ft, fh, fc, fx] 73); obtain ⟨u0, u1, u2, u3, u4, u5, u6, u7, u8, u9, u10, u11, u12, u13⟩ := cZ (mH wr (.cells #[fk, fn, fs, fr, fe, fp, fq, fo, fd, fa, ft, fh, fc, fx] 73)); have RF := hD (mH wr (.cells #[fk, fn, fs, fr, fe, fp, fq, fo, fd, fa, ft, fh, fc, fx] 73)); have hap := SL.apply (HC.out.kp (kT hk kb)) (HE.out.kp (kT hk kb)) (hsl.kp kb) hok (⟨fk, fn, fs, fr, fe, fp, fq, fo, fd, fa, ft, fh, fc, fx⟩ : FX) hwf; have had := fun w2 (h : SD w.heap.size w1.heap.size m w2) => SD.apply h hok (⟨fk, fn, fs, fr, fe, fp, fq, fo, fd, fa, ft, fh, fc, fx⟩ : FX) hwf
   dsimp only [FX.cells] at hap had; obtain ⟨AQ, hAQ⟩ : ∃ x, applyQ m (⟨fk, fn, fs, fr, fe, fp, fq, fo, fd, fa, ft, fh, fc, fx⟩ : FX) = x := ⟨_, rfl⟩
   rw [hAQ] at hap had hnx; obtain ⟨ac, m2⟩ := AQ; dsimp only at hap had hnx; obtain ⟨er, her⟩ : ∃ x, errI ads ac = x := ⟨_, rfl⟩
   rw [her] at hap; obtain ⟨HAP, HAD, HNX⟩ := hD3 hap had hnx; have HSD := hD (hsd.kp kb); have KB := hD (kT hk kb); clear hkk hj hlt hm hok hsl hsd hk htk hjx hwf hcell hF kb hap had hAQ hnx her; go_wp2_with (first | (go_at_call 27; (with_reducible refine HAP.out.mono ?_); rintro e' w5 ⟨rfl, s5, d5, x5, k5⟩; have D5 := hD (d5 _ _ _ HSD.out); have S5 := hD s5; have R5 := hD (x5 _ _ _ offL_fct RF.out); obtain ⟨v0, v1, v2, v3, v4, v5, v6, v7, v8, v9, v10, v11, v12, v13⟩ := cZ R5.out; have K5 := hD (k5 _ KB.out (Nat.le_refl _)); clear s5 d5 x5 k5) | (go_at_call 28; (with_reducible refine (HAD.out _ D5.out).mono ?_); rintro e' w7 ⟨rfl, s7, d7, x7, k7⟩; have S7 := hD (d7 _ _ _ S5.out); have D7 := hD s7; have K7 := hD (k7 _ K5.out (Nat.le_refl _)); clear s7 d7 x7 k7))
   go_roundw
   case rel => exact ⟨j + 1, m2, by have := HLT.out; omega, by have := HKK.out; first | rw [show ((j + 1 : Nat) : Int) = kk + 1 by omega] | rw [show ((j + 1 : Nat) : Int) = kk + 1 by omega, hw1], HNX.out.symm, S7.out, D7.out, K7.out⟩
   case measure => have := HKK.out; have := HLT.out; simp [intOf]; omega
  ·have hje : ¬ kk < N := by have := HNN.out; omega
   have hmm : m = bldM (newSt nd) fs := by rw [hm, List.take_of_length_le (by have := HN.out; omega)]
   subst hmm; obtain ⟨SF, DF⟩ := hD2 hsl hsd; clear hkk hj hlt hk hm hsl hsd; go_wp2; go_ret3
   exact ⟨_, _, rfl, SF.out, DF.out, KR.out⟩
theorem facC_of (ads : List Addr) (W : World) (V : St ads W) (T : Tab W) : FacC ads W where
 right := fun w1 hk f hf => facRight_any ads f hf w1 (V.below hk) (T.kp hk)
theorem parC_of (ads : List Addr) (W : World) (V : St ads W) (_T : Tab W) : ParC ads W where
 tell := fun w1 hk _ _ _ h ok g => pTell (V.below hk) (tabC_of ads w1 (ep_of_st (V.below hk) (by decide))) h ok g
 asked := fun _ _ _ g => pAsked g.k g.f g.t g.n g.s g.r g.p g.o g.c
theorem run_take {m m2 : StM} {fs : List FX} (h : runS m fs = some m2) (j : Nat) : ∃ mj, runS m (fs.take j) = some mj := by
 have e := runS_app (fs.take j) (fs.drop j) m; rw [List.take_append_drop, h] at e
 cases g : runS m (fs.take j) with
 | none => rw [g] at e; cases e
 | some mj => exact ⟨mj, rfl⟩
theorem run_step {m m2 mj : StM} {fs : List FX} (h : runS m fs = some m2) (j : Nat) (hj : j < fs.length) (h1 : runS m (fs.take j) = some mj) : ∃ mk, applyQ mj (fs[j]'hj) = (0, mk) ∧ runS m (fs.take (j + 1)) = some mk := by
 obtain ⟨mk, hk⟩ := run_take h (j + 1); have e := runS_app (fs.take j) [fs[j]'hj] m; rw [← List.take_succ_eq_append_getElem hj, h1, hk] at e; have e : some mk = stepS mj (fs[j]'hj) := by rw [← run_one]; exact e
 refine ⟨mk, ?_, hk⟩
 unfold stepS at e
 split at e
 ·exact aS (by assumption) e.symm
 ·cases e
def FitR (B : Nat) (w wr : World) : Prop := (∀ B' q' m', SD B' q' m' w → SD B' q' m' wr) ∧ (∀ (b : Nat) (cs : Array Value) (t : TypeId), OffL t → w.heap[b]? = some (.cells cs t (0, 0)) → wr.heap[b]? = some (.cells cs t (0, 0))) ∧ (∀ w0, Kp w0 w → w0.heap.size ≤ B → Kp w0 wr)
theorem FitR.refl (B : Nat) (w : World) : FitR B w w := ⟨fun _ _ _ h => h, fun _ _ _ _ h => h, fun _ h _ => h⟩
theorem own_fit {B1 k n : Nat} {t : TypeId} {v : Value} {xs : List Value} (h : w.ownsRow B1 t k v n xs) (ht : OffL t) (hw : ∀ (b : Nat) (cs : Array Value) (t : TypeId), OffL t → w.heap[b]? = some (.cells cs t (0, 0)) → w'.heap[b]? = some (.cells cs t (0, 0))) : w'.ownsRow B1 t k v n xs :=
 sG h fun b e => by
  obtain ⟨c, hc⟩ := own_kindQ h b e; rw [hw b c t ht hc, hc]
theorem fit_any (hB : ∃ w0, Kp w0 w ∧ w0.heap.size ≤ B ∧ FacC ads w0 ∧ EP [0, 3, 4, 8, 13] ads w0) (h : SL B q m w) (ok : OkS m) (lst : List FX) (a : Option Addr) (n c : Nat) {B1 : Nat} (hn : lst.length = n) (h60 : n ≤ 60) (ho : w.ownsRow B1 73 14 (.slice a n c) n (fcE.row lst)) (hwf : ∀ f ∈ lst, f.wf) (m2 : StM) (hrun : runS m lst = some m2) : Calls Tryz.prog 16 #[.pointer (some ⟨q, 0, none⟩), .slice a n c] w fun r w' => r = .returned (.bool true) ∧ SL B q m2 w' ∧ OkS m2 ∧ FitR B w w' := by
 obtain ⟨N, hN⟩ : ∃ N : Int, (n : Int) = N := ⟨_, rfl⟩
 obtain ⟨w0, hk0, hb0, C0, E0⟩ := hB; have HC := hD (fun w1 (hk : FitR B w w1) => C0.kp (hk.2.2 w0 hk0 hb0)); have HE := hD (fun w1 (hk : FitR B w w1) => E0.kp (hk.2.2 w0 hk0 hb0)); obtain ⟨HN, HO, HNN, HW, HL, HRUN, HSL, HOK⟩ := hD8 hn ho hN hwf h60 hrun h ok; have hsf := sF; clear C0 E0 hk0 hb0 h ok hn ho hwf hrun h60; go_enter Tryz.func16, Tryz.ntmps16; go_wp2; go_loopw [9] (fun i wr => ∃ (j : Nat) (mj : StM), j ≤ n ∧ i = .int .i64 j ∧ runS m (lst.take j) = some mj ∧ OkS mj ∧ SL B q mj wr ∧ wr.ownsRow B1 73 14 (.slice a n c) n (fcE.row lst) ∧ FitR B w wr) (fun i _ => n - (intOf i).toNat)
 case atStart => exact ⟨0, m, Nat.zero_le _, rfl, rfl, HOK.out, HSL.out, HO.out, FitR.refl B w⟩
 case round =>
  obtain ⟨j, mj, hj, rfl, hm, hok, hsl, ho, hf⟩ := hrel; obtain ⟨kk, hkk⟩ : ∃ x : Int, (j : Int) = x := ⟨_, rfl⟩
  rw [hkk]; have HKK := hD hkk; have FR' := hD hf
  by_cases hlt : j < n
  ·have hjl : kk < N := by have := HNN.out; omega
   have hk0 : 0 ≤ kk := by omega
   have htk : kk.toNat = j := by omega
   have hN8 : N ≤ 60 := by have := HNN.out; have := HL.out; omega
   have hw1 : wrap64 (kk + 1) = kk + 1 := IntWalk.wrap64_in _ (by omega); have HLT := hD hlt; have hjx : j < lst.length := by have := HN.out; omega
   obtain ⟨mk, hap0, hrk⟩ := run_step HRUN.out j hjx hm; have hwfj := HW.out _ (List.getElem_mem hjx); obtain ⟨gp, ck, ev, hck, _, _, _, hc0⟩ := cQ (E := fcE) ho HN.out hlt; have hc : ∀ (i : Nat) (u : Value), i < 14 → (fcE.enc (lst[j]'hjx))[i]? = some u → wr.cell? ⟨gp, j * 14 + i, none⟩ = some u := hc0; have ea := congrArg (fun v => match v with | Value.slice a _ _ => a | _ => none) ev; dsimp only at ea; subst ea; obtain ⟨⟨fk, fn, fs, fr, fe, fp, fq, fo, fd, fa, ft, fh, fc, fx⟩, hF⟩ : ∃ f, lst[j]'hjx = f := ⟨_, rfl⟩
   rw [hF] at hwfj hap0 hc; rw [← htk] at hc; obtain ⟨zf0, zf1, zf2, zf3, zf4, zf5, zf6, zf7, zf8, zf9, zf10, zf11, zf12, zf13⟩ := cW14 hc; have kb := kA wr (.cells #[fk, fn, fs, fr, fe, fp, fq, fo, fd, fa, ft, fh, fc, fx] 73); obtain ⟨u0, u1, u2, u3, u4, u5, u6, u7, u8, u9, u10, u11, u12, u13⟩ := cZ (mH wr (.cells #[fk, fn, fs, fr, fe, fp, fq, fo, fd, fa, ft, fh, fc, fx] 73)); have hap := SL.apply ((HC.out wr hf).kp kb) ((HE.out wr hf).kp kb) (hsl.kp kb) hok (⟨fk, fn, fs, fr, fe, fp, fq, fo, fd, fa, ft, fh, fc, fx⟩ : FX) hwfj; rw [hap0] at hap; dsimp only [FX.cells] at hap; rw [eN] at hap; have hokk : OkS mk := by have := applyQ_ok (f := (⟨fk, fn, fs, fr, fe, fp, fq, fo, fd, fa, ft, fh, fc, fx⟩ : FX)) hok; rw [hap0] at this; exact this
   obtain ⟨HAP, HRK, HOKK, OR, KB⟩ := hD5 hap hrk hokk ho kb; clear hkk hj hlt hm hok hsl ho hf htk hjx hck ev hc hc0 hF hwfj hap0 hrk hap hokk kb; go_wp2_with (go_at_call 27; (with_reducible refine HAP.out.mono ?_); rintro e' w5 ⟨rfl, s5, d5, x5, k5⟩; have S5 := hD s5; have O5 := hD (own_fit (oK OR.out KB.out) offL_fct x5); have F5 := hD (show FitR B w w5 from ⟨fun B' q' m' h => d5 _ _ _ ((FR'.out.1 B' q' m' h).kp KB.out), fun b cs t ht h => x5 b cs t ht (rZ KB.out (FR'.out.2.1 b cs t ht h)), fun w0 h hb => k5 w0 (kT (FR'.out.2.2 w0 h hb) KB.out) hb⟩); clear s5 d5 x5 k5)
   go_roundw
   case rel => exact ⟨j + 1, mk, by have := HLT.out; omega, by have := HKK.out; first | rw [show ((j + 1 : Nat) : Int) = kk + 1 by omega] | rw [show ((j + 1 : Nat) : Int) = kk + 1 by omega, hw1], HRK.out, HOKK.out, S5.out, O5.out, F5.out⟩
   case measure => have := HKK.out; have := HLT.out; simp [intOf]; omega
  ·have hje : ¬ kk < N := by have := HNN.out; omega
   have hmm : mj = m2 := by rw [List.take_of_length_le (by have := HN.out; omega), HRUN.out] at hm; exact (Option.some.inj hm).symm
   subst hmm; obtain ⟨SF, OKF⟩ := hD2 hsl hok; clear hkk hj hlt hm hok hsl ho hf; go_wp2; go_ret; exact ⟨rfl, SF.out, OKF.out, FR'.out⟩
theorem told_any {B1 : Nat} (lst : List FX) (ms : List MM) (wk : Int) (v : Value) (h : RsV 73 B1 ⟨lst, ms, wk⟩ v w) (h10 : lst.length ≤ 10) : Calls Tryz.prog 12 #[v] w fun r w' => ∃ v', r = .returned v' ∧ RsV 82 0 ⟨lst, ms, wk⟩ v' w' ∧ Kp w w' := by
 obtain ⟨n, hn⟩ : ∃ n, lst.length = n := ⟨_, rfl⟩
 obtain ⟨lm, hlm⟩ : ∃ n, ms.length = n := ⟨_, rfl⟩
 obtain ⟨sa, sc, ma, mc, rfl, hof, hom⟩ := RsV.form (r := ⟨lst, ms, wk⟩) h hn hlm; obtain ⟨N, hN⟩ : ∃ N : Int, (n : Int) = N := ⟨_, rfl⟩
 dsimp only at hof hom ⊢; obtain ⟨HN, HLM, HNN⟩ := hD3 hn hlm hN; have HL := hD (show n ≤ 10 by omega); have K3 := hD (pk3 w (.cells #[.slice sa n sc, .slice ma lm mc, wk] 34) (.cells #[.slice none 0 0, .slice none 0 0, (0:Int)] 39) (.cells #[.slice none 0 0, .slice ma lm mc, wk] 39)); have R0 := hD (p3_0 w (.cells #[.slice sa n sc, .slice ma lm mc, wk] 34) (.cells #[.slice none 0 0, .slice none 0 0, (0:Int)] 39) (.cells #[.slice none 0 0, .slice ma lm mc, wk] 39)); have R1 := hD (p3_1 w (.cells #[.slice sa n sc, .slice ma lm mc, wk] 34) (.cells #[.slice none 0 0, .slice none 0 0, (0:Int)] 39) (.cells #[.slice none 0 0, .slice ma lm mc, wk] 39)); have R2 := hD (p3_2 w (.cells #[.slice sa n sc, .slice ma lm mc, wk] 34) (.cells #[.slice none 0 0, .slice none 0 0, (0:Int)] 39) (.cells #[.slice none 0 0, .slice ma lm mc, wk] 39)); obtain ⟨OF, OM⟩ := hD2 hof hom; have hsf := sF
 obtain ⟨b0, b1, b2⟩ := cellsR3 (nX0 w (.cells #[.slice sa n sc, .slice ma lm mc, wk] 34) (.cells #[.slice none 0 0, .slice none 0 0, (0:Int)] 39)); obtain ⟨b3, b4, b5⟩ := cellsR3 R0.out; clear h h10 hn hlm hof hom; go_enter Tryz.func12, Tryz.ntmps12; go_wp2; go_loopw [14] (fun i wr => ∃ (j : Nat) (a : Option Addr) (c : Nat), j ≤ n ∧ i = .int .i64 j ∧ wr.heap[w.heap.size]? = some (.cells #[.slice sa n sc, .slice ma lm mc, wk] 34) ∧ wr.heap[w.heap.size + 1]? = some (.cells #[.slice none 0 0, .slice none 0 0, (0:Int)] 39) ∧ wr.heap[w.heap.size + 1 + 1]? = some (.cells #[.slice a j c, .slice ma lm mc, wk] 39) ∧ wr.ownsRow w.heap.size 82 14 (.slice a j c) j (fcE.row (lst.take j)) ∧ Kp w wr) (fun i _ => n - (intOf i).toNat)
 case atStart => exact ⟨0, none, 0, Nat.zero_le _, rfl, R0.out, R1.out, R2.out, own_no, K3.out⟩
 case round =>
  obtain ⟨j, a, c, hj, rfl, r0, r1, r2, ho, hk⟩ := hrel; obtain ⟨kk, hkk⟩ : ∃ x : Int, (j : Int) = x := ⟨_, rfl⟩
  rw [hkk]; obtain ⟨HKK, KR, R30, R31, R32, OW⟩ := hD6 hkk hk r0 r1 r2 ho
  by_cases hlt : j < n
  ·have hjl : kk < N := by have := HNN.out; omega
   have hk0 : 0 ≤ kk := by omega
   have htk : kk.toNat = j := by omega
   have hN8 : N ≤ 60 := by have := HNN.out; have := HL.out; omega
   have hw1 : wrap64 (kk + 1) = kk + 1 := IntWalk.wrap64_in _ (by omega); have HLT := hD hlt; have hjx : j < lst.length := by have := HN.out; omega
   obtain ⟨gp, ck, ev, hck, _, _, _, hc0⟩ := cQ (E := fcE) (oK OF.out hk) HN.out hlt; have hc : ∀ (i : Nat) (u : Value), i < 14 → (fcE.enc (lst[j]'hjx))[i]? = some u → wr.cell? ⟨gp, j * 14 + i, none⟩ = some u := hc0; have ea := congrArg (fun v => match v with | Value.slice a _ _ => a | _ => none) ev; dsimp only at ea; have HTK := hD (show lst.take (j + 1) = lst.take j ++ [lst[j]'hjx] from List.take_succ_eq_append_getElem hjx); obtain ⟨⟨fk, fn, fs, fr, fe, fp, fq, fo, fd, fa, ft, fh, fc, fx⟩, hF⟩ : ∃ f, lst[j]'hjx = f := ⟨_, rfl⟩
   rw [hF] at hc HTK; rw [← htk] at hc; subst ea; obtain ⟨zf0, zf1, zf2, zf3, zf4, zf5, zf6, zf7, zf8, zf9, zf10, zf11, zf12, zf13⟩ := cW14 hc; have kb := kA wr (.cells #[fk, fn, fs, fr, fe, fp, fq, fo, fd, fa, ft, fh, fc, fx] 73); have kbb := kT kb (kA (wr.alloc (.cells #[fk, fn, fs, fr, fe, fp, fq, fo, fd, fa, ft, fh, fc, fx] 73)) (.cells #[fk, fn, fs, fr, fe, fp, fq, fo, fd, fa, ft, fh, fc, fx] 82)); obtain ⟨u0, u1, u2, u3, u4, u5, u6, u7, u8, u9, u10, u11, u12, u13⟩ := cZ (mH wr (.cells #[fk, fn, fs, fr, fe, fp, fq, fo, fd, fa, ft, fh, fc, fx] 73)); have oq := own_oneF (w := wr.alloc (.cells #[fk, fn, fs, fr, fe, fp, fq, fo, fd, fa, ft, fh, fc, fx] 73)) (t := 82) (B := w.heap.size) (⟨fk, fn, fs, fr, fe, fp, fq, fo, fd, fa, ft, fh, fc, fx⟩ : FX) (kS (kT hk kb)); rw [show (wr.alloc (.cells #[fk, fn, fs, fr, fe, fp, fq, fo, fd, fa, ft, fh, fc, fx] 73)).heap.size = wr.heap.size + 1 by simp] at oq
   dsimp only [FX.cells] at oq; obtain ⟨OQ, KBB⟩ := hD2 oq kbb; obtain ⟨g0, g1, g2⟩ := cellsR3 (rZ kb r2); obtain ⟨g3, g4, g5⟩ := cellsR3 (rZ kbb r2); clear hkk hj hlt r0 r1 r2 ho hk htk hjx hck ev hc hc0 hF kb kbb oq; go_wp2_with (at_builtin; refine aG (E := fcE) ty_fcD (by decide) _ rfl _ _ rfl w.heap.size _ j (lst.take j) rfl (oK OW.out KBB.out) _ [(⟨fk, fn, fs, fr, fe, fp, fq, fo, fd, fa, ft, fh, fc, fx⟩ : FX)] rfl (qG (E := fcE) (by decide) OQ.out) (by have := HLT.out; have := HL.out; simp; omega) (kS (kT KR.out KBB.out)) ?_)
   rintro v1 u1 o1 hg1 hb1; obtain ⟨a5, c5, rfl⟩ := fG o1; have OX := oK OW.out KBB.out; have U0 := hD ((hg1.block _ (oZ (rZ KBB.out R30.out)) (Ne.symm (own_neP OX (rZ KBB.out R30.out) (by decide)))).trans (rZ KBB.out R30.out)); have U1 := hD ((hg1.block _ (oZ (rZ KBB.out R31.out)) (Ne.symm (own_neP OX (rZ KBB.out R31.out) (by decide)))).trans (rZ KBB.out R31.out)); have U2 := hD ((hg1.block _ (oZ (rZ KBB.out R32.out)) (Ne.symm (own_neP OX (rZ KBB.out R32.out) (by decide)))).trans (rZ KBB.out R32.out)); have KU := hD (show Kp w u1 from Below.grown (kT KR.out KBB.out) hg1 (kS (kT KR.out KBB.out)) (fun b hk => (OX.lt b hk).1)); have OU := hD o1; obtain ⟨s0, s1, s2⟩ := cellsR3 U2.out; have fz := frozN U2.out; clear OX o1 hg1 hb1; go_wp2; go_roundw
   case rel => exact ⟨j + 1, a5, c5, by have := HLT.out; omega, by have := HKK.out; first | rw [show ((j + 1 : Nat) : Int) = kk + 1 by omega] | rw [show ((j + 1 : Nat) : Int) = kk + 1 by omega, hw1], (bS _ _ _ _ (show w.heap.size ≠ w.heap.size + 1 + 1 by omega)).trans U0.out, (bS _ _ _ _ (show w.heap.size + 1 ≠ w.heap.size + 1 + 1 by omega)).trans U1.out, (Joins.block_setCell U2.out _).trans rfl, by rw [HTK.out]; exact sG OU.out (fun b e => bS _ _ _ _ (fun e2 => own_neP OU.out U2.out (by decide) ((show b = w.heap.size + 1 + 1 from e2) ▸ e))), Below.setCell KU.out (show w.heap.size ≤ w.heap.size + 1 + 1 by omega) _⟩
   case measure => have := HKK.out; have := HLT.out; simp [intOf]; omega
  ·have hje : ¬ kk < N := by have := HNN.out; omega
   have hjn : j = n := by omega
   subst hjn; obtain ⟨g0, g1, g2⟩ := cellsR3 r2; obtain ⟨g3, g4, g5⟩ := cellsR3 r1; have fz := frozN r1; have HTE := hD (show lst.take j = lst from List.take_of_length_le (by have := HN.out; omega)); clear hkk hj hlt r0 r1 r2 ho hk; go_wp2; refine bodyPost_ret (results_cell_row (p := 2) rfl _ _ (w.heap.size + 1) 39 _ (0, 0) _ rfl (setR3 _ _ _ R31.out) Tryz.underlying39 rfl (by kernel_rfl)) rfl ?_
   exact ⟨_, rfl, RsV.setN (r := ⟨lst, ms, wk⟩) R31.out (by decide) (by decide) HN.out HLM.out (bG (by have := OW.out; rw [HTE.out] at this; exact this) (Nat.zero_le _)) (bG (oK OM.out KR.out) (Nat.zero_le _)), setR3_kp KR.out (show w.heap.size ≤ w.heap.size + 1 by omega) _ _ _⟩
theorem refSame14_any (f g : FX) (hf : f.wf) (hg : g.wf) (w : World) : Calls Tryz.prog 37 #[.agg f.cells, .agg g.cells] w fun e w' => e = .returned (.bool (sameF f g)) ∧ Kp w w' := by
 have HN := hD (fun w1 => refNumbers_any f w1); have HM := hD (fun w1 => refNumbers_any g w1); have hla : f.nums.length ≤ 1000000 := by show 13 ≤ 1000000; decide
 have hsm : sameF f g = (decide (f.nums = g.nums) && (((Fl.plain f.x : Nat) : Int) == ((Fl.plain g.x : Nat) : Int))) := by
  unfold sameF
  congr 1
  rw [Bool.eq_iff_iff, decide_eq_true_eq, beq_iff_eq]; omega
 obtain ⟨na, hna⟩ : ∃ z, f.nums = z := ⟨_, rfl⟩
 obtain ⟨nb, hnb⟩ : ∃ z, g.nums = z := ⟨_, rfl⟩
 rw [hna, hnb] at hsm; rw [hna] at HN hla; rw [hnb] at HM; clear hna hnb; obtain ⟨k, n, s, r, u, p, q, o, d, a, t, hh, c, x⟩ := f; obtain ⟨k', n', s', r', u', p', q', o', d', a', t', hh', c', x'⟩ := g; have hx : x < 18446744073709551616 := hf; have hx' : x' < 18446744073709551616 := hg; dsimp only [FX.cells] at HN HM hsm ⊢; obtain ⟨HSM, HLE⟩ := hD2 hsm hla; obtain ⟨w2, hw2⟩ : ∃ y, (w.alloc (.cells #[k, n, s, r, u, p, q, o, d, a, t, hh, c, x] 82)).alloc (.cells #[k', n', s', r', u', p', q', o', d', a', t', hh', c', x'] 82) = y := ⟨_, rfl⟩
 have ra : w2.heap[w.heap.size]? = some (.cells #[k, n, s, r, u, p, q, o, d, a, t, hh, c, x] 82) := by rw [← hw2]; exact nX0 w _ _
 have rb : w2.heap[w.heap.size + 1]? = some (.cells #[k', n', s', r', u', p', q', o', d', a', t', hh', c', x'] 82) := by rw [← hw2]; exact nX1 w _ _
 have kw : Kp w w2 := by rw [← hw2]; exact kT (kA _ _) (kA _ _)
 obtain ⟨a0, a1, a2, a3, a4, a5, a6, a7, a8, a9, a10, a11, a12, a13⟩ := cZ ra; obtain ⟨b0, b1, b2, b3, b4, b5, b6, b7, b8, b9, b10, b11, b12, b13⟩ := cZ rb; have KW := hD kw; clear hf hg ra rb kw hsm hla; go_enter Tryz.func37, Tryz.ntmps37; go_wp2
 try rw [hw2]
 clear hw2; refine rgW (fun w' => Kp w2 w') ?_ fun hH => ?_
 ·exact (Kp.refl w2).drew
 refine tkP 0 ?_ (y := by intro w hZ; obtain ⟨q0, q1, q2, q3, q4, q5, q6, q7, q8, q9, q10, q11, q12, q13⟩ := kZ14 hZ a0 a1 a2 a3 a4 a5 a6 a7 a8 a9 a10 a11 a12 a13; go_simp; try rfl)
 go_simp; refine tkP 2 ?_ (y := by intro w hZ; obtain ⟨q0, q1, q2, q3, q4, q5, q6, q7, q8, q9, q10, q11, q12, q13⟩ := kZ14 hZ b0 b1 b2 b3 b4 b5 b6 b7 b8 b9 b10 b11 b12 b13; go_simp; try rfl)
 go_simp; refine rdW 1 fun K hK => ?_
 go_simp; go_wp2_with (go_at_call 82; (with_reducible refine (HN.out _).mono ?_); rintro e w4 ⟨g4, rfl, ho4, hk4⟩; have HO4 := hD ho4; have K4 := hD (kT hH hk4); have KD4 := hD hk4; clear ho4 hk4)
 refine hK.out _ _ (K4.out) fun hH => ?_
 clear hK K; refine rdW 3 fun K hK => ?_
 go_simp; go_wp2_with (go_at_call 82; (with_reducible refine (HM.out _).mono ?_); rintro e w5 ⟨g5, rfl, ho5, hk5⟩; have HO5 := hD ho5; have K5 := hD (kT hH hk5); have KD5 := hD hk5; clear ho5 hk5)
 refine hK.out _ _ (K5.out) fun hH => ?_
 clear hK K; refine rdW 4 fun K hK => ?_
 go_simp; go_wp2_with (go_at_call 81; (with_reducible refine (sameInts_any _ _ _ _ HLE.out _ (own_sli (oK HO4.out KD5.out)) (own_sli HO5.out)).mono ?_); rintro e w6 ⟨rfl, hk6⟩; have K6 := hD (kT hH hk6); clear hk6)
 refine hK.out _ _ (K6.out) fun hH => ?_
 clear hK K; obtain ⟨vn, hvn⟩ : ∃ z, decide (na = nb) = z := ⟨_, rfl⟩
 rw [hvn] at HSM ⊢; clear hvn
 cases vn with
 | false =>
  refine tkP 5 ?_
  go_simp; refine skW 6 ?_
  go_simp; refine skW 7 ?_
  go_simp; refine skW 8 ?_
  go_simp; refine skW 9 ?_
  go_simp; refine skW 10 ?_
  go_simp; refine skW 11 ?_
  go_simp; refine skW 12 ?_
  go_simp; refine tkP 13 ?_
  go_simp; refine tkP 14 ?_
  go_simp; refine dnW ?_ _
  go_wp2; go_ret; exact ⟨by rw [HSM.out]; rfl, kT KW.out hH⟩
 | true =>
  refine tkP 5 ?_
  go_simp; refine tkP 6 ?_
  go_simp; refine tkP 7 ?_ (y := by intro w hZ; have q := kZ hZ a13; go_simp; try rfl)
  go_simp; refine tkP 9 ?_
  go_simp; refine tkP 10 ?_ (y := by intro w hZ; have q := kZ hZ b13; go_simp; try rfl)
  go_simp; refine rdW 8 fun K hK => ?_
  go_simp; go_wp2_with (go_at_call 83; (with_reducible refine (refBits_any x _ hx).mono ?_); rintro e w' ⟨rfl, rfl⟩)
  refine hK.out _ _ (hH) fun hH => ?_
  clear hK K; refine rdW 11 fun K hK => ?_
  go_simp; go_wp2_with (go_at_call 83; (with_reducible refine (refBits_any x' _ hx').mono ?_); rintro e w' ⟨rfl, rfl⟩)
  refine hK.out _ _ (hH) fun hH => ?_
  clear hK K; refine tkP 12 ?_
  go_simp; refine tkP 13 ?_
  go_simp; refine tkP 14 ?_
  go_simp; refine dnW ?_ _
  go_wp2; go_ret; exact ⟨by rw [HSM.out]; rfl, kT KW.out hH⟩
end Go.Proofs.YtncoofnhifcnhaaGreatDoor
