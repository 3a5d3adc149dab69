/- Parts of this proof (own work). -/
import Derived.Test.YtncoofnhifcnhaaGreatDoorZt07
import Derived.Deep.Cut
import Derived.Laws.Bits64b
set_option maxRecDepth 100000
set_option maxHeartbeats 40000000
namespace Go.Proofs.YtncoofnhifcnhaaGreatDoor
open Go.RowKit Go.ChangeShapes Go.WideShapes
def SlFc (v : Value) (fs : List FX) (w : World) : Prop :=
 ∃ a cap, v = .slice a fs.length cap ∧ ∀ (j : Nat) (h : j < fs.length), ∃ b off, a = some ⟨b, off, none⟩ ∧ fs[j].wf ∧ ∀ i u, fs[j].cells[i]? = some u → w.cell? ⟨b, off + j * 14 + i, none⟩ = some u
theorem SlFc.kp {v : Value} {fs : List FX} {w w' : World} (h : SlFc v fs w) (hk : Kp w w') : SlFc v fs w' := by
 obtain ⟨a, cap, h1, h2⟩ := h; refine ⟨a, cap, h1, fun j hj => ?_⟩
 obtain ⟨b, off, h3, h4, h5⟩ := h2 j hj; exact ⟨b, off, h3, h4, fun i u hu => kZ hk (h5 i u hu)⟩
theorem SlFc.at {a : Option Addr} {n cap : Nat} {fs : List FX} {w : World} (h : SlFc (.slice a n cap) fs w) (j : Nat) (hj : j < fs.length) :
  ∃ b off, a = some ⟨b, off, none⟩ ∧ fs[j].wf ∧ ∀ i u, fs[j].cells[i]? = some u → w.cell? ⟨b, off + j * 14 + i, none⟩ = some u := by
 obtain ⟨a', cap', h1, h2⟩ := h; injection h1 with h1 _ _
 subst h1; exact h2 j hj
theorem fct_cells {H : Type} {enc : TypeId × Value → H} {W : World} {fuel : Nat} {cs : List Value} (hsz : cs.length = 14) {x : DataW H × List MemPlace}
  (hf : DataW.trod enc Tryz.prog W 0 (fun _ => true) true fuel 73 cs = some x) : ∃ c : FX, cs = c.cells.toList ∧ c.wf := by
 have h14 : Tryz.prog.cellsOf 73 = 14 := by kernel_rfl
 have h1 : Tryz.prog.cellsOf 3 = 1 := by kernel_rfl
 have hf1 : Tryz.prog.cellsOf 58 = 1 := by kernel_rfl
 have h2 : Tryz.prog.cellsOf 24 = 2 := by kernel_rfl
 match cs, hsz with
 | [c0, c1, c2, c3, c4, c5, c6, c7, c8, c9, c10, c11, c12, c13], _ =>
  obtain ⟨xs, n, _, _, _, hlen, hfs⟩ := DataW.trod_struct Tryz.underlying73 hf; have g0 := hfs 0 _ rfl; have g1 := hfs 1 _ rfl; have g2 := hfs 2 _ rfl; have g3 := hfs 3 _ rfl; have g4 := hfs 4 _ rfl; have g5 := hfs 5 _ rfl; have g6 := hfs 6 _ rfl; have g7 := hfs 7 _ rfl; have g8 := hfs 8 _ rfl; have g9 := hfs 9 _ rfl; have g10 := hfs 10 _ rfl; have g11 := hfs 11 _ rfl; have g12 := hfs 12 _ rfl; have e13 : xs.length = 13 := hlen
  match xs, e13 with
  | [x0, x1, x2, x3, x4, x5, x6, x7, x8, x9, x10, x11, x12], _ =>
   obtain ⟨y0, rfl⟩ := one_int9 (v := c0) g0 (by simp [h1]); obtain ⟨y3, rfl⟩ := one_int9 (v := c3) g2 (by simp [h1]); obtain ⟨y4, rfl⟩ := one_int9 (v := c4) g3 (by simp [h1]); obtain ⟨y5, rfl⟩ := one_int9 (v := c5) g4 (by simp [h1]); obtain ⟨y6, rfl⟩ := one_int9 (v := c6) g5 (by simp [h1]); obtain ⟨y7, rfl⟩ := one_int9 (v := c7) g6 (by simp [h1]); obtain ⟨y8, rfl⟩ := one_int9 (v := c8) g7 (by simp [h1]); obtain ⟨y9, rfl⟩ := one_int9 (v := c9) g8 (by simp [h1]); obtain ⟨y10, rfl⟩ := one_int9 (v := c10) g9 (by simp [h1]); obtain ⟨y11, rfl⟩ := one_int9 (v := c11) g10 (by simp [h1]); obtain ⟨y12, rfl⟩ := one_int9 (v := c12) g11 (by simp [h1]); obtain ⟨y13, rfl, w13⟩ := one_float9 (v := c13) g12 (by simp [hf1]); obtain ⟨z3, z4, k, _, _, a0, a1⟩ := trod_struct2 Tryz.underlying24 g1; obtain ⟨y1, rfl⟩ := one_int9 (v := c1) a0 (by simp [h1, h2]); obtain ⟨y2, rfl⟩ := one_int9 (v := c2) a1 (by simp [h1, h2])
   exact ⟨⟨y0, y1, y2, y3, y4, y5, y6, y7, y8, y9, y10, y11, y12, y13⟩, rfl, w13⟩
theorem open_fcts {H : Type} {enc : TypeId × Value → H} {W : World} {r : Reach} {b0 : Nat} {v : Value} {d : DataW H} {ps : List MemPlace}
  (hval : Value.okWide Tryz.prog W r b0 22 v) (h : DataW.Trod enc Tryz.prog W 0 (fun _ => true) true 22 v d ps) : ∃ fs : List FX, SlFc v fs W ∧ fs.length ≤ maxLen := by
 have ce : Tryz.prog.cellsOf 73 = 14 := by kernel_rfl
 obtain ⟨a0, len0, cap0, rfl⟩ := okWide_slice Tryz.underlying22 hval; obtain ⟨fuel, hf⟩ := h
 rcases Deep.open_slice Tryz.underlying22 hf with ⟨hcs, hx⟩ | ⟨a, len, cap, m, n, D, Pl, hcs, _, hl, hm, hmm, hx, hcell⟩
 ·simp [Value.cells] at hcs
  obtain ⟨rfl, rfl, rfl⟩ := hcs; exact ⟨[], ⟨none, 0, rfl, fun j hj => by cases hj⟩, by simp⟩
 ·simp [Value.cells] at hcs
  obtain ⟨rfl, rfl, rfl⟩ := hcs; simp only [if_true] at hmm
  have hsp : 0 < len0 → a.spot = none := by
   intro h0; obtain ⟨cs', h1, h2⟩ := hcell 0 (by omega); rw [ce] at h1; obtain ⟨_, hlen, hcl⟩ := World.cells?_some h1; obtain ⟨o, rfl, -⟩ := fct_cells (by simpa using hlen) h2; have q0 := hcl 0 (by omega); rw [Deep.add_add] at q0
   simpa [Addr.add] using World.cell?_spot q0
  have hel : ∀ i, i < len0 → ∃ o : FX, ∃ b off, a = ⟨b, off, none⟩ ∧ o.wf ∧ ∀ k u, o.cells[k]? = some u → W.cell? ⟨b, off + i * 14 + k, none⟩ = some u := by
   intro i hi; obtain ⟨cs', h1, h2⟩ := hcell i (by omega); rw [ce] at h1; obtain ⟨_, hlen, hcl⟩ := World.cells?_some h1; obtain ⟨o, ho, hw⟩ := fct_cells (by simpa using hlen) h2; subst ho; obtain ⟨b, off, spot⟩ := a; obtain rfl : spot = none := hsp (by omega); refine ⟨o, b, off, rfl, hw, fun k u hu => ?_⟩
   have hk : k < 14 := (Array.getElem?_eq_some_iff.1 hu).1; have q := hcl k (by omega); rw [Deep.add_add, add_plain, Array.getElem?_toList, hu] at q; rw [Nat.add_assoc]; exact q
  let f : Nat → FX := fun i => if h : i < len0 then (hel i h).choose else noF
  refine ⟨(List.range len0).map f, ⟨some a, cap0, by simp, fun j hj => ?_⟩, by simp; omega⟩
  have hj' : j < len0 := by simpa using hj
  have e : f j = (hel j hj').choose := by show (if h : j < len0 then (hel j h).choose else noF) = _; rw [dif_pos hj']
  obtain ⟨b, off, h1, h2, h3⟩ := (hel j hj').choose_spec; refine ⟨b, off, by rw [h1], ?_⟩
  rw [List.getElem_map, List.getElem_range, e]; exact ⟨h2, h3⟩
variable {w0 w w' W w3 : World} {B : Nat} {ads : List Addr}
def mmE : EncG MM where
 enc g := [.int .i64 g.k, .int .i64 g.f, .int .i64 g.t, .int .i64 g.n, .int .i64 g.s, .int .i64 g.r, .int .i64 g.p, .int .i64 g.o, .int .i64 g.c]
 k := 9
 len := fun _ => rfl
 one := by
  intro x u hu; simp only [List.mem_cons, List.not_mem_nil, or_false] at hu
  rcases hu with rfl | rfl | rfl | rfl | rfl | rfl | rfl | rfl | rfl <;> rfl
theorem info_mm0 : (Tryz.prog.info? 26).map (fun i => (i.zero, i.size, i.bytes)) = some (some (.agg #[(0:Int), (0:Int), (0:Int), (0:Int), (0:Int), (0:Int), (0:Int), (0:Int), (0:Int)]), 9, 72) := by kernel_rfl
theorem info_mm : ∃ i0, Tryz.prog.info? 26 = some i0 ∧ i0.zero = some (.agg #[(0:Int), (0:Int), (0:Int), (0:Int), (0:Int), (0:Int), (0:Int), (0:Int), (0:Int)]) ∧ i0.size = 9 ∧ i0.bytes = 72 := by
 have h := info_mm0
 cases g : Tryz.prog.info? 26 with
 | none => rw [g] at h; cases h
 | some i0 =>
  rw [g] at h; simp only [Option.map_some, Option.some.injEq, Prod.mk.injEq] at h
  exact ⟨i0, rfl, h.1, h.2.1, h.2.2⟩
theorem ty_mm : TyG Tryz.prog 32 26 9 (.agg #[(0:Int), (0:Int), (0:Int), (0:Int), (0:Int), (0:Int), (0:Int), (0:Int), (0:Int)]) 72 := ⟨Tryz.underlying32, info_mm, rfl, by decide⟩
theorem own_oneM {w : World} {B : Nat} (g : MM) (hb : B ≤ w.heap.size) : (w.alloc (.cells g.cells 26)).ownsRow B 26 9 (.slice (some ⟨w.heap.size, 0, none⟩) 1 1) 1 (mmE.row [g]) := by
 have := World.ownsRow_lit (base := B) (e := 26) (size := 9) w g.cells 1 hb (by decide) rfl; rw [show mmE.row [g] = g.cells.toList by unfold EncG.row; simp [mmE, MM.cells]]; exact this
theorem own_no {w : World} {B k : Nat} {t : TypeId} : w.ownsRow B t k (.slice none 0 0) 0 [] := ⟨by simp, .inl ⟨rfl, rfl⟩⟩
def RsV (t : TypeId) (B : Nat) (r : RsM) (v : Value) (w : World) : Prop := ∃ vf vs, v = .agg #[vf, vs, .int .i64 r.work] ∧ w.ownsRow B t 14 vf r.facts.length (fcE.row r.facts) ∧ w.ownsRow B 26 9 vs r.send.length (mmE.row r.send)
theorem RsV.kp {t : TypeId} {r : RsM} {v : Value} (h : RsV t B r v w) (hk : Kp w w') : RsV t B r v w' := by obtain ⟨vf, vs, rfl, h1, h2⟩ := h; exact ⟨vf, vs, rfl, oK h1 hk, oK h2 hk⟩
theorem RsV.base {t : TypeId} {r : RsM} {v : Value} {B' : Nat} (h : RsV t B r v w) (hb : B' ≤ B) : RsV t B' r v w := by obtain ⟨vf, vs, rfl, h1, h2⟩ := h; exact ⟨vf, vs, rfl, bG h1 hb, bG h2 hb⟩
theorem RsV.form {t : TypeId} {r : RsM} {v : Value} {lf lm : Nat} (h : RsV t B r v w) (hf : r.facts.length = lf) (hm : r.send.length = lm) : ∃ fa fc ma mc, v = .agg #[.slice fa lf fc, .slice ma lm mc, .int .i64 r.work] ∧ w.ownsRow B t 14 (.slice fa lf fc) lf (fcE.row r.facts) ∧ w.ownsRow B 26 9 (.slice ma lm mc) lm (mmE.row r.send) := by
 subst hf hm; obtain ⟨vf, vs, rfl, h1, h2⟩ := h; obtain ⟨fa, fc, rfl⟩ := fG h1; obtain ⟨ma, mc, rfl⟩ := fG h2; exact ⟨fa, fc, ma, mc, rfl, h1, h2⟩
theorem RsV.zero (t : TypeId) (B : Nat) (w : World) : RsV t B rs0 (.agg #[.slice none 0 0, .slice none 0 0, (0:Int)]) w := ⟨_, _, rfl, own_no, own_no⟩
theorem own_neP {B' k n b : Nat} {e t : TypeId} {v : Value} {xs : List Value} {cs : Array Value} (h : w.ownsRow B' e k v n xs) (r : w.heap[b]? = some (.cells cs t (0, 0))) (ne : t ≠ e) : v.ownBlock ≠ some b := fun e2 => by
 obtain ⟨c, h1⟩ := own_kindQ h b e2; rw [r] at h1; injection h1 with h1
 injection h1 with _ h1 _
 exact ne h1
def ResB (RT t : TypeId) (B p : Nat) (r : RsM) (w : World) : Prop := ∃ a n c a' n' c', w.heap[p]? = some (.cells #[.slice a n c, .slice a' n' c', .int .i64 r.work] RT (0, 0)) ∧ r.facts.length = n ∧ r.send.length = n' ∧ w.ownsRow B t 14 (.slice a n c) n (fcE.row r.facts) ∧ w.ownsRow B 26 9 (.slice a' n' c') n' (mmE.row r.send)
theorem RsV.set {RT t : TypeId} {p : Nat} {r : RsM} {vf vs x0 x1 x2 : Value} (R1 : w.heap[p]? = some (.cells #[x0, x1, x2] RT (0, 0))) (ne : RT ≠ t) (nm : RT ≠ 26) (h1 : w.ownsRow B t 14 vf r.facts.length (fcE.row r.facts)) (h2 : w.ownsRow B 26 9 vs r.send.length (mmE.row r.send)) : RsV t B r (.agg #[vf, vs, .int .i64 r.work]) (((w.setCell ⟨p, 0, none⟩ vf).setCell ⟨p, 1, none⟩ vs).setCell ⟨p, 2, none⟩ (.int .i64 r.work)) :=
 ⟨vf, vs, rfl, sG h1 (fun _ e => setR3_ne _ _ _ (fun e2 => own_neP h1 R1 ne (e2 ▸ e))), sG h2 (fun _ e => setR3_ne _ _ _ (fun e2 => own_neP h2 R1 nm (e2 ▸ e)))⟩
theorem RsV.setN {RT t : TypeId} {p n n' : Nat} {r : RsM} {vf vs x0 x1 x2 : Value} (R1 : w.heap[p]? = some (.cells #[x0, x1, x2] RT (0, 0))) (ne : RT ≠ t) (nm : RT ≠ 26) (hn : r.facts.length = n) (hm : r.send.length = n') (h1 : w.ownsRow B t 14 vf n (fcE.row r.facts)) (h2 : w.ownsRow B 26 9 vs n' (mmE.row r.send)) : RsV t B r (.agg #[vf, vs, .int .i64 r.work]) (((w.setCell ⟨p, 0, none⟩ vf).setCell ⟨p, 1, none⟩ vs).setCell ⟨p, 2, none⟩ (.int .i64 r.work)) := by
 subst hn hm; exact RsV.set R1 ne nm h1 h2
variable {w0 w w' W w3 : World} {ads : List Addr}
theorem kAnswer (g : MM) (k c : Int) : Calls Tryz.prog 32 #[.agg g.cells, .int .i64 k, .int .i64 c] w fun r w' => ∃ v, r = .returned v ∧ RsV 73 w.heap.size ⟨[], [answerM g k c], 0⟩ v w' ∧ Kp w w' := by
 have HA := hD (fun w => answer_any g k c w); obtain ⟨gk, gf, gt, gn, gs, gr, gp, go, gc⟩ := g; dsimp only [MM.cells, answerM] at HA ⊢; have r0 := hD (nX0 w (.cells #[gk, gf, gt, gn, gs, gr, gp, go, gc] 26) (.cells #[.slice none 0 0, .slice none 0 0, (0:Int)] 34)); have r1 := hD (nX1 w (.cells #[gk, gf, gt, gn, gs, gr, gp, go, gc] 26) (.cells #[.slice none 0 0, .slice none 0 0, (0:Int)] 34)); have K2 := hD (pk2 w (.cells #[gk, gf, gt, gn, gs, gr, gp, go, gc] 26) (.cells #[.slice none 0 0, .slice none 0 0, (0:Int)] 34)); obtain ⟨a0, a1, a2, a3, a4, a5, a6, a7, a8⟩ := cells9 r0.out; go_enter Tryz.func32, Tryz.ntmps32; go_wp2_with (go_at_call 78; (with_reducible refine (HA.out _).mono ?_); rintro e' w3 ⟨rfl, hk3⟩; have kz := kT hk3 (kA w3 (.cells #[k, gt, gf, gn, gs, gr, gp, (0:Int), c] 26)); have K3 := hD (kT K2.out kz); have R1 := hD (rZ kz r1.out); have OM := hD (own_oneM (w := w3) (B := w.heap.size) (⟨k, gt, gf, gn, gs, gr, gp, 0, c⟩ : MM) (kS (kT K2.out hk3))); obtain ⟨d0, d1, d2⟩ := cellsR3 R1.out; have f1 := frozN R1.out; clear hk3 kz)
 refine bodyPost_ret (results_cell_row (p := 6) rfl _ _ (w.heap.size + 1) 34 _ (0, 0) _ rfl (setR3 (.slice none 0 0) (.slice (some ⟨w3.heap.size, 0, none⟩) 1 1) (.int .i64 0) R1.out) Tryz.underlying34 rfl (by kernel_rfl)) rfl ?_
 exact ⟨_, rfl, RsV.set R1.out (by decide) (by decide) own_no OM.out, setR3_kp K3.out (by simp) _ _ _⟩
def RwB (w : World) (K E Z : Obj) (r : RsM) (w' : World) : Prop := w'.heap[w.heap.size]? = some K ∧ w'.heap[w.heap.size + 1]? = some E ∧ w'.heap[w.heap.size + 1 + 1]? = some Z ∧ ResB 34 73 w.heap.size (w.heap.size + 1 + 1 + 1) r w' ∧ Kp w w'
theorem kResult (xn xs xr y1 y2 y3 y4 nd i : Int) (e1 e2 e3 e4 es ef ew : Int) (ec : Bool) (rg : Int) : Calls Tryz.prog 45 #[.agg #[xn, xs, xr, y1, y2, y3, y4, nd, i], .agg #[e1, e2, e3, e4, es, ef, ew, .bool ec], .int .i64 rg] w fun r w' => ∃ v, r = .returned v ∧ RsV 73 w.heap.size ⟨(if ec = true then [(⟨8, 0, 0, 0, 0, i, 0, 0, 0, 0, e3, e4, 0, 0⟩ : FX)] else []), (if es ≠ 0 then [(⟨es, nd, xn, xn, xs, rg, i, 0, 0⟩ : MM)] else []), ew⟩ v w' ∧ Kp w w' := by
 have HT := hD (fun w => kTurns (w := w) xn xs xr y1 y2 y3 y4 nd i e1 e2 e3 e4); have HM := hD (fun w => kMessage (w := w) xn xs xr y1 y2 y3 y4 nd i es rg); obtain ⟨FS, hFS⟩ : ∃ x, (if ec = true then [(⟨8, 0, 0, 0, 0, i, 0, 0, 0, 0, e3, e4, 0, 0⟩ : FX)] else []) = x := ⟨_, rfl⟩
 obtain ⟨MS, hMS⟩ : ∃ x, (if es ≠ 0 then [(⟨es, nd, xn, xn, xs, rg, i, 0, 0⟩ : MM)] else []) = x := ⟨_, rfl⟩
 rw [hFS, hMS]; obtain ⟨HFS, HMS⟩ := hD2 hFS hMS; have k4 : Kp w ((((w.alloc (.cells #[xn, xs, xr, y1, y2, y3, y4, nd, i] 84)).alloc (.cells #[e1, e2, e3, e4, es, ef, ew, .bool ec] 103)).alloc (.cells #[.slice none 0 0, .slice none 0 0, (0:Int)] 34)).alloc (.cells #[.slice none 0 0, .slice none 0 0, ew] 34)) := kT (pk3 w (.cells #[xn, xs, xr, y1, y2, y3, y4, nd, i] 84) (.cells #[e1, e2, e3, e4, es, ef, ew, .bool ec] 103) (.cells #[.slice none 0 0, .slice none 0 0, (0:Int)] 34)) (kA _ _); have r0 : ((((w.alloc (.cells #[xn, xs, xr, y1, y2, y3, y4, nd, i] 84)).alloc (.cells #[e1, e2, e3, e4, es, ef, ew, .bool ec] 103)).alloc (.cells #[.slice none 0 0, .slice none 0 0, (0:Int)] 34)).alloc (.cells #[.slice none 0 0, .slice none 0 0, ew] 34)).heap[w.heap.size]? = some (.cells #[xn, xs, xr, y1, y2, y3, y4, nd, i] 84) := rZ (kA _ _) (p3_0 w _ _ _); have r1 : ((((w.alloc (.cells #[xn, xs, xr, y1, y2, y3, y4, nd, i] 84)).alloc (.cells #[e1, e2, e3, e4, es, ef, ew, .bool ec] 103)).alloc (.cells #[.slice none 0 0, .slice none 0 0, (0:Int)] 34)).alloc (.cells #[.slice none 0 0, .slice none 0 0, ew] 34)).heap[w.heap.size + 1]? = some (.cells #[e1, e2, e3, e4, es, ef, ew, .bool ec] 103) := rZ (kA _ _) (p3_1 w _ _ _)
 have r2 : ((((w.alloc (.cells #[xn, xs, xr, y1, y2, y3, y4, nd, i] 84)).alloc (.cells #[e1, e2, e3, e4, es, ef, ew, .bool ec] 103)).alloc (.cells #[.slice none 0 0, .slice none 0 0, (0:Int)] 34)).alloc (.cells #[.slice none 0 0, .slice none 0 0, ew] 34)).heap[w.heap.size + 1 + 1]? = some (.cells #[.slice none 0 0, .slice none 0 0, (0:Int)] 34) := rZ (kA _ _) (p3_2 w _ _ _); have r3 : ((((w.alloc (.cells #[xn, xs, xr, y1, y2, y3, y4, nd, i] 84)).alloc (.cells #[e1, e2, e3, e4, es, ef, ew, .bool ec] 103)).alloc (.cells #[.slice none 0 0, .slice none 0 0, (0:Int)] 34)).alloc (.cells #[.slice none 0 0, .slice none 0 0, ew] 34)).heap[w.heap.size + 1 + 1 + 1]? = some (.cells #[.slice none 0 0, .slice none 0 0, ew] 34) := by
  have := (mH (((w.alloc (.cells #[xn, xs, xr, y1, y2, y3, y4, nd, i] 84)).alloc (.cells #[e1, e2, e3, e4, es, ef, ew, .bool ec] 103)).alloc (.cells #[.slice none 0 0, .slice none 0 0, (0:Int)] 34)) (.cells #[.slice none 0 0, .slice none 0 0, ew] 34))
  rwa [show (((w.alloc (.cells #[xn, xs, xr, y1, y2, y3, y4, nd, i] 84)).alloc (.cells #[e1, e2, e3, e4, es, ef, ew, .bool ec] 103)).alloc (.cells #[.slice none 0 0, .slice none 0 0, (0:Int)] 34)).heap.size = w.heap.size + 1 + 1 + 1 by simp] at this
 obtain ⟨i0, i1, i2, i3, i4, i5, i6, i7⟩ := c8X (p3_1 w (.cells #[xn, xs, xr, y1, y2, y3, y4, nd, i] 84) (.cells #[e1, e2, e3, e4, es, ef, ew, .bool ec] 103) (.cells #[.slice none 0 0, .slice none 0 0, (0:Int)] 34)); obtain ⟨j0, j1, j2, j3, j4, j5, j6, j7⟩ := c8X r1; obtain ⟨K4, R0, R1, R2, R3⟩ := hD5 k4 r0 r1 r2 r3; clear k4 r0 r1 r2 r3 hFS hMS; go_enter Tryz.func45, Tryz.ntmps45; go_upto_if 12 with fail
 go_cut [] from 8 (fun w' => RwB w (.cells #[xn, xs, xr, y1, y2, y3, y4, nd, i] 84) (.cells #[e1, e2, e3, e4, es, ef, ew, .bool ec] 103) (.cells #[.slice none 0 0, .slice none 0 0, (0:Int)] 34) ⟨FS, [], ew⟩ w')
 case first =>
  cases ec
  ·have hE : FS = [] := HFS.out.symm; subst hE; clear HFS; go_wp2_with fail
   go_meet
   case rel => exact ⟨R0.out, R1.out, R2.out, ⟨_, _, _, _, _, _, R3.out, rfl, rfl, own_no, own_no⟩, K4.out⟩
  ·have hE : FS = [(⟨8, 0, 0, 0, 0, i, 0, 0, 0, 0, e3, e4, 0, 0⟩ : FX)] := HFS.out.symm; subst hE; clear HFS; go_wp2_with fail
   obtain ⟨WD, hWD⟩ : ∃ x, (((((w.alloc (.cells #[xn, xs, xr, y1, y2, y3, y4, nd, i] 84)).alloc (.cells #[e1, e2, e3, e4, es, ef, ew, .bool true] 103)).alloc (.cells #[.slice none 0 0, .slice none 0 0, (0:Int)] 34)).alloc (.cells #[.slice none 0 0, .slice none 0 0, ew] 34))).drew = x := ⟨_, rfl⟩
   have kD : Kp (((((w.alloc (.cells #[xn, xs, xr, y1, y2, y3, y4, nd, i] 84)).alloc (.cells #[e1, e2, e3, e4, es, ef, ew, .bool true] 103)).alloc (.cells #[.slice none 0 0, .slice none 0 0, (0:Int)] 34)).alloc (.cells #[.slice none 0 0, .slice none 0 0, ew] 34))) WD := by rw [← hWD]; exact dQ (Kp.refl _)
   have HWD := hD hWD; have kDD := Kp.refl WD; clear hWD; have R3D := hD (rZ kD R3.out); have HC3 := hD (cellsR3 R3D.out).1; refine rgW (fun w' => w'.heap[w.heap.size]? = some (.cells #[xn, xs, xr, y1, y2, y3, y4, nd, i] 84) ∧ w'.heap[(w.heap.size + 1)]? = some (.cells #[e1, e2, e3, e4, es, ef, ew, .bool true] 103) ∧ w'.heap[(w.heap.size + 1 + 1)]? = some (.cells #[.slice none 0 0, .slice none 0 0, (0:Int)] 34) ∧ Kp w w') ?_ fun hH => ?_
   ·exact by rw [HWD.out]; exact ⟨rZ kD R0.out, rZ kD R1.out, rZ kD R2.out, kT K4.out kD⟩
   rw [HWD.out] at hH ⊢; refine tkP 0 ?_
   go_simp; refine tkP 2 ?_ (y := by intro w hZ; obtain ⟨y0, y1, y2, y3, y4, y5, y6, y7, y8⟩ := cells9 hZ.1; go_simp; try rfl)
   go_simp; refine tkP 3 ?_
   go_simp; refine tkP 4 ?_ (y := by intro w hZ; obtain ⟨z0, z1, z2, z3, z4, z5, z6, z7⟩ := c8X hZ.2.1; go_simp; try rfl)
   go_simp; refine wpAnyH_ready (rs := [1, 5]) (by kernel_rfl) (by simp) ?_
   refine aC (fun K hK => ?_) (aC (fun K hK => ?_) aN0)
   ·have gl := kZ kDD HC3.out; go_simp; refine hK.out _ _ (hH) fun hH => ?_
    clear hK K; refine rdW 5 fun K hK => ?_
    go_simp; go_wp2_with (go_at_call 79; (with_reducible refine (HT.out _).mono ?_); rintro e' W3 ⟨rfl, hk3⟩)
    refine hK.out _ _ (⟨rZ hk3 hH.1, rZ hk3 hH.2.1, rZ hk3 hH.2.2.1, kT hH.2.2.2 hk3⟩) fun hH => ?_
    clear hK K; have k3 := kT kDD hk3; refine rdW 6 fun K hK => ?_
    go_simp; refine hK.out _ _ (⟨rZ (kA _ _) hH.1, rZ (kA _ _) hH.2.1, rZ (kA _ _) hH.2.2.1, kT hH.2.2.2 (kA _ _)⟩) fun hH => ?_
    clear hK K; have o4 := own_oneF (t := 73) (w := W3) (B := W3.heap.size) (⟨8, 0, 0, 0, 0, i, 0, 0, 0, 0, e3, e4, 0, 0⟩ : FX) (Nat.le_refl _); obtain ⟨W4, hW4⟩ : ∃ x, W3.alloc (.cells #[(8:Int), (0:Int), (0:Int), (0:Int), (0:Int), i, (0:Int), (0:Int), (0:Int), (0:Int), e3, e4, (0:Int), .float .f64 0] 73) = x := ⟨_, rfl⟩
    have c4 : Kp W3 W4 := by rw [← hW4]; exact kA _ _
    dsimp only [FX.cells, MM.cells] at o4; rw [hW4] at o4; obtain ⟨p4, hp4⟩ : ∃ x, W3.heap.size = x := ⟨_, rfl⟩
    have k4 := kT k3 c4; rw [hp4] at o4; rw [hW4] at hH ⊢
    try rw [hp4]
    clear hW4 hp4 c4; refine wpAnyH_ready (rs := [7]) (by kernel_rfl) (by simp) ?_
    refine AllReadyH.consLG rfl (fun K hK => ?_) aN0
    have P2 := qG (E := fcE) (by decide) o4; have OX := oK (own_no (w := WD) (B := w.heap.size) (k := 14) (t := 73)) k4; go_simp; refine aG (E := fcE) ty_fcL (by decide) _ rfl _ _ rfl w.heap.size _ _ [] rfl OX _ _ rfl P2 ?f3 ?f4 ?_
    case f3 => (first | decide | (simp; done) | (simp; omega))
    case f4 => exact kS hH.2.2.2
    rintro v5 W5 o5 hg hb; obtain ⟨a5, c5, rfl⟩ := fG o5; refine hK.out _ _ (⟨(hg.block _ (oZ hH.1) (Ne.symm (own_neP OX hH.1 (by decide)))).trans hH.1, (hg.block _ (oZ hH.2.1) (Ne.symm (own_neP OX hH.2.1 (by decide)))).trans hH.2.1, (hg.block _ (oZ hH.2.2.1) (Ne.symm (own_neP OX hH.2.2.1 (by decide)))).trans hH.2.2.1, Below.grown hH.2.2.2 hg (kS hH.2.2.2) (fun b hk => (OX.lt b hk).1)⟩) fun hH => ?_
    clear hK K; have r5 := (hg.block _ (oZ (rZ k4 R3D.out)) (Ne.symm (own_neP OX (rZ k4 R3D.out) (by decide)))).trans (rZ k4 R3D.out); clear hg hb P2 OX; refine tkP 8 ?_
    go_simp; refine rdW 9 fun K hK => ?_
    obtain ⟨s0, s1, s2⟩ := cellsR3 r5; have fz5 := frozN r5; go_simp; refine hK.out _ _ (⟨(bS _ _ _ _ (show w.heap.size ≠ w.heap.size + 1 + 1 + 1 by omega)).trans hH.1, (bS _ _ _ _ (show (w.heap.size + 1) ≠ w.heap.size + 1 + 1 + 1 by omega)).trans hH.2.1, (bS _ _ _ _ (show (w.heap.size + 1 + 1) ≠ w.heap.size + 1 + 1 + 1 by omega)).trans hH.2.2.1, Below.setCell hH.2.2.2 (show w.heap.size ≤ w.heap.size + 1 + 1 + 1 by omega) _⟩) fun hH => ?_
    clear hK K; refine dnW ?_ _
    obtain ⟨O5, RR5⟩ := hD2 o5 r5; clear o5; have KZ := hD hH; clear r5; go_wp2_with fail
    go_meet
    case rel => exact ⟨KZ.out.1, KZ.out.2.1, KZ.out.2.2.1, ⟨_, _, _, _, _, _, (Joins.block_setCell RR5.out _).trans rfl, rfl, rfl, sG O5.out (fun b e => bS _ _ _ _ (fun e2 => own_neP O5.out RR5.out (by decide) ((show b = w.heap.size + 1 + 1 + 1 from e2) ▸ e))), own_no⟩, KZ.out.2.2.2⟩
   ·go_simp; go_wp2_with (go_at_call 79; (with_reducible refine (HT.out _).mono ?_); rintro e' W3 ⟨rfl, hk3⟩)
    refine hK.out _ _ (⟨rZ hk3 hH.1, rZ hk3 hH.2.1, rZ hk3 hH.2.2.1, kT hH.2.2.2 hk3⟩) fun hH => ?_
    clear hK K; have k3 := kT kDD hk3; refine wpAnyH_ready (rs := [1, 6]) (by kernel_rfl) (by simp) ?_
    refine aC (fun K hK => ?_) (aC (fun K hK => ?_) aN0)
    ·have gl := kZ k3 HC3.out; go_simp; refine hK.out _ _ (hH) fun hH => ?_
     clear hK K; refine rdW 6 fun K hK => ?_
     go_simp; refine hK.out _ _ (⟨rZ (kA _ _) hH.1, rZ (kA _ _) hH.2.1, rZ (kA _ _) hH.2.2.1, kT hH.2.2.2 (kA _ _)⟩) fun hH => ?_
     clear hK K; have o4 := own_oneF (t := 73) (w := W3) (B := W3.heap.size) (⟨8, 0, 0, 0, 0, i, 0, 0, 0, 0, e3, e4, 0, 0⟩ : FX) (Nat.le_refl _); obtain ⟨W4, hW4⟩ : ∃ x, W3.alloc (.cells #[(8:Int), (0:Int), (0:Int), (0:Int), (0:Int), i, (0:Int), (0:Int), (0:Int), (0:Int), e3, e4, (0:Int), .float .f64 0] 73) = x := ⟨_, rfl⟩
     have c4 : Kp W3 W4 := by rw [← hW4]; exact kA _ _
     dsimp only [FX.cells, MM.cells] at o4; rw [hW4] at o4; obtain ⟨p4, hp4⟩ : ∃ x, W3.heap.size = x := ⟨_, rfl⟩
     have k4 := kT k3 c4; rw [hp4] at o4; rw [hW4] at hH ⊢
     try rw [hp4]
     clear hW4 hp4 c4; refine wpAnyH_ready (rs := [7]) (by kernel_rfl) (by simp) ?_
     refine AllReadyH.consLG rfl (fun K hK => ?_) aN0
     have P2 := qG (E := fcE) (by decide) o4; have OX := oK (own_no (w := WD) (B := w.heap.size) (k := 14) (t := 73)) k4; go_simp; refine aG (E := fcE) ty_fcL (by decide) _ rfl _ _ rfl w.heap.size _ _ [] rfl OX _ _ rfl P2 ?f3 ?f4 ?_
     case f3 => (first | decide | (simp; done) | (simp; omega))
     case f4 => exact kS hH.2.2.2
     rintro v5 W5 o5 hg hb; obtain ⟨a5, c5, rfl⟩ := fG o5; refine hK.out _ _ (⟨(hg.block _ (oZ hH.1) (Ne.symm (own_neP OX hH.1 (by decide)))).trans hH.1, (hg.block _ (oZ hH.2.1) (Ne.symm (own_neP OX hH.2.1 (by decide)))).trans hH.2.1, (hg.block _ (oZ hH.2.2.1) (Ne.symm (own_neP OX hH.2.2.1 (by decide)))).trans hH.2.2.1, Below.grown hH.2.2.2 hg (kS hH.2.2.2) (fun b hk => (OX.lt b hk).1)⟩) fun hH => ?_
     clear hK K; have r5 := (hg.block _ (oZ (rZ k4 R3D.out)) (Ne.symm (own_neP OX (rZ k4 R3D.out) (by decide)))).trans (rZ k4 R3D.out); clear hg hb P2 OX; refine tkP 8 ?_
     go_simp; refine rdW 9 fun K hK => ?_
     obtain ⟨s0, s1, s2⟩ := cellsR3 r5; have fz5 := frozN r5; go_simp; refine hK.out _ _ (⟨(bS _ _ _ _ (show w.heap.size ≠ w.heap.size + 1 + 1 + 1 by omega)).trans hH.1, (bS _ _ _ _ (show (w.heap.size + 1) ≠ w.heap.size + 1 + 1 + 1 by omega)).trans hH.2.1, (bS _ _ _ _ (show (w.heap.size + 1 + 1) ≠ w.heap.size + 1 + 1 + 1 by omega)).trans hH.2.2.1, Below.setCell hH.2.2.2 (show w.heap.size ≤ w.heap.size + 1 + 1 + 1 by omega) _⟩) fun hH => ?_
     clear hK K; refine dnW ?_ _
     obtain ⟨O5, RR5⟩ := hD2 o5 r5; clear o5; have KZ := hD hH; clear r5; go_wp2_with fail
     go_meet
     case rel => exact ⟨KZ.out.1, KZ.out.2.1, KZ.out.2.2.1, ⟨_, _, _, _, _, _, (Joins.block_setCell RR5.out _).trans rfl, rfl, rfl, sG O5.out (fun b e => bS _ _ _ _ (fun e2 => own_neP O5.out RR5.out (by decide) ((show b = w.heap.size + 1 + 1 + 1 from e2) ▸ e))), own_no⟩, KZ.out.2.2.2⟩
    ·go_simp; refine hK.out _ _ (⟨rZ (kA _ _) hH.1, rZ (kA _ _) hH.2.1, rZ (kA _ _) hH.2.2.1, kT hH.2.2.2 (kA _ _)⟩) fun hH => ?_
     clear hK K; have o4 := own_oneF (t := 73) (w := W3) (B := W3.heap.size) (⟨8, 0, 0, 0, 0, i, 0, 0, 0, 0, e3, e4, 0, 0⟩ : FX) (Nat.le_refl _); obtain ⟨W4, hW4⟩ : ∃ x, W3.alloc (.cells #[(8:Int), (0:Int), (0:Int), (0:Int), (0:Int), i, (0:Int), (0:Int), (0:Int), (0:Int), e3, e4, (0:Int), .float .f64 0] 73) = x := ⟨_, rfl⟩
     have c4 : Kp W3 W4 := by rw [← hW4]; exact kA _ _
     dsimp only [FX.cells, MM.cells] at o4; rw [hW4] at o4; obtain ⟨p4, hp4⟩ : ∃ x, W3.heap.size = x := ⟨_, rfl⟩
     have k4 := kT k3 c4; rw [hp4] at o4; rw [hW4] at hH ⊢
     try rw [hp4]
     clear hW4 hp4 c4; refine rdW 1 fun K hK => ?_
     have gl := kZ k4 HC3.out; go_simp; refine hK.out _ _ (hH) fun hH => ?_
     clear hK K; refine wpAnyH_ready (rs := [7]) (by kernel_rfl) (by simp) ?_
     refine AllReadyH.consLG rfl (fun K hK => ?_) aN0
     have P2 := qG (E := fcE) (by decide) o4; have OX := oK (own_no (w := WD) (B := w.heap.size) (k := 14) (t := 73)) k4; go_simp; refine aG (E := fcE) ty_fcL (by decide) _ rfl _ _ rfl w.heap.size _ _ [] rfl OX _ _ rfl P2 ?f3 ?f4 ?_
     case f3 => (first | decide | (simp; done) | (simp; omega))
     case f4 => exact kS hH.2.2.2
     rintro v5 W5 o5 hg hb; obtain ⟨a5, c5, rfl⟩ := fG o5; refine hK.out _ _ (⟨(hg.block _ (oZ hH.1) (Ne.symm (own_neP OX hH.1 (by decide)))).trans hH.1, (hg.block _ (oZ hH.2.1) (Ne.symm (own_neP OX hH.2.1 (by decide)))).trans hH.2.1, (hg.block _ (oZ hH.2.2.1) (Ne.symm (own_neP OX hH.2.2.1 (by decide)))).trans hH.2.2.1, Below.grown hH.2.2.2 hg (kS hH.2.2.2) (fun b hk => (OX.lt b hk).1)⟩) fun hH => ?_
     clear hK K; have r5 := (hg.block _ (oZ (rZ k4 R3D.out)) (Ne.symm (own_neP OX (rZ k4 R3D.out) (by decide)))).trans (rZ k4 R3D.out); clear hg hb P2 OX; refine tkP 8 ?_
     go_simp; refine rdW 9 fun K hK => ?_
     obtain ⟨s0, s1, s2⟩ := cellsR3 r5; have fz5 := frozN r5; go_simp; refine hK.out _ _ (⟨(bS _ _ _ _ (show w.heap.size ≠ w.heap.size + 1 + 1 + 1 by omega)).trans hH.1, (bS _ _ _ _ (show (w.heap.size + 1) ≠ w.heap.size + 1 + 1 + 1 by omega)).trans hH.2.1, (bS _ _ _ _ (show (w.heap.size + 1 + 1) ≠ w.heap.size + 1 + 1 + 1 by omega)).trans hH.2.2.1, Below.setCell hH.2.2.2 (show w.heap.size ≤ w.heap.size + 1 + 1 + 1 by omega) _⟩) fun hH => ?_
     clear hK K; refine dnW ?_ _
     obtain ⟨O5, RR5⟩ := hD2 o5 r5; clear o5; have KZ := hD hH; clear r5; go_wp2_with fail
     go_meet
     case rel => exact ⟨KZ.out.1, KZ.out.2.1, KZ.out.2.2.1, ⟨_, _, _, _, _, _, (Joins.block_setCell RR5.out _).trans rfl, rfl, rfl, sG O5.out (fun b e => bS _ _ _ _ (fun e2 => own_neP O5.out RR5.out (by decide) ((show b = w.heap.size + 1 + 1 + 1 from e2) ▸ e))), own_no⟩, KZ.out.2.2.2⟩
 case rest =>
  clear j0 j1 j2 j3 j4 j5 j6 j7; obtain ⟨r0, r1, r2, ⟨fa, fn, fc, ma, mn, mc, r3, hnf, hnm, of, om⟩, kc⟩ := hcut; dsimp only at r3 hnf hnm of om; have hm0 : mn = 0 := hnm.symm; subst hm0; obtain ⟨j0, j1, j2, j3, j4, j5, j6, j7⟩ := c8X r1; obtain ⟨R0, R1, R2, R3, K4, OF, OM, HNF⟩ := hD8 r0 r1 r2 r3 kc of om hnf; clear r0 r1 r2 r3 kc of om hnf hnm HFS; go_upto_if 24 with fail
  go_cut [] from 8 (fun w' => RwB w (.cells #[xn, xs, xr, y1, y2, y3, y4, nd, i] 84) (.cells #[e1, e2, e3, e4, es, ef, ew, .bool ec] 103) (.cells #[.slice none 0 0, .slice none 0 0, (0:Int)] 34) ⟨FS, MS, ew⟩ w')
  case first =>
   by_cases h : es = 0
   ·have g1 : (es != 0) = false := by simp [h]
    have hE : MS = [] := by have := HMS.out; rw [if_neg (by simpa using h)] at this; exact this.symm
    subst hE; clear h HMS; go_wp2_with fail
    go_meet
    case rel => exact ⟨R0.out, R1.out, R2.out, ⟨_, _, _, _, _, _, R3.out, HNF.out, rfl, OF.out, OM.out⟩, K4.out⟩
   ·have g1 : (es != 0) = true := by simp [h]
    have hE : MS = [(⟨es, nd, xn, xn, xs, rg, i, 0, 0⟩ : MM)] := by have := HMS.out; rw [if_pos h] at this; exact this.symm
    subst hE; clear h HMS; go_wp2_with fail
    obtain ⟨WD, hWD⟩ : ∃ x, (wc).drew = x := ⟨_, rfl⟩
    have kD : Kp (wc) WD := by rw [← hWD]; exact dQ (Kp.refl _)
    have HWD := hD hWD; have kDD := Kp.refl WD; clear hWD; have R3D := hD (rZ kD R3.out); have HC3 := hD (cellsR3 R3D.out).2.1; have OFD := hD (oK OF.out kD); have OSD := hD (oK OM.out kD); refine rgW (fun w' => w'.heap[w.heap.size]? = some (.cells #[xn, xs, xr, y1, y2, y3, y4, nd, i] 84) ∧ w'.heap[(w.heap.size + 1)]? = some (.cells #[e1, e2, e3, e4, es, ef, ew, .bool ec] 103) ∧ w'.heap[(w.heap.size + 1 + 1)]? = some (.cells #[.slice none 0 0, .slice none 0 0, (0:Int)] 34) ∧ Kp w w') ?_ fun hH => ?_
    ·exact by rw [HWD.out]; exact ⟨rZ kD R0.out, rZ kD R1.out, rZ kD R2.out, kT K4.out kD⟩
    rw [HWD.out] at hH ⊢; refine tkP 0 ?_
    go_simp; refine tkP 2 ?_ (y := by intro w hZ; obtain ⟨y0, y1, y2, y3, y4, y5, y6, y7, y8⟩ := cells9 hZ.1; go_simp; try rfl)
    go_simp; refine tkP 3 ?_
    go_simp; refine tkP 4 ?_ (y := by intro w hZ; obtain ⟨z0, z1, z2, z3, z4, z5, z6, z7⟩ := c8X hZ.2.1; go_simp; try rfl)
    go_simp; refine tkP 5 ?_
    go_simp; refine wpAnyH_ready (rs := [1, 6]) (by kernel_rfl) (by simp) ?_
    refine aC (fun K hK => ?_) (aC (fun K hK => ?_) aN0)
    ·have gl := kZ kDD HC3.out; go_simp; refine hK.out _ _ (hH) fun hH => ?_
     clear hK K; refine rdW 6 fun K hK => ?_
     go_simp; go_wp2_with (go_at_call 50; (with_reducible refine (HM.out _).mono ?_); rintro e' W3 ⟨rfl, hk3⟩)
     refine hK.out _ _ (⟨rZ hk3 hH.1, rZ hk3 hH.2.1, rZ hk3 hH.2.2.1, kT hH.2.2.2 hk3⟩) fun hH => ?_
     clear hK K; have k3 := kT kDD hk3; refine rdW 7 fun K hK => ?_
     go_simp; refine hK.out _ _ (⟨rZ (kA _ _) hH.1, rZ (kA _ _) hH.2.1, rZ (kA _ _) hH.2.2.1, kT hH.2.2.2 (kA _ _)⟩) fun hH => ?_
     clear hK K; have o4 := own_oneM (w := W3) (B := W3.heap.size) (⟨es, nd, xn, xn, xs, rg, i, 0, 0⟩ : MM) (Nat.le_refl _); obtain ⟨W4, hW4⟩ : ∃ x, W3.alloc (.cells #[es, nd, xn, xn, xs, rg, i, (0:Int), (0:Int)] 26) = x := ⟨_, rfl⟩
     have c4 : Kp W3 W4 := by rw [← hW4]; exact kA _ _
     dsimp only [FX.cells, MM.cells] at o4; rw [hW4] at o4; obtain ⟨p4, hp4⟩ : ∃ x, W3.heap.size = x := ⟨_, rfl⟩
     have k4 := kT k3 c4; rw [hp4] at o4; rw [hW4] at hH ⊢
     try rw [hp4]
     clear hW4 hp4 c4; refine wpAnyH_ready (rs := [8]) (by kernel_rfl) (by simp) ?_
     refine AllReadyH.consLG rfl (fun K hK => ?_) aN0
     have P2 := qG (E := mmE) (by decide) o4; have OX := oK OSD.out k4; go_simp; refine aG (E := mmE) ty_mm (by decide) _ rfl _ _ rfl w.heap.size _ _ [] rfl OX _ _ rfl P2 ?f3 ?f4 ?_
     case f3 => (first | decide | (simp; done) | (simp; omega))
     case f4 => exact kS hH.2.2.2
     rintro v5 W5 o5 hg hb; obtain ⟨a5, c5, rfl⟩ := fG o5; refine hK.out _ _ (⟨(hg.block _ (oZ hH.1) (Ne.symm (own_neP OX hH.1 (by decide)))).trans hH.1, (hg.block _ (oZ hH.2.1) (Ne.symm (own_neP OX hH.2.1 (by decide)))).trans hH.2.1, (hg.block _ (oZ hH.2.2.1) (Ne.symm (own_neP OX hH.2.2.1 (by decide)))).trans hH.2.2.1, Below.grown hH.2.2.2 hg (kS hH.2.2.2) (fun b hk => (OX.lt b hk).1)⟩) fun hH => ?_
     clear hK K; have r5 := (hg.block _ (oZ (rZ k4 R3D.out)) (Ne.symm (own_neP OX (rZ k4 R3D.out) (by decide)))).trans (rZ k4 R3D.out); have o6 := sG (oK OFD.out k4) (fun b e => (hg.block b ((oK OFD.out k4).lt b e).2 (fun e2 => aQ (oK OFD.out k4) OX (by decide) b e e2.symm))); clear hg hb P2 OX; refine tkP 9 ?_
     go_simp; refine rdW 10 fun K hK => ?_
     obtain ⟨s0, s1, s2⟩ := cellsR3 r5; have fz5 := frozN r5; go_simp; refine hK.out _ _ (⟨(bS _ _ _ _ (show w.heap.size ≠ w.heap.size + 1 + 1 + 1 by omega)).trans hH.1, (bS _ _ _ _ (show (w.heap.size + 1) ≠ w.heap.size + 1 + 1 + 1 by omega)).trans hH.2.1, (bS _ _ _ _ (show (w.heap.size + 1 + 1) ≠ w.heap.size + 1 + 1 + 1 by omega)).trans hH.2.2.1, Below.setCell hH.2.2.2 (show w.heap.size ≤ w.heap.size + 1 + 1 + 1 by omega) _⟩) fun hH => ?_
     clear hK K; refine dnW ?_ _
     obtain ⟨O5, RR5⟩ := hD2 o5 r5; clear o5; have O6 := hD o6; clear o6; have KZ := hD hH; clear r5; go_wp2_with fail
     go_meet
     case rel => exact ⟨KZ.out.1, KZ.out.2.1, KZ.out.2.2.1, ⟨_, _, _, _, _, _, (Joins.block_setCell RR5.out _).trans rfl, HNF.out, rfl, sG O6.out (fun b e => bS _ _ _ _ (fun e2 => own_neP O6.out RR5.out (by decide) ((show b = w.heap.size + 1 + 1 + 1 from e2) ▸ e))), sG O5.out (fun b e => bS _ _ _ _ (fun e2 => own_neP O5.out RR5.out (by decide) ((show b = w.heap.size + 1 + 1 + 1 from e2) ▸ e)))⟩, KZ.out.2.2.2⟩
    ·go_simp; go_wp2_with (go_at_call 50; (with_reducible refine (HM.out _).mono ?_); rintro e' W3 ⟨rfl, hk3⟩)
     refine hK.out _ _ (⟨rZ hk3 hH.1, rZ hk3 hH.2.1, rZ hk3 hH.2.2.1, kT hH.2.2.2 hk3⟩) fun hH => ?_
     clear hK K; have k3 := kT kDD hk3; refine wpAnyH_ready (rs := [1, 7]) (by kernel_rfl) (by simp) ?_
     refine aC (fun K hK => ?_) (aC (fun K hK => ?_) aN0)
     ·have gl := kZ k3 HC3.out; go_simp; refine hK.out _ _ (hH) fun hH => ?_
      clear hK K; refine rdW 7 fun K hK => ?_
      go_simp; refine hK.out _ _ (⟨rZ (kA _ _) hH.1, rZ (kA _ _) hH.2.1, rZ (kA _ _) hH.2.2.1, kT hH.2.2.2 (kA _ _)⟩) fun hH => ?_
      clear hK K; have o4 := own_oneM (w := W3) (B := W3.heap.size) (⟨es, nd, xn, xn, xs, rg, i, 0, 0⟩ : MM) (Nat.le_refl _); obtain ⟨W4, hW4⟩ : ∃ x, W3.alloc (.cells #[es, nd, xn, xn, xs, rg, i, (0:Int), (0:Int)] 26) = x := ⟨_, rfl⟩
      have c4 : Kp W3 W4 := by rw [← hW4]; exact kA _ _
      dsimp only [FX.cells, MM.cells] at o4; rw [hW4] at o4; obtain ⟨p4, hp4⟩ : ∃ x, W3.heap.size = x := ⟨_, rfl⟩
      have k4 := kT k3 c4; rw [hp4] at o4; rw [hW4] at hH ⊢
      try rw [hp4]
      clear hW4 hp4 c4; refine wpAnyH_ready (rs := [8]) (by kernel_rfl) (by simp) ?_
      refine AllReadyH.consLG rfl (fun K hK => ?_) aN0
      have P2 := qG (E := mmE) (by decide) o4; have OX := oK OSD.out k4; go_simp; refine aG (E := mmE) ty_mm (by decide) _ rfl _ _ rfl w.heap.size _ _ [] rfl OX _ _ rfl P2 ?f3 ?f4 ?_
      case f3 => (first | decide | (simp; done) | (simp; omega))
      case f4 => exact kS hH.2.2.2
      rintro v5 W5 o5 hg hb; obtain ⟨a5, c5, rfl⟩ := fG o5; refine hK.out _ _ (⟨(hg.block _ (oZ hH.1) (Ne.symm (own_neP OX hH.1 (by decide)))).trans hH.1, (hg.block _ (oZ hH.2.1) (Ne.symm (own_neP OX hH.2.1 (by decide)))).trans hH.2.1, (hg.block _ (oZ hH.2.2.1) (Ne.symm (own_neP OX hH.2.2.1 (by decide)))).trans hH.2.2.1, Below.grown hH.2.2.2 hg (kS hH.2.2.2) (fun b hk => (OX.lt b hk).1)⟩) fun hH => ?_
      clear hK K; have r5 := (hg.block _ (oZ (rZ k4 R3D.out)) (Ne.symm (own_neP OX (rZ k4 R3D.out) (by decide)))).trans (rZ k4 R3D.out); have o6 := sG (oK OFD.out k4) (fun b e => (hg.block b ((oK OFD.out k4).lt b e).2 (fun e2 => aQ (oK OFD.out k4) OX (by decide) b e e2.symm))); clear hg hb P2 OX; refine tkP 9 ?_
      go_simp; refine rdW 10 fun K hK => ?_
      obtain ⟨s0, s1, s2⟩ := cellsR3 r5; have fz5 := frozN r5; go_simp; refine hK.out _ _ (⟨(bS _ _ _ _ (show w.heap.size ≠ w.heap.size + 1 + 1 + 1 by omega)).trans hH.1, (bS _ _ _ _ (show (w.heap.size + 1) ≠ w.heap.size + 1 + 1 + 1 by omega)).trans hH.2.1, (bS _ _ _ _ (show (w.heap.size + 1 + 1) ≠ w.heap.size + 1 + 1 + 1 by omega)).trans hH.2.2.1, Below.setCell hH.2.2.2 (show w.heap.size ≤ w.heap.size + 1 + 1 + 1 by omega) _⟩) fun hH => ?_
      clear hK K; refine dnW ?_ _
      obtain ⟨O5, RR5⟩ := hD2 o5 r5; clear o5; have O6 := hD o6; clear o6; have KZ := hD hH; clear r5; go_wp2_with fail
      go_meet
      case rel => exact ⟨KZ.out.1, KZ.out.2.1, KZ.out.2.2.1, ⟨_, _, _, _, _, _, (Joins.block_setCell RR5.out _).trans rfl, HNF.out, rfl, sG O6.out (fun b e => bS _ _ _ _ (fun e2 => own_neP O6.out RR5.out (by decide) ((show b = w.heap.size + 1 + 1 + 1 from e2) ▸ e))), sG O5.out (fun b e => bS _ _ _ _ (fun e2 => own_neP O5.out RR5.out (by decide) ((show b = w.heap.size + 1 + 1 + 1 from e2) ▸ e)))⟩, KZ.out.2.2.2⟩
     ·go_simp; refine hK.out _ _ (⟨rZ (kA _ _) hH.1, rZ (kA _ _) hH.2.1, rZ (kA _ _) hH.2.2.1, kT hH.2.2.2 (kA _ _)⟩) fun hH => ?_
      clear hK K; have o4 := own_oneM (w := W3) (B := W3.heap.size) (⟨es, nd, xn, xn, xs, rg, i, 0, 0⟩ : MM) (Nat.le_refl _); obtain ⟨W4, hW4⟩ : ∃ x, W3.alloc (.cells #[es, nd, xn, xn, xs, rg, i, (0:Int), (0:Int)] 26) = x := ⟨_, rfl⟩
      have c4 : Kp W3 W4 := by rw [← hW4]; exact kA _ _
      dsimp only [FX.cells, MM.cells] at o4; rw [hW4] at o4; obtain ⟨p4, hp4⟩ : ∃ x, W3.heap.size = x := ⟨_, rfl⟩
      have k4 := kT k3 c4; rw [hp4] at o4; rw [hW4] at hH ⊢
      try rw [hp4]
      clear hW4 hp4 c4; refine rdW 1 fun K hK => ?_
      have gl := kZ k4 HC3.out; go_simp; refine hK.out _ _ (hH) fun hH => ?_
      clear hK K; refine wpAnyH_ready (rs := [8]) (by kernel_rfl) (by simp) ?_
      refine AllReadyH.consLG rfl (fun K hK => ?_) aN0
      have P2 := qG (E := mmE) (by decide) o4; have OX := oK OSD.out k4; go_simp; refine aG (E := mmE) ty_mm (by decide) _ rfl _ _ rfl w.heap.size _ _ [] rfl OX _ _ rfl P2 ?f3 ?f4 ?_
      case f3 => (first | decide | (simp; done) | (simp; omega))
      case f4 => exact kS hH.2.2.2
      rintro v5 W5 o5 hg hb; obtain ⟨a5, c5, rfl⟩ := fG o5; refine hK.out _ _ (⟨(hg.block _ (oZ hH.1) (Ne.symm (own_neP OX hH.1 (by decide)))).trans hH.1, (hg.block _ (oZ hH.2.1) (Ne.symm (own_neP OX hH.2.1 (by decide)))).trans hH.2.1, (hg.block _ (oZ hH.2.2.1) (Ne.symm (own_neP OX hH.2.2.1 (by decide)))).trans hH.2.2.1, Below.grown hH.2.2.2 hg (kS hH.2.2.2) (fun b hk => (OX.lt b hk).1)⟩) fun hH => ?_
      clear hK K; have r5 := (hg.block _ (oZ (rZ k4 R3D.out)) (Ne.symm (own_neP OX (rZ k4 R3D.out) (by decide)))).trans (rZ k4 R3D.out); have o6 := sG (oK OFD.out k4) (fun b e => (hg.block b ((oK OFD.out k4).lt b e).2 (fun e2 => aQ (oK OFD.out k4) OX (by decide) b e e2.symm))); clear hg hb P2 OX; refine tkP 9 ?_
      go_simp; refine rdW 10 fun K hK => ?_
      obtain ⟨s0, s1, s2⟩ := cellsR3 r5; have fz5 := frozN r5; go_simp; refine hK.out _ _ (⟨(bS _ _ _ _ (show w.heap.size ≠ w.heap.size + 1 + 1 + 1 by omega)).trans hH.1, (bS _ _ _ _ (show (w.heap.size + 1) ≠ w.heap.size + 1 + 1 + 1 by omega)).trans hH.2.1, (bS _ _ _ _ (show (w.heap.size + 1 + 1) ≠ w.heap.size + 1 + 1 + 1 by omega)).trans hH.2.2.1, Below.setCell hH.2.2.2 (show w.heap.size ≤ w.heap.size + 1 + 1 + 1 by omega) _⟩) fun hH => ?_
      clear hK K; refine dnW ?_ _
      obtain ⟨O5, RR5⟩ := hD2 o5 r5; clear o5; have O6 := hD o6; clear o6; have KZ := hD hH; clear r5; go_wp2_with fail
      go_meet
      case rel => exact ⟨KZ.out.1, KZ.out.2.1, KZ.out.2.2.1, ⟨_, _, _, _, _, _, (Joins.block_setCell RR5.out _).trans rfl, HNF.out, rfl, sG O6.out (fun b e => bS _ _ _ _ (fun e2 => own_neP O6.out RR5.out (by decide) ((show b = w.heap.size + 1 + 1 + 1 from e2) ▸ e))), sG O5.out (fun b e => bS _ _ _ _ (fun e2 => own_neP O5.out RR5.out (by decide) ((show b = w.heap.size + 1 + 1 + 1 from e2) ▸ e)))⟩, KZ.out.2.2.2⟩
  case rest =>
   clear j0 j1 j2 j3 j4 j5 j6 j7; obtain ⟨r0, r1, r2, ⟨fa, fn, fc, ma, mn, mc, r3, hnf, hnm, of, om⟩, kc⟩ := hcut; dsimp only at r3 hnf hnm of om; subst hnf hnm; obtain ⟨j0, j1, j2⟩ := cellsR3 r3; obtain ⟨u0, u1, u2⟩ := cellsR3 r2; have fz := frozN r2; obtain ⟨R2, K4, OF, OM⟩ := hD4 r2 kc of om; clear r0 r1 r2 r3 kc of om; go_wp2; refine bodyPost_ret (results_cell_row (p := 6) rfl _ _ (w.heap.size + 1 + 1) 34 _ (0, 0) _ rfl (setR3 _ _ _ R2.out) Tryz.underlying34 rfl (by kernel_rfl)) rfl ?_
   exact ⟨_, rfl, RsV.set R2.out (by decide) (by decide) OF.out OM.out, setR3_kp K4.out (show w.heap.size ≤ w.heap.size + 1 + 1 by omega) _ _ _⟩
abbrev boxI (x : Int) : Obj := .cells #[x] 3 (0, 0)
def mayQ (k : Nat) (last tag : Int) (n : Nat) : Prop := k < 16 ∧ last < tag ∧ tag ≤ 255 ∧ n ≤ 200
instance (k : Nat) (last tag : Int) (n : Nat) : Decidable (mayQ k last tag n) := by unfold mayQ; infer_instance
end Go.Proofs.YtncoofnhifcnhaaGreatDoor
