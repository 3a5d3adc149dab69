/- Parts of this proof (own work). -/
import Derived.Test.YtncoofnhifcnhaaGreatDoorZt06
import Derived.ChangeSame
set_option maxRecDepth 100000
set_option maxHeartbeats 40000000
namespace Go.Proofs.YtncoofnhifcnhaaGreatDoor
open Go.RowKit Go.ChangeShapes Go.WideShapes
theorem down_any (k : Int) (w : World) : Calls Tryz.prog 35 #[.int .i64 k] w fun e w' => e = .returned (.bool (downM k)) ∧ w = w' := by
 by_cases h2 : k = 2
 ·subst h2; rw [show downM 2 = true by decide]; go_enter Tryz.func35, Tryz.ntmps35; go_wp2; go_ret; exact ⟨by first | rfl | simp [*], rfl⟩
 by_cases h9 : k = 9
 ·subst h9; rw [show downM 9 = true by decide]; go_enter Tryz.func35, Tryz.ntmps35; go_wp2; go_ret; exact ⟨by first | rfl | simp [*], rfl⟩
 by_cases h10 : k = 10
 ·subst h10; rw [show downM 10 = true by decide]; go_enter Tryz.func35, Tryz.ntmps35; go_wp2; go_ret; exact ⟨by first | rfl | simp [*], rfl⟩
 by_cases h11 : k = 11
 ·subst h11; rw [show downM 11 = true by decide]; go_enter Tryz.func35, Tryz.ntmps35; go_wp2; go_ret; exact ⟨by first | rfl | simp [*], rfl⟩
 by_cases h12 : k = 12
 ·subst h12; rw [show downM 12 = true by decide]; go_enter Tryz.func35, Tryz.ntmps35; go_wp2; go_ret; exact ⟨by first | rfl | simp [*], rfl⟩
 by_cases h13 : k = 13
 ·subst h13; rw [show downM 13 = true by decide]; go_enter Tryz.func35, Tryz.ntmps35; go_wp2; go_ret; exact ⟨by first | rfl | simp [*], rfl⟩
 by_cases h14 : k = 14
 ·subst h14; rw [show downM 14 = true by decide]; go_enter Tryz.func35, Tryz.ntmps35; go_wp2; go_ret; exact ⟨by first | rfl | simp [*], rfl⟩
 rw [show downM k = false from dF (by omega)]; go_enter Tryz.func35, Tryz.ntmps35; go_wp2; go_ret; exact ⟨by first | rfl | simp [*], rfl⟩
variable {w0 w w' W w3 : World} {ads : List Addr}
theorem p3_0 (w : World) (o o' o'' : Obj) : (((w.alloc o).alloc o').alloc o'').heap[w.heap.size]? = some o := rZ (kA _ o'') (nX0 w o o')
theorem p3_1 (w : World) (o o' o'' : Obj) : (((w.alloc o).alloc o').alloc o'').heap[w.heap.size + 1]? = some o' := rZ (kA _ o'') (nX1 w o o')
theorem p3_2 (w : World) (o o' o'' : Obj) : (((w.alloc o).alloc o').alloc o'').heap[w.heap.size + 1 + 1]? = some o'' := by
 have := (mH ((w.alloc o).alloc o') o'')
 rwa [show ((w.alloc o).alloc o').heap.size = w.heap.size + 1 + 1 by simp] at this
theorem pk2 (w : World) (o o' : Obj) : Kp w ((w.alloc o).alloc o') := kT (kA _ _) (kA _ _)
theorem pk3 (w : World) (o o' o'' : Obj) : Kp w (((w.alloc o).alloc o').alloc o'') := kT (pk2 w o o') (kA _ _)
theorem cellsR3 {b : Nat} {t : TypeId} {w : World} {x0 x1 x2 : Value} (h : w.heap[b]? = some (.cells #[x0, x1, x2] t (0, 0))) : w.cell? ⟨b, 0, none⟩ = some x0 ∧ w.cell? ⟨b, 1, none⟩ = some x1 ∧ w.cell? ⟨b, 2, none⟩ = some x2 := by
 refine ⟨?_, ?_, ?_⟩ <;> (unfold World.cell?; dsimp only; rw [h]; rfl)
theorem setR3 {b : Nat} {t : TypeId} {w : World} {x0 x1 x2 : Value} (y0 y1 y2 : Value) (h : w.heap[b]? = some (.cells #[x0, x1, x2] t (0, 0))) : (((w.setCell ⟨b, 0, none⟩ y0).setCell ⟨b, 1, none⟩ y1).setCell ⟨b, 2, none⟩ y2).heap[b]? = some (.cells #[y0, y1, y2] t (0, 0)) := by
 have h1 : (w.setCell ⟨b, 0, none⟩ y0).heap[b]? = some (.cells #[y0, x1, x2] t (0, 0)) := (Joins.block_setCell h _).trans rfl; have h2 : ((w.setCell ⟨b, 0, none⟩ y0).setCell ⟨b, 1, none⟩ y1).heap[b]? = some (.cells #[y0, y1, x2] t (0, 0)) := (Joins.block_setCell h1 _).trans rfl; exact (Joins.block_setCell h2 _).trans rfl
theorem setR3_kp {b : Nat} {w0 w : World} (hk : Kp w0 w) (hb : w0.heap.size ≤ b) (y0 y1 y2 : Value) : Kp w0 (((w.setCell ⟨b, 0, none⟩ y0).setCell ⟨b, 1, none⟩ y1).setCell ⟨b, 2, none⟩ y2) :=
 Below.setCell (Below.setCell (Below.setCell hk hb _) hb _) hb _
theorem setR3_ne {b c : Nat} {w : World} (y0 y1 y2 : Value) (hne : c ≠ b) : (((w.setCell ⟨b, 0, none⟩ y0).setCell ⟨b, 1, none⟩ y1).setCell ⟨b, 2, none⟩ y2).heap[c]? = w.heap[c]? := by
 rw [bS _ _ _ _ hne, bS _ _ _ _ hne, bS _ _ _ _ hne]
theorem kPlaced (xn xs xr y1 y2 y3 y4 nd i : Int) (b : Bool) (hb : (xr != -1) = b) : Calls Tryz.prog 43 #[.agg #[xn, xs, xr, y1, y2, y3, y4, nd, i]] w fun r w' => r = .returned (.bool b) ∧ Kp w w' := by
 obtain ⟨c0, c1, c2, c3, c4, c5, c6, c7, c8⟩ := cells9 (mH w (.cells #[xn, xs, xr, y1, y2, y3, y4, nd, i] 84)); have KB := hD (kA w (.cells #[xn, xs, xr, y1, y2, y3, y4, nd, i] 84)); go_enter Tryz.func43, Tryz.ntmps43; go_wp2; go_ret; exact ⟨rfl, KB.out⟩
theorem kAsks (k : Int) : Calls Tryz.prog 31 #[.int .i64 k] w fun r w' => r = .returned (.bool (decide (k = 15) || downM k)) ∧ w = w' := by
 have HD := hD (fun w => down_any k w)
 by_cases h : k = 15
 ·subst h; go_enter Tryz.func31, Tryz.ntmps31; go_wp2; go_ret; exact ⟨rfl, rfl⟩
 ·rw [dF h, Bool.false_or]; have g1 : (k == 15) = false := by simpa using h
  clear h; go_enter Tryz.func31, Tryz.ntmps31; go_wp2_with (go_at_call 35; (with_reducible refine (HD.out _).mono ?_); rintro e' w1 ⟨rfl, rfl⟩)
  go_ret; exact ⟨rfl, rfl⟩
theorem kMessage (xn xs xr y1 y2 y3 y4 nd i : Int) (k rg : Int) : Calls Tryz.prog 50 #[.agg #[xn, xs, xr, y1, y2, y3, y4, nd, i], .int .i64 k, .int .i64 rg] w fun r w' => r = .returned (.agg #[k, nd, xn, xn, xs, rg, i, (0:Int), (0:Int)]) ∧ Kp w w' := by
 obtain ⟨a0, a1, a2, a3, a4, a5, a6, a7, a8⟩ := cells9 (nX0 w (.cells #[xn, xs, xr, y1, y2, y3, y4, nd, i] 84) (.cells #[(0:Int), (0:Int), (0:Int), (0:Int), (0:Int), (0:Int), (0:Int), (0:Int), (0:Int)] 26)); have K2 := hD (pk2 w (.cells #[xn, xs, xr, y1, y2, y3, y4, nd, i] 84) (.cells #[k, nd, xn, xn, xs, rg, i, (0:Int), (0:Int)] 26)); go_enter Tryz.func50, Tryz.ntmps50; go_wp2; refine bodyPost_ret (results_cell_row (p := 6) rfl _ _ (w.heap.size + 1) 26 _ (0, 0) _ rfl (nX1 w _ _) Tryz.underlying26 rfl (by kernel_rfl)) rfl ?_
 exact ⟨rfl, K2.out⟩
theorem kTurns (xn xs xr y1 y2 y3 y4 nd i : Int) (t1 t2 t3 t4 : Int) : Calls Tryz.prog 79 #[.agg #[xn, xs, xr, y1, y2, y3, y4, nd, i], .agg #[t1, t2, t3, t4]] w fun r w' => r = .returned (.agg #[(8:Int), (0:Int), (0:Int), (0:Int), (0:Int), i, (0:Int), (0:Int), (0:Int), (0:Int), t3, t4, (0:Int), .float .f64 0]) ∧ Kp w w' := by
 obtain ⟨a0, a1, a2, a3, a4, a5, a6, a7, a8⟩ := cells9 (p3_0 w (.cells #[xn, xs, xr, y1, y2, y3, y4, nd, i] 84) (.cells #[t1, t2, t3, t4] 69) (.cells #[(0:Int), (0:Int), (0:Int), (0:Int), (0:Int), (0:Int), (0:Int), (0:Int), (0:Int), (0:Int), (0:Int), (0:Int), (0:Int), .float .f64 0] 73)); obtain ⟨b0, b1, b2, b3⟩ := cells_4 (p3_1 w (.cells #[xn, xs, xr, y1, y2, y3, y4, nd, i] 84) (.cells #[t1, t2, t3, t4] 69) (.cells #[(0:Int), (0:Int), (0:Int), (0:Int), (0:Int), (0:Int), (0:Int), (0:Int), (0:Int), (0:Int), (0:Int), (0:Int), (0:Int), .float .f64 0] 73)); have K2 := hD (pk3 w (.cells #[xn, xs, xr, y1, y2, y3, y4, nd, i] 84) (.cells #[t1, t2, t3, t4] 69) (.cells #[(8:Int), (0:Int), (0:Int), (0:Int), (0:Int), i, (0:Int), (0:Int), (0:Int), (0:Int), t3, t4, (0:Int), .float .f64 0] 73)); have hsf := sF; go_enter Tryz.func79, Tryz.ntmps79; go_wp2; refine bodyPost_ret (results_cell_row (p := 4) rfl _ _ (w.heap.size + 1 + 1) 73 _ (0, 0) _ rfl (p3_2 w _ _ _) Tryz.underlying73 rfl (by kernel_rfl)) rfl ?_
 exact ⟨rfl, K2.out⟩
theorem kFits (xn xs xr y1 y2 y3 y4 nd i : Int) (gk gf gt gn gs gr gp go gc : Int) (b : Bool) (hb : (decide (gn = xn ∧ gs = xs) && (gf == xn && (gt == nd && (decide (xr = -1) || gr == xr)))) = b) : Calls Tryz.prog 30 #[.agg #[xn, xs, xr, y1, y2, y3, y4, nd, i], .agg #[gk, gf, gt, gn, gs, gr, gp, go, gc]] w fun r w' => r = .returned (.bool b) ∧ Kp w w' := by
 have HPL := hD (fun w b hb => kPlaced (w := w) xn xs xr y1 y2 y3 y4 nd i b hb); have r0 := hD (nX0 w (.cells #[xn, xs, xr, y1, y2, y3, y4, nd, i] 84) (.cells #[gk, gf, gt, gn, gs, gr, gp, go, gc] 26)); have r1 := hD (nX1 w (.cells #[xn, xs, xr, y1, y2, y3, y4, nd, i] 84) (.cells #[gk, gf, gt, gn, gs, gr, gp, go, gc] 26)); have K2 := hD (pk2 w (.cells #[xn, xs, xr, y1, y2, y3, y4, nd, i] 84) (.cells #[gk, gf, gt, gn, gs, gr, gp, go, gc] 26)); obtain ⟨a0, a1, a2, a3, a4, a5, a6, a7, a8⟩ := cells9 r0.out; obtain ⟨b0, b1, b2, b3, b4, b5, b6, b7, b8⟩ := cells9 r1.out; have heq : ∀ w, (binOp .eql 24 (.agg #[gn, gs]) (.agg #[xn, xs])).run Tryz.prog w = .ok (.bool (decide (gn = xn ∧ gs = xs))) w := fun w => act_eql9 gn gs xn xs w
 have heg := fun op x y (w : World) => act_guard9 op x y gn gs xn xs w
 obtain ⟨t1, h1⟩ : ∃ x, decide (gn = xn ∧ gs = xs) = x := ⟨_, rfl⟩
 obtain ⟨t2, h2⟩ : ∃ x, (gf == xn) = x := ⟨_, rfl⟩
 obtain ⟨t3, h3⟩ : ∃ x, (gt == nd) = x := ⟨_, rfl⟩
 obtain ⟨t5, h5⟩ : ∃ x, (gr == xr) = x := ⟨_, rfl⟩
 rw [h1] at heq; rw [h1, h2, h3, h5] at hb; clear h1
 cases t1
 ·have hb : false = b := hb; subst hb; go_enter Tryz.func30, Tryz.ntmps30; go_wp2; go_ret; exact ⟨rfl, K2.out⟩
 cases t2
 ·have hb : false = b := hb; subst hb; go_enter Tryz.func30, Tryz.ntmps30; go_wp2; go_ret; exact ⟨rfl, K2.out⟩
 cases t3
 ·have hb : false = b := hb; subst hb; go_enter Tryz.func30, Tryz.ntmps30; go_wp2; go_ret; exact ⟨rfl, K2.out⟩
 by_cases hx : xr = -1
 ·have hb : true = b := by rw [← hb, dT hx]; rfl
  subst hb; have hp : (xr != -1) = false := by simp [hx]
  clear hx h5; go_enter Tryz.func30, Tryz.ntmps30; go_wp2_with (go_at_call 43; (with_reducible refine (HPL.out _ _ hp).mono ?_); rintro e' w3 ⟨rfl, hk3⟩; have K3 := hD (kT K2.out hk3); obtain ⟨c0, c1, c2, c3, c4, c5, c6, c7, c8⟩ := cells9 (rZ hk3 r0.out); obtain ⟨d0, d1, d2, d3, d4, d5, d6, d7, d8⟩ := cells9 (rZ hk3 r1.out); clear hk3)
  go_ret; exact ⟨rfl, K3.out⟩
 ·have hb : t5 = b := by rw [← hb, dF hx]; simp
  subst hb; have hp : (xr != -1) = true := by simp [hx]
  clear hx; go_enter Tryz.func30, Tryz.ntmps30; go_wp2_with (go_at_call 43; (with_reducible refine (HPL.out _ _ hp).mono ?_); rintro e' w3 ⟨rfl, hk3⟩; have K3 := hD (kT K2.out hk3); obtain ⟨c0, c1, c2, c3, c4, c5, c6, c7, c8⟩ := cells9 (rZ hk3 r0.out); obtain ⟨d0, d1, d2, d3, d4, d5, d6, d7, d8⟩ := cells9 (rZ hk3 r1.out); clear hk3)
  go_ret; exact ⟨rfl, K3.out⟩
theorem cU {b i : Nat} {t : TypeId} {w : World} {cs : Array Value} {x : Nat × Nat} {v : Value} (h : w.heap[b]? = some (.cells cs t x)) (hv : cs[i]? = some v) : w.cell? ⟨b, i, none⟩ = some v := by
 unfold World.cell?; dsimp only; rw [h]; exact hv
theorem fQ {b : Nat} {t : TypeId} {w : World} {cs : Array Value} (h : w.heap[b]? = some (.cells cs t (0, 0))) (i : Nat) : w.frozen? ⟨b, i, none⟩ = false := by
 unfold World.frozen?; dsimp only; rw [h]
 simp
theorem dQ {a b : World} (h : Kp a b) : Kp a b.drew := ⟨h.os, h.tape, h.output, h.size, h.block⟩
theorem asdQ {O : Nat → Prop} {g i : Nat} {w : World} (h : O g) (y : Value) : Asd O O w (w.setCell ⟨g, i, none⟩ y) where
 os := rfl
 tape := rfl
 output := rfl
 size := by simp
 block := fun b _ hn => bS _ _ _ _ (fun e => hn (by rw [e]; exact h))
 own := fun b q => .inl q
theorem own_kindQ {w : World} {B : Nat} {e : TypeId} {k n : Nat} {v : Value} {xs : List Value} (h : w.ownsRow B e k v n xs) (g : Nat) (hg : v.ownBlock = some g) : ∃ c, w.heap[g]? = some (.cells c e (0, 0)) := by
 rcases h.2 with ⟨rfl, _⟩ | ⟨g', cap, cur, rfl, _, hgg, _⟩
 ·simp [Value.ownBlock] at hg
 ·simp [Value.ownBlock] at hg
  subst hg; exact ⟨cur, hgg⟩
theorem aQ {w : World} {B B' : Nat} {e e' : TypeId} {k k' n n' : Nat} {v v' : Value} {xs xs' : List Value} (h : w.ownsRow B e k v n xs) (h' : w.ownsRow B' e' k' v' n' xs') (hne : e ≠ e') (b : Nat) (hb : v.ownBlock = some b) : v'.ownBlock ≠ some b := fun hb' => by
 obtain ⟨c, h1⟩ := own_kindQ h b hb; obtain ⟨c', h2⟩ := own_kindQ h' b hb'; rw [h1] at h2; injection h2 with h2
 injection h2 with _ h2 _
 exact hne h2
theorem cQ {α : Type} {E : EncG α} {w : World} {B : Nat} {e : TypeId} {v : Value} {f : List α} {n : Nat} (h : w.ownsRow B e E.k v n (E.row f)) (hn : f.length = n) {j : Nat} (hj : j < n) : ∃ g cp, v = .slice (some ⟨g, 0, none⟩) n cp ∧ n ≤ cp ∧ B ≤ g ∧ g < w.heap.size ∧ (∀ i, w.frozen? ⟨g, i, none⟩ = false) ∧ ∀ (i : Nat) (u : Value), i < E.k → (E.enc (f[j]'(by omega)))[i]? = some u → w.cell? ⟨g, j * E.k + i, none⟩ = some u := by
 subst hn
 rcases h.2 with ⟨rfl, h0⟩ | ⟨g, cp, cur, rfl, hg, hh, hc, _⟩
 ·omega
 ·refine ⟨g, cp, rfl, hc, hg, oZ hh, fun i => h.frozenAt i, fun i u hi hu => ?_⟩
  have := h.cells rfl (j * E.k + i) u (by rw [← hu]; exact row_at E f j hj i hi); rw [Addr.add_lit, Nat.zero_add] at this; exact this
theorem row_set1 {α : Type} (E : EncG α) : ∀ (f : List α) (i : Nat) (hi : i < f.length) (j : Nat) (_ : j < E.k) (y : Value) (x' : α) (_ : E.enc x' = (E.enc f[i]).set j y), (E.row f).set (i * E.k + j) y = E.row (f.set i x')
 | x :: f, 0, _, j, hj, y, x', hx => by
  show (E.row (x :: f)).set (0 * E.k + j) y = E.row (x' :: f)
  unfold EncG.row; rw [List.flatMap_cons, List.flatMap_cons, Nat.zero_mul, Nat.zero_add, List.set_append_left _ _ (by rw [E.len]; exact hj), hx]
  rfl
 | x :: f, i + 1, hi, j, hj, y, x', hx => by
  have ih := row_set1 E f i (by simpa using hi) j hj y x' hx; rw [List.set_cons_succ]; unfold EncG.row at ih ⊢; rw [List.flatMap_cons, List.flatMap_cons, ← ih, show (i + 1) * E.k + j = E.k + (i * E.k + j) by rw [Nat.add_mul, Nat.one_mul]; omega, List.set_append_right _ _ (by rw [E.len]; omega), E.len, Nat.add_sub_cancel_left]
structure AcG where
 (a : AcM) (o : Option Addr) (c : Nat)
def AcG.v (p : AcG) : Value := .slice p.o p.a.regs.length p.c
def acE : EncG AcG where
 enc p := [.int .i64 p.a.c.n, .int .i64 p.a.c.s, .int .i64 p.a.c.o, .int .i64 p.a.c.d, .float .f64 p.a.c.x, .int .i64 p.a.par, .int .i64 p.a.dec, p.v]
 k := 8
 len := fun _ => rfl
 one := by
  intro x u hu; simp only [List.mem_cons, List.not_mem_nil, or_false] at hu
  rcases hu with rfl | rfl | rfl | rfl | rfl | rfl | rfl | rfl <;> rfl
def paE : EncG PaM where
 enc p := [.int .i64 p.n, .int .i64 p.s, .int .i64 p.reg, .int .i64 p.z.p, .int .i64 p.z.e, .int .i64 p.z.s, .int .i64 p.z.h]
 k := 7
 len := fun _ => rfl
 one := by
  intro x u hu; simp only [List.mem_cons, List.not_mem_nil, or_false] at hu
  rcases hu with rfl | rfl | rfl | rfl | rfl | rfl | rfl <;> rfl
def rgE : EncG RgM where
 enc p := [.int .i64 p.node, .int .i64 p.part, .int .i64 p.z.p, .int .i64 p.z.e, .int .i64 p.z.s, .int .i64 p.z.h]
 k := 6
 len := fun _ => rfl
 one := by
  intro x u hu; simp only [List.mem_cons, List.not_mem_nil, or_false] at hu
  rcases hu with rfl | rfl | rfl | rfl | rfl | rfl <;> rfl
structure TyQ where
 (st ac pt rg : TypeId)
structure TyQ.Ok (T : TyQ) : Prop where
 sa : T.st ≠ T.ac
 sp : T.st ≠ T.pt
 sr : T.st ≠ T.rg
 ap : T.ac ≠ T.pt
 ar : T.ac ≠ T.rg
 pr : T.pt ≠ T.rg
structure GS (T : TyQ) (B q : Nat) (m : StM) (gs : List AcG) (va vp : Value) (w : World) : Prop where
 row : w.heap[q]? = some (.cells #[.int .i64 m.node, .int .i64 m.next, va, vp] T.st (0, 0))
 bq : B ≤ q
 acts : m.acts = gs.map AcG.a
 oa : w.ownsRow B T.ac 8 va gs.length (acE.row gs)
 op : w.ownsRow B T.pt 7 vp m.parts.length (paE.row m.parts)
 og : ∀ g ∈ gs, w.ownsRow B T.rg 6 g.v g.a.regs.length (rgE.row g.a.regs)
 dis : ∀ (i j : Nat) (g h : AcG), gs[i]? = some g → gs[j]? = some h → i ≠ j → ∀ b, g.v.ownBlock = some b → h.v.ownBlock ≠ some b
def Ow (q : Nat) (gs : List AcG) (va vp : Value) (b : Nat) : Prop := b = q ∨ va.ownBlock = some b ∨ vp.ownBlock = some b ∨ ∃ g ∈ gs, g.v.ownBlock = some b
section
variable {T : TyQ} {B q : Nat} {m : StM} {gs gs' : List AcG} {va vp va' vp' : Value} {w w' W w3 : World}
theorem GS.mem (h : GS T B q m gs va vp w) : ∀ b, Ow q gs va vp b → B ≤ b ∧ b < w.heap.size := by
 rintro b (rfl | hb | hb | ⟨g, hg, hb⟩)
 ·exact ⟨h.bq, oZ h.row⟩
 ·exact h.oa.lt b hb
 ·exact h.op.lt b hb
 ·exact (h.og g hg).lt b hb
theorem GS.stay (h : GS T B q m gs va vp w) (hb : ∀ b, Ow q gs va vp b → w'.heap[b]? = w.heap[b]?) : GS T B q m gs va vp w' where
 row := by rw [hb q (.inl rfl)]; exact h.row
 bq := h.bq
 acts := h.acts
 oa := sG h.oa (fun b e => hb b (.inr (.inl e)))
 op := sG h.op (fun b e => hb b (.inr (.inr (.inl e))))
 og := fun g hg => sG (h.og g hg) (fun b e => hb b (.inr (.inr (.inr ⟨g, hg, e⟩))))
 dis := h.dis
theorem GS.kp (h : GS T B q m gs va vp w) (hk : Kp w w') : GS T B q m gs va vp w' := h.stay fun b hb => Below.block hk b (h.mem b hb).2
theorem GS.len (h : GS T B q m gs va vp w) : gs.length = m.acts.length := by rw [h.acts, List.length_map]
theorem GS.qa (h : GS T B q m gs va vp w) (ok : T.Ok) : va.ownBlock ≠ some q := fun e => by
 obtain ⟨c, hc⟩ := own_kindQ h.oa q e; rw [h.row] at hc; injection hc with hc; injection hc with _ hc _; exact ok.sa hc
theorem GS.qp (h : GS T B q m gs va vp w) (ok : T.Ok) : vp.ownBlock ≠ some q := fun e => by
 obtain ⟨c, hc⟩ := own_kindQ h.op q e; rw [h.row] at hc; injection hc with hc; injection hc with _ hc _; exact ok.sp hc
theorem GS.qg (h : GS T B q m gs va vp w) (ok : T.Ok) {g : AcG} (hg : g ∈ gs) : g.v.ownBlock ≠ some q := fun e => by
 obtain ⟨c, hc⟩ := own_kindQ (h.og g hg) q e; rw [h.row] at hc; injection hc with hc; injection hc with _ hc _; exact ok.sr hc
theorem GS.vForm (h : GS T B q m gs va vp w) : ∃ a cp, va = .slice a gs.length cp := fG h.oa
theorem GS.pForm (h : GS T B q m gs va vp w) : ∃ a cp, vp = .slice a m.parts.length cp := fG h.op
theorem GS.at (h : GS T B q m gs va vp w) {i : Nat} {a : AcM} (ha : m.acts[i]? = some a) : ∃ g, gs[i]? = some g ∧ g.a = a := by
 rw [h.acts, List.getElem?_map] at ha
 cases hg : gs[i]? with
 | none => rw [hg] at ha; cases ha
 | some g => rw [hg] at ha; exact ⟨g, rfl, by simpa using ha⟩
theorem GS.setNext (h : GS T B q m gs va vp w) (ok : T.Ok) (nx : Int) : GS T B q { m with next := nx } gs va vp (w.setCell ⟨q, 1, none⟩ (.int .i64 nx)) ∧ Asd (Ow q gs va vp) (Ow q gs va vp) w (w.setCell ⟨q, 1, none⟩ (.int .i64 nx)) := by
 have ne : ∀ (b : Nat), b ≠ q → (w.setCell ⟨q, 1, none⟩ (.int .i64 nx)).heap[b]? = w.heap[b]? := fun b hb => bS _ _ _ _ hb
 refine ⟨⟨(Joins.block_setCell h.row _).trans rfl, h.bq, h.acts, ?_, ?_, ?_, h.dis⟩, asdQ (.inl rfl) _⟩
 ·exact sG h.oa (fun b e => ne b (fun e2 => h.qa ok (e2 ▸ e)))
 ·exact sG h.op (fun b e => ne b (fun e2 => h.qp ok (e2 ▸ e)))
 ·exact fun g hg => sG (h.og g hg) (fun b e => ne b (fun e2 => h.qg ok hg (e2 ▸ e)))
theorem GS.repA (h : GS T B q m gs va vp w) (ok : T.Ok) (hk : Kp w W) (hg : W.grownBy w3 va.ownBlock) {L : Nat} (hL : gs'.length = L) (ho : w3.ownsRow B T.ac 8 va' L (acE.row gs'))
  (hb : ∀ b, va'.ownBlock = some b → va.ownBlock = some b ∨ w.heap.size ≤ b) (hs : ∀ g ∈ gs', g ∈ gs ∨ (g.a.regs = [] ∧ g.o = none ∧ g.c = 0))
  (hd : ∀ (i j : Nat) (g h : AcG), gs'[i]? = some g → gs'[j]? = some h → i ≠ j → ∀ b, g.v.ownBlock = some b → h.v.ownBlock ≠ some b) :
  GS T B q { m with acts := gs'.map AcG.a } gs' va' vp (w3.setCell ⟨q, 2, none⟩ va') ∧ Asd (Ow q gs va vp) (Ow q gs' va' vp) w (w3.setCell ⟨q, 2, none⟩ va') := by
 subst hL; have hsz := Below.size hk; have hlt := oZ h.row; have keep : ∀ b, b < w.heap.size → va.ownBlock ≠ some b → w3.heap[b]? = w.heap[b]? := fun b h1 h2 => by
  rw [hg.block b (by omega) (fun e => h2 e.symm)]; exact Below.block hk b h1
 have n6 : va'.ownBlock ≠ some q := fun e => (hb q e).elim (h.qa ok) (fun e => by omega)
 have r1 := (keep q hlt (h.qa ok)).trans h.row; have ne : ∀ (b : Nat), b ≠ q → (w3.setCell ⟨q, 2, none⟩ va').heap[b]? = w3.heap[b]? := fun b hb => bS _ _ _ _ hb
 have nv : ∀ g : AcG, g.a.regs = [] ∧ g.o = none ∧ g.c = 0 → g.v = .slice none 0 0 := fun g ⟨q1, q2, q3⟩ => by unfold AcG.v; rw [q1, q2, q3]; rfl
 refine ⟨⟨(Joins.block_setCell r1 _).trans rfl, h.bq, rfl, ?_, ?_, ?_, hd⟩, ?_⟩
 ·exact sG ho (fun b e => ne b (fun e2 => n6 (e2 ▸ e)))
 ·refine sG h.op (fun b e => ?_)
  have hb2 := h.op.lt b e; rw [ne b (fun e2 => h.qp ok (e2 ▸ e))]; exact keep b hb2.2 (fun e2 => aQ h.oa h.op ok.ap b e2 e)
 ·intro g hgm
  rcases hs g hgm with q1 | q1
  ·refine sG (h.og g q1) (fun b e => ?_)
   have hb2 := (h.og g q1).lt b e; rw [ne b (fun e2 => h.qg ok q1 (e2 ▸ e))]; exact keep b hb2.2 (fun e2 => aQ h.oa (h.og g q1) ok.ar b e2 e)
  ·rw [nv g q1, q1.1]; exact World.ownsRow_nil _ _ _ _
 ·refine ⟨hg.os.trans hk.os, hg.tape.trans hk.tape, hg.output.trans hk.output, by simpa using Nat.le_trans hsz hg.size, fun b hb2 hn => ?_, fun b e => ?_⟩
  ·rw [ne b (fun e => hn (.inl e))]; exact keep b hb2 (fun e => hn (.inr (.inl e)))
  ·rcases e with rfl | e | e | ⟨g, q1, e⟩
   ·exact .inl (.inl rfl)
   ·exact (hb b e).imp (fun e => .inr (.inl e)) id
   ·exact .inl (.inr (.inr (.inl e)))
   ·rcases hs g q1 with q2 | q2
    ·exact .inl (.inr (.inr (.inr ⟨g, q2, e⟩)))
    ·rw [nv g q2] at e
     cases e
theorem GS.repP (h : GS T B q m gs va vp w) (ok : T.Ok) (hk : Kp w W) (hg : W.grownBy w3 vp.ownBlock) {L : Nat} {ps : List PaM} (hL : ps.length = L) (ho : w3.ownsRow B T.pt 7 vp' L (paE.row ps))
  (hb : ∀ b, vp'.ownBlock = some b → vp.ownBlock = some b ∨ w.heap.size ≤ b) :
  GS T B q { m with parts := ps } gs va vp' (w3.setCell ⟨q, 3, none⟩ vp') ∧ Asd (Ow q gs va vp) (Ow q gs va vp') w (w3.setCell ⟨q, 3, none⟩ vp') := by
 subst hL; have hsz := Below.size hk; have hlt := oZ h.row; have keep : ∀ b, b < w.heap.size → vp.ownBlock ≠ some b → w3.heap[b]? = w.heap[b]? := fun b h1 h2 => by
  rw [hg.block b (by omega) (fun e => h2 e.symm)]; exact Below.block hk b h1
 have n6 : vp'.ownBlock ≠ some q := fun e => (hb q e).elim (h.qp ok) (fun e => by omega)
 have r1 := (keep q hlt (h.qp ok)).trans h.row; have ne : ∀ (b : Nat), b ≠ q → (w3.setCell ⟨q, 3, none⟩ vp').heap[b]? = w3.heap[b]? := fun b hb => bS _ _ _ _ hb
 refine ⟨⟨(Joins.block_setCell r1 _).trans rfl, h.bq, h.acts, ?_, ?_, ?_, h.dis⟩, ?_⟩
 ·refine sG h.oa (fun b e => ?_)
  have hb2 := h.oa.lt b e; rw [ne b (fun e2 => h.qa ok (e2 ▸ e))]; exact keep b hb2.2 (fun e2 => aQ h.oa h.op ok.ap b e e2)
 ·exact sG ho (fun b e => ne b (fun e2 => n6 (e2 ▸ e)))
 ·intro g hgm; refine sG (h.og g hgm) (fun b e => ?_)
  have hb2 := (h.og g hgm).lt b e; rw [ne b (fun e2 => h.qg ok hgm (e2 ▸ e))]; exact keep b hb2.2 (fun e2 => aQ h.op (h.og g hgm) ok.pr b e2 e)
 ·refine ⟨hg.os.trans hk.os, hg.tape.trans hk.tape, hg.output.trans hk.output, by simpa using Nat.le_trans hsz hg.size, fun b hb2 hn => ?_, fun b e => ?_⟩
  ·rw [ne b (fun e => hn (.inl e))]; exact keep b hb2 (fun e => hn (.inr (.inr (.inl e))))
  ·rcases e with rfl | e | e | e
   ·exact .inl (.inl rfl)
   ·exact .inl (.inr (.inl e))
   ·exact (hb b e).imp (fun e => .inr (.inr (.inl e))) id
   ·exact .inl (.inr (.inr (.inr e)))
theorem GS.setP {g n cp j i : Nat} {x x' : PaM} {y : Value} (h : GS T B q m gs va (.slice (some ⟨g, 0, none⟩) n cp) w) (ok : T.Ok) (hx : m.parts[j]? = some x) (hi : i < 7) (he : paE.enc x' = (paE.enc x).set i y) :
  GS T B q { m with parts := m.parts.set j x' } gs va (.slice (some ⟨g, 0, none⟩) n cp) (w.setCell ⟨g, j * 7 + i, none⟩ y) ∧ Asd (Ow q gs va (.slice (some ⟨g, 0, none⟩) n cp)) (Ow q gs va (.slice (some ⟨g, 0, none⟩) n cp)) w (w.setCell ⟨g, j * 7 + i, none⟩ y) := by
 obtain ⟨hj, hx⟩ := List.getElem?_eq_some_iff.1 hx; have ne : ∀ (b : Nat), b ≠ g → (w.setCell ⟨g, j * 7 + i, none⟩ y).heap[b]? = w.heap[b]? := fun b hb => bS _ _ _ _ hb
 have hn : m.parts.length = n := own_lenG (E := paE) (by decide) (by
  obtain ⟨a, c, e⟩ := fG h.op; injection e with _ e _
  rw [e]; exact h.op)
 subst hn; have hrow := row_set1 paE m.parts j hj i hi y x' (by rw [hx]; exact he); have o1 := (h.op.stored (j * 7 + i) y).1; rw [show (paE.row m.parts).set (j * 7 + i) y = paE.row (m.parts.set j x') from hrow] at o1; refine ⟨⟨?_, h.bq, h.acts, ?_, ?_, ?_, h.dis⟩, asdQ (.inr (.inr (.inl rfl))) _⟩
 ·rw [ne q (fun e => h.qp ok (by rw [e]; rfl))]; exact h.row
 ·exact sG h.oa (fun b e => ne b (fun e2 => aQ h.oa h.op ok.ap b e (by rw [e2]; rfl)))
 ·show World.ownsRow _ B T.pt 7 _ (m.parts.set j x').length _
  rw [List.length_set]; exact o1
 ·exact fun x hx => sG (h.og x hx) (fun b e => ne b (fun e2 => aQ h.op (h.og x hx) ok.pr b (by rw [e2]; rfl) e))
theorem set_at {α : Type} {l : List α} {i j : Nat} {x y : α} (h : (l.set i x)[j]? = some y) : (i = j ∧ y = x) ∨ (i ≠ j ∧ l[j]? = some y) := by
 rw [List.getElem?_set] at h
 by_cases e : i = j
 ·rw [if_pos e] at h
  split at h
  ·exact .inl ⟨e, by injection h with h; exact h.symm⟩
  ·cases h
 ·rw [if_neg e] at h; exact .inr ⟨e, h⟩
theorem dis_set {i : Nat} {g g' : AcG} (hd : ∀ (i j : Nat) (g h : AcG), gs[i]? = some g → gs[j]? = some h → i ≠ j → ∀ b, g.v.ownBlock = some b → h.v.ownBlock ≠ some b) (hg : gs[i]? = some g) {N : Nat} (hN : ∀ x ∈ gs, ∀ b, x.v.ownBlock = some b → b < N) (hb : ∀ b, g'.v.ownBlock = some b → g.v.ownBlock = some b ∨ N ≤ b) :
  ∀ (k j : Nat) (x y : AcG), (gs.set i g')[k]? = some x → (gs.set i g')[j]? = some y → k ≠ j → ∀ b, x.v.ownBlock = some b → y.v.ownBlock ≠ some b := by
 intro k j x y hx hy hkj b e1 e2
 rcases set_at hx with ⟨k1, k2⟩ | ⟨h1, hx2⟩
 ·rcases set_at hy with ⟨k3, k4⟩ | ⟨h2, hy2⟩
  ·exact hkj (k1.symm.trans k3)
  ·subst k2
   rcases hb b e1 with q | q
   ·exact hd i j g y hg hy2 (fun e => h2 e) b q e2
   ·have := hN y (List.mem_of_getElem? hy2) b e2; omega
 ·rcases set_at hy with ⟨k3, k4⟩ | ⟨h2, hy2⟩
  ·subst k4
   rcases hb b e2 with q | q
   ·exact hd k i x g hx2 hg (fun e => h1 e.symm) b e1 q
   ·have := hN x (List.mem_of_getElem? hx2) b e1; omega
  ·exact hd k j x y hx2 hy2 hkj b e1 e2
theorem GS.setA {g n cp j i : Nat} {x x' : AcG} {y : Value} (h : GS T B q m gs (.slice (some ⟨g, 0, none⟩) n cp) vp w) (ok : T.Ok) (hx : gs[j]? = some x) (hi : i < 8) (he : acE.enc x' = (acE.enc x).set i y) (hr : x'.a.regs = x.a.regs) (hv : x'.v = x.v) :
  GS T B q { m with acts := m.acts.set j x'.a } (gs.set j x') (.slice (some ⟨g, 0, none⟩) n cp) vp (w.setCell ⟨g, j * 8 + i, none⟩ y) ∧ Asd (Ow q gs (.slice (some ⟨g, 0, none⟩) n cp) vp) (Ow q (gs.set j x') (.slice (some ⟨g, 0, none⟩) n cp) vp) w (w.setCell ⟨g, j * 8 + i, none⟩ y) := by
 obtain ⟨hj, hx'⟩ := List.getElem?_eq_some_iff.1 hx; have ne : ∀ (b : Nat), b ≠ g → (w.setCell ⟨g, j * 8 + i, none⟩ y).heap[b]? = w.heap[b]? := fun b hb => bS _ _ _ _ hb
 have hn : gs.length = n := own_lenG (E := acE) (by decide) (by
  obtain ⟨a, c, e⟩ := fG h.oa; injection e with _ e _
  rw [e]; exact h.oa)
 subst hn; have hrow := row_set1 acE gs j hj i hi y x' (by rw [hx']; exact he); have o1 := (h.oa.stored (j * 8 + i) y).1; rw [show (acE.row gs).set (j * 8 + i) y = acE.row (gs.set j x') from hrow] at o1; have hmem : x ∈ gs := List.mem_of_getElem? hx; refine ⟨⟨?_, h.bq, ?_, ?_, ?_, ?_, ?_⟩, ?_⟩
 ·rw [ne q (fun e => h.qa ok (by rw [e]; rfl))]; exact h.row
 ·show m.acts.set j x'.a = _
  rw [h.acts, List.map_set]
 ·rw [List.length_set]; exact o1
 ·exact sG h.op (fun b e => ne b (fun e2 => aQ h.oa h.op ok.ap b (by rw [e2]; rfl) e))
 ·intro z hz; have : ∃ z0 ∈ gs, z.v = z0.v ∧ z.a.regs = z0.a.regs := by
   rcases mem_set hz with hz | rfl
   ·exact ⟨z, hz, rfl, rfl⟩
   ·exact ⟨x, hmem, hv, hr⟩
  obtain ⟨z0, hz0, e1, e2⟩ := this; rw [e1, e2]; exact sG (h.og z0 hz0) (fun b e => ne b (fun e3 => aQ h.oa (h.og z0 hz0) ok.ar b (by rw [e3]; rfl) e))
 ·exact dis_set h.dis hx (N := w.heap.size) (fun z hz b e => ((h.og z hz).lt b e).2) (fun b e => .inl (by rw [← hv]; exact e))
 ·refine ⟨rfl, rfl, rfl, by simp, fun b _ hn => ne b (fun e => hn (.inr (.inl (by rw [e]; rfl)))), fun b e => .inl ?_⟩
  rcases e with rfl | e | e | ⟨z, hz, e⟩
  ·exact .inl rfl
  ·exact .inr (.inl e)
  ·exact .inr (.inr (.inl e))
  ·rcases mem_set hz with hz | rfl
   ·exact .inr (.inr (.inr ⟨z, hz, e⟩))
   ·exact .inr (.inr (.inr ⟨x, hmem, by rw [← hv]; exact e⟩))
theorem GS.setR {gr cr j k i : Nat} {a : AcM} {r r' : RgM} {y : Value} (h : GS T B q m gs va vp w) (ok : T.Ok) (hx : gs[j]? = some ⟨a, some ⟨gr, 0, none⟩, cr⟩) (hk : a.regs[k]? = some r) (hi : i < 6) (he : rgE.enc r' = (rgE.enc r).set i y) :
  GS T B q { m with acts := m.acts.set j { a with regs := a.regs.set k r' } } (gs.set j ⟨{ a with regs := a.regs.set k r' }, some ⟨gr, 0, none⟩, cr⟩) va vp (w.setCell ⟨gr, k * 6 + i, none⟩ y) ∧ Asd (Ow q gs va vp) (Ow q (gs.set j ⟨{ a with regs := a.regs.set k r' }, some ⟨gr, 0, none⟩, cr⟩) va vp) w (w.setCell ⟨gr, k * 6 + i, none⟩ y) := by
 obtain ⟨hk2, hk'⟩ := List.getElem?_eq_some_iff.1 hk; have ne : ∀ (b : Nat), b ≠ gr → (w.setCell ⟨gr, k * 6 + i, none⟩ y).heap[b]? = w.heap[b]? := fun b hb => bS _ _ _ _ hb
 have hmem : (⟨a, some ⟨gr, 0, none⟩, cr⟩ : AcG) ∈ gs := List.mem_of_getElem? hx; have hO := h.og _ hmem; have hrow := row_set1 rgE a.regs k hk2 i hi y r' (by rw [hk']; exact he); have o1 := (World.ownsRow.stored (n := a.regs.length) (cap := cr) hO (k * 6 + i) y).1; rw [show (rgE.row a.regs).set (k * 6 + i) y = rgE.row (a.regs.set k r') from hrow] at o1; have hv : (⟨{ a with regs := a.regs.set k r' }, some ⟨gr, 0, none⟩, cr⟩ : AcG).v = .slice (some ⟨gr, 0, none⟩) a.regs.length cr := by
  unfold AcG.v; dsimp only; rw [List.length_set]
 have hob : (⟨{ a with regs := a.regs.set k r' }, some ⟨gr, 0, none⟩, cr⟩ : AcG).v.ownBlock = some gr := rfl; have hob2 : (⟨a, some ⟨gr, 0, none⟩, cr⟩ : AcG).v.ownBlock = some gr := rfl; obtain ⟨hj, hxj⟩ := List.getElem?_eq_some_iff.1 hx; have erow : acE.row (gs.set j ⟨{ a with regs := a.regs.set k r' }, some ⟨gr, 0, none⟩, cr⟩) = acE.row gs := by
  have := row_set1 acE gs j hj 7 (by decide) (.slice (some ⟨gr, 0, none⟩) a.regs.length cr) ⟨{ a with regs := a.regs.set k r' }, some ⟨gr, 0, none⟩, cr⟩ (by
   rw [hxj]; simp only [acE, AcG.v, List.length_set, List.set_cons_succ, List.set_cons_zero])
  rw [← this]
  apply List.ext_getElem?
  intro p; rw [List.getElem?_set]
  split
  ·rename_i e
   subst e
   split
   ·rw [row_at acE gs j hj 7 (by decide), hxj]
    rfl
   ·rename_i e
    exact absurd (by rw [row_len]; have : acE.k = 8 := rfl; rw [this]; omega) e
  ·rfl
 refine ⟨⟨?_, h.bq, ?_, ?_, ?_, ?_, ?_⟩, ?_⟩
 ·rw [ne q (fun e => h.qg ok hmem (by rw [e]; rfl))]; exact h.row
 ·show m.acts.set j _ = _
  rw [h.acts, List.map_set]
 ·rw [List.length_set, erow]; exact sG h.oa (fun b e => ne b (fun e2 => aQ h.oa hO ok.ar b e (by rw [e2]; rfl)))
 ·exact sG h.op (fun b e => ne b (fun e2 => aQ h.op hO ok.pr b e (by rw [e2]; rfl)))
 ·intro z hz; obtain ⟨p, hp⟩ := List.getElem?_of_mem hz
  rcases set_at hp with ⟨rfl, rfl⟩ | ⟨hne, hp⟩
  ·rw [hv]; dsimp only; rw [List.length_set]; exact o1
  ·exact sG (h.og z (List.mem_of_getElem? hp)) (fun b e => ne b (fun e2 => h.dis j p _ z hx hp hne gr hob2 (by rw [← e2]; exact e)))
 ·exact dis_set h.dis hx (N := w.heap.size) (fun z hz b e => ((h.og z hz).lt b e).2) (fun b e => .inl e)
 ·refine ⟨rfl, rfl, rfl, by simp, fun b _ hn => ne b (fun e => hn (.inr (.inr (.inr ⟨_, hmem, by rw [e]; rfl⟩)))), fun b e => .inl ?_⟩
  rcases e with rfl | e | e | ⟨z, hz, e⟩
  ·exact .inl rfl
  ·exact .inr (.inl e)
  ·exact .inr (.inr (.inl e))
  ·rcases mem_set hz with hz | rfl
   ·exact .inr (.inr (.inr ⟨z, hz, e⟩))
   ·exact .inr (.inr (.inr ⟨_, hmem, e⟩))
theorem GS.repR {ga n cp j L c' : Nat} {o' : Option Addr} {x : AcG} {rs : List RgM} (h : GS T B q m gs (.slice (some ⟨ga, 0, none⟩) n cp) vp w) (ok : T.Ok) (hx : gs[j]? = some x) (hk : Kp w W) (hg : W.grownBy w3 x.v.ownBlock) (hL : rs.length = L) (ho : w3.ownsRow B T.rg 6 (.slice o' L c') L (rgE.row rs))
  (hb : ∀ b, (Value.slice o' L c').ownBlock = some b → x.v.ownBlock = some b ∨ w.heap.size ≤ b) :
  GS T B q { m with acts := m.acts.set j { x.a with regs := rs } } (gs.set j ⟨{ x.a with regs := rs }, o', c'⟩) (.slice (some ⟨ga, 0, none⟩) n cp) vp (w3.setCell ⟨ga, j * 8 + 7, none⟩ (.slice o' L c')) ∧
   Asd (Ow q gs (.slice (some ⟨ga, 0, none⟩) n cp) vp) (Ow q (gs.set j ⟨{ x.a with regs := rs }, o', c'⟩) (.slice (some ⟨ga, 0, none⟩) n cp) vp) w (w3.setCell ⟨ga, j * 8 + 7, none⟩ (.slice o' L c')) := by
 subst hL; obtain ⟨hj, hxj⟩ := List.getElem?_eq_some_iff.1 hx; have hmem : x ∈ gs := List.mem_of_getElem? hx; have hO := h.og _ hmem; have hsz := Below.size hk; have hlt := oZ h.row; have keep : ∀ b, b < w.heap.size → x.v.ownBlock ≠ some b → w3.heap[b]? = w.heap[b]? := fun b h1 h2 => by
  rw [hg.block b (by omega) (fun e => h2 e.symm)]; exact Below.block hk b h1
 have hga := h.oa.lt ga rfl; have gaq : ga ≠ q := fun e => h.qa ok (by rw [e]; rfl)
 have gax : x.v.ownBlock ≠ some ga := fun e => aQ h.oa hO ok.ar ga rfl e
 have gav : (Value.slice o' rs.length c').ownBlock ≠ some ga := fun e => (hb ga e).elim gax (fun e => by omega)
 have ne : ∀ (b : Nat), b ≠ ga → (w3.setCell ⟨ga, j * 8 + 7, none⟩ (.slice o' rs.length c')).heap[b]? = w3.heap[b]? := fun b hb => bS _ _ _ _ hb
 have hn : gs.length = n := own_lenG (E := acE) (by decide) (by
  obtain ⟨a, c, e⟩ := fG h.oa; injection e with _ e _
  rw [e]; exact h.oa)
 subst hn; have hrow := row_set1 acE gs j hj 7 (by decide) (.slice o' rs.length c') ⟨{ x.a with regs := rs }, o', c'⟩ (by
  rw [hxj]; simp only [acE, AcG.v, List.set_cons_succ, List.set_cons_zero])
 have oa3 : w3.ownsRow B T.ac 8 (.slice (some ⟨ga, 0, none⟩) gs.length cp) gs.length (acE.row gs) := sG h.oa (fun b e => keep b (h.oa.lt b e).2 (fun e2 => aQ h.oa hO ok.ar b e e2)); have o1 := (oa3.stored (j * 8 + 7) (.slice o' rs.length c')).1; rw [show (acE.row gs).set (j * 8 + 7) (.slice o' rs.length c') = acE.row (gs.set j ⟨{ x.a with regs := rs }, o', c'⟩) from hrow] at o1; refine ⟨⟨?_, h.bq, ?_, ?_, ?_, ?_, ?_⟩, ?_⟩
 ·rw [ne q (fun e => gaq e.symm), keep q hlt (h.qg ok hmem)]; exact h.row
 ·show m.acts.set j _ = _
  rw [h.acts, List.map_set]
 ·rw [List.length_set]; exact o1
 ·refine sG h.op (fun b e => ?_)
  rw [ne b (fun e2 => aQ h.oa h.op ok.ap b (by rw [e2]; rfl) e)]; exact keep b (h.op.lt b e).2 (fun e2 => aQ h.op hO ok.pr b e e2)
 ·intro z hz; obtain ⟨p, hp⟩ := List.getElem?_of_mem hz
  rcases set_at hp with ⟨rfl, rfl⟩ | ⟨hne, hp⟩
  ·exact sG ho (fun b e => ne b (fun e2 => gav (by rw [← e2]; exact e)))
  ·have hz0 := List.mem_of_getElem? hp; refine sG (h.og z hz0) (fun b e => ?_)
   rw [ne b (fun e2 => aQ h.oa (h.og z hz0) ok.ar b (by rw [e2]; rfl) e)]; exact keep b ((h.og z hz0).lt b e).2 (fun e2 => h.dis j p _ z hx hp hne b e2 e)
 ·exact dis_set h.dis hx (N := w.heap.size) (fun z hz b e => ((h.og z hz).lt b e).2) (fun b e => hb b e)
 ·refine ⟨hg.os.trans hk.os, hg.tape.trans hk.tape, hg.output.trans hk.output, by simpa using Nat.le_trans hsz hg.size, fun b hb2 hn => ?_, fun b e => ?_⟩
  ·rw [ne b (fun e => hn (.inr (.inl (by rw [e]; rfl))))]; exact keep b hb2 (fun e => hn (.inr (.inr (.inr ⟨x, hmem, e⟩))))
  ·rcases e with rfl | e | e | ⟨z, hz, e⟩
   ·exact .inl (.inl rfl)
   ·exact .inl (.inr (.inl e))
   ·exact .inl (.inr (.inr (.inl e)))
   ·rcases mem_set hz with hz | rfl
    ·exact .inl (.inr (.inr (.inr ⟨z, hz, e⟩)))
    ·exact (hb b e).imp (fun e => .inr (.inr (.inr ⟨x, hmem, e⟩))) id
end
open Go.RowKit Go.ChangeShapes Go.WideShapes
theorem one_int9 {H : Type} {enc : TypeId × Value → H} {W : World} {n : Nat} {cs : List Value} {y : DataW H × List MemPlace} {v : Value} (h : DataW.trod enc Tryz.prog W 0 (fun _ => true) true n 3 cs = some y) (hc : cs = [v]) : ∃ x : Int, v = .int .i64 x := by
 obtain ⟨x, e, _, _⟩ := DataW.trod_int Tryz.underlying3 h; rw [hc] at e; exact ⟨x, by simpa using e⟩
theorem one_float9 {H : Type} {enc : TypeId × Value → H} {W : World} {n : Nat} {cs : List Value} {y : DataW H × List MemPlace} {v : Value} (h : DataW.trod enc Tryz.prog W 0 (fun _ => true) true n 58 cs = some y) (hc : cs = [v]) : ∃ x : Nat, v = .float .f64 x ∧ x < 18446744073709551616 := by
 rw [hc] at h
 cases n with
 | zero => simp [DataW.trod] at h
 | succ n =>
  unfold DataW.trod at h; rw [Tryz.underlying58] at h
  split at h <;> simp_all
  rename_i hk
  subst hk
  simpa [Lit.wf] using h.1.2
end Go.Proofs.YtncoofnhifcnhaaGreatDoor
