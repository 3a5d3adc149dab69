/- Parts of this proof (own work). -/
import Derived.Test.YtpemeenfhkgmpaaGreatDoorZf33
set_option maxRecDepth 100000
set_option maxHeartbeats 40000000
namespace Go.Proofs.YtpemeenfhkgmpaaGreatDoor
open Go.RowKit Go.ChangeShapes Go.WideShapes
def goneS (m : StM) : List FX := if lastS m.acts ≠ m.next - 1 then [⟨1, m.node, m.next - 1, 0, 0, 0, 0, 1, 0, 0, 0, 0, 0, 0⟩, ⟨5, m.node, m.next - 1, 0, 0, 0, 0, 0, 0, 0, 0, 0, 0, 0⟩] else []
theorem factsS_eq (m : StM) : factsS m = factsP 0 m.parts ++ m.acts.flatMap factsA ++ goneS m := rfl
theorem lastS_ge {m : StM} (ok : OkS m) : -1 ≤ lastS m.acts := by
 unfold lastS
 cases h : m.acts.getLast? with
 | none => decide
 | some x =>
  have h1 := (ok.a x (List.mem_of_getLast? h)).c; have h2 := rightX_act h1; unfold rightA at h2; have h3 := of_decide_eq_true h2
  show -1 ≤ x.c.s
  omega
theorem next_inS {m : StM} (ok : OkS m) : 0 ≤ m.next ∧ m.next ≤ 1000000 := by
 have h1 := lastS_ge ok; have h2 := ok.nx; refine ⟨by omega, ?_⟩
 rcases ok.last with h | ⟨_, h⟩
 ·unfold lastS at h
  cases hg : m.acts.getLast? with
  | none => rw [hg] at h; simp at h; omega
  | some x =>
   rw [hg] at h; have h1 := (ok.a x (List.mem_of_getLast? hg)).c; have h2 := rightX_act h1; unfold rightA at h2; have h3 := of_decide_eq_true h2
   simp at h
   omega
 ·unfold rightA at h; have h3 := of_decide_eq_true h; omega
theorem gone_eq {m : StM} (ok : OkS m) : ((findS m.acts m.node (m.next - 1)).isSome || decide (m.next = 0)) = decide (lastS m.acts = m.next - 1) := by
 have hge := lastS_ge ok; have hnx := ok.nx; have hlt := seqS_lt m.acts 0 ok.seq; have hnl := nextS_last m.acts 0
 by_cases h : lastS m.acts = m.next - 1
 ·rw [dT h, Bool.or_eq_true]
  by_cases hq : m.acts = []
  ·right
   rw [hq] at h; have : lastS [] = -1 := rfl; exact dT (by omega)
  ·left
   obtain ⟨x, hx, hl⟩ := lastS_mem hq; unfold findS; rw [List.findIdx?_isSome, List.any_eq_true]; exact ⟨x, hx, dT ⟨(ok.a x hx).n, by omega⟩⟩
 ·rw [dF h, Bool.or_eq_false_iff]; refine ⟨?_, dF (by omega)⟩
  unfold findS; rw [List.findIdx?_isSome, List.any_eq_false]; intro x hx hq; have h1 := of_decide_eq_true hq; have h2 := hlt x hx; rw [hnl, if_neg (List.ne_nil_of_mem hx)] at h2; omega
variable {w0 w w' W w3 : World} {B q : Nat} {m : StM} {gs : List AcG} {va vp : Value}
theorem set_2G {b : Nat} {t : TypeId} {w : World} {x0 x1 : Value} (y0 y1 : Value) (h : w.heap[b]? = some (.cells #[x0, x1] t (0, 0))) : ((w.setCell ⟨b, 0, none⟩ y0).setCell ⟨b, 1, none⟩ y1).heap[b]? = some (.cells #[y0, y1] t (0, 0)) := by
 have h0 : (w.setCell ⟨b, 0, none⟩ y0).heap[b]? = some (.cells #[y0, x1] t (0, 0)) := (Joins.block_setCell h _).trans rfl; exact (Joins.block_setCell h0 _).trans rfl
theorem set_2_kpG {b : Nat} {w0 w : World} (hk : Kp w0 w) (hb : w0.heap.size ≤ b) (y0 y1 : Value) : Kp w0 ((w.setCell ⟨b, 0, none⟩ y0).setCell ⟨b, 1, none⟩ y1) := by
 refine Below.setCell ?_ hb _
 refine Below.setCell ?_ hb _
 exact hk
theorem own_nilFx {B : Nat} : w.ownsRow B 39 14 (.slice none 0 0) 0 (fcE.row []) := ⟨by simp [EncG.row], .inl ⟨rfl, rfl⟩⟩
theorem cells_2S {b : Nat} {t : TypeId} {w : World} {x0 x1 : Value} (h : w.heap[b]? = some (.cells #[x0, x1] t (0, 0))) : w.cell? ⟨b, 0, none⟩ = some x0 ∧ w.cell? ⟨b, 1, none⟩ = some x1 := by
 refine ⟨?_, ?_⟩ <;> (unfold World.cell?; dsimp only; rw [h]; rfl)
theorem own_twoF (B : Nat) (nd ns : Int) (hb : B ≤ w.heap.size) : (w.alloc (.cells #[(1:Int), nd, ns, (0:Int), (0:Int), (0:Int), (0:Int), (1:Int), (0:Int), (0:Int), (0:Int), (0:Int), (0:Int), .float .f64 0, (5:Int), nd, ns, (0:Int), (0:Int), (0:Int), (0:Int), (0:Int), (0:Int), (0:Int), (0:Int), (0:Int), (0:Int), .float .f64 0] 39)).ownsRow B 39 14 (.slice (some ⟨w.heap.size, 0, none⟩) 2 2) 2 (fcE.row [(⟨1, nd, ns, 0, 0, 0, 0, 1, 0, 0, 0, 0, 0, 0⟩ : FX), (⟨5, nd, ns, 0, 0, 0, 0, 0, 0, 0, 0, 0, 0, 0⟩ : FX)]) := by
 have := World.ownsRow_lit (base := B) (e := 39) (size := 14) w #[.int .i64 1, .int .i64 nd, .int .i64 ns, .int .i64 0, .int .i64 0, .int .i64 0, .int .i64 0, .int .i64 1, .int .i64 0, .int .i64 0, .int .i64 0, .int .i64 0, .int .i64 0, .float .f64 0, .int .i64 5, .int .i64 nd, .int .i64 ns, .int .i64 0, .int .i64 0, .int .i64 0, .int .i64 0, .int .i64 0, .int .i64 0, .int .i64 0, .int .i64 0, .int .i64 0, .int .i64 0, .float .f64 0] 2 hb (by decide) rfl; rw [show fcE.row [(⟨1, nd, ns, 0, 0, 0, 0, 1, 0, 0, 0, 0, 0, 0⟩ : FX), (⟨5, nd, ns, 0, 0, 0, 0, 0, 0, 0, 0, 0, 0, 0⟩ : FX)] = (#[.int .i64 1, .int .i64 nd, .int .i64 ns, .int .i64 0, .int .i64 0, .int .i64 0, .int .i64 0, .int .i64 1, .int .i64 0, .int .i64 0, .int .i64 0, .int .i64 0, .int .i64 0, .float .f64 0, .int .i64 5, .int .i64 nd, .int .i64 ns, .int .i64 0, .int .i64 0, .int .i64 0, .int .i64 0, .int .i64 0, .int .i64 0, .int .i64 0, .int .i64 0, .int .i64 0, .int .i64 0, .float .f64 0]).toList by unfold EncG.row; simp [fcE, FX.cells]]
 exact this
theorem own_twoF1 (B : Nat) (nd ns : Int) (o : Obj) (hb : B ≤ (w.alloc o).heap.size) : ((w.alloc o).alloc (.cells #[(1:Int), nd, ns, (0:Int), (0:Int), (0:Int), (0:Int), (1:Int), (0:Int), (0:Int), (0:Int), (0:Int), (0:Int), .float .f64 0, (5:Int), nd, ns, (0:Int), (0:Int), (0:Int), (0:Int), (0:Int), (0:Int), (0:Int), (0:Int), (0:Int), (0:Int), .float .f64 0] 39)).ownsRow B 39 14 (.slice (some ⟨w.heap.size + 1, 0, none⟩) 2 2) 2 (fcE.row [(⟨1, nd, ns, 0, 0, 0, 0, 1, 0, 0, 0, 0, 0, 0⟩ : FX), (⟨5, nd, ns, 0, 0, 0, 0, 0, 0, 0, 0, 0, 0, 0⟩ : FX)]) := by
 have := own_twoF B nd ns hb; rw [show (w.alloc o).heap.size = w.heap.size + 1 by simp] at this; exact this
theorem lsGone (H : GS tyL B q m gs va vp w) (ok : OkS m) : Calls Tryz.prog 41 #[.pointer (some ⟨q, 0, none⟩)] w fun r w' => ∃ v, r = .returned v ∧ w'.ownsRow w.heap.size 39 14 v (goneS m).length (fcE.row (goneS m)) ∧ Kp w w' := by
 have hge := gone_eq ok; have hni := next_inS ok; have h8 : gs.length ≤ 8 := by rw [H.len]; exact ok.l8
 have h6 : ∀ a ∈ m.acts, a.regs.length ≤ 6 := fun a ha => (ok.a a ha).l
 have e0 : w.cell? ⟨q, 0, none⟩ = some (.int .i64 m.node) := cU (i := 0) H.row rfl; have e1 : w.cell? ⟨q, 1, none⟩ = some (.int .i64 m.next) := cU (i := 1) H.row rfl; have hfi := fun w1 (hk : Kp w w1) => stFind (H.kp hk) h8 h6 m.node (m.next - 1)
 have hG : goneS m = if lastS m.acts ≠ m.next - 1 then [⟨1, m.node, m.next - 1, 0, 0, 0, 0, 1, 0, 0, 0, 0, 0, 0⟩, ⟨5, m.node, m.next - 1, 0, 0, 0, 0, 0, 0, 0, 0, 0, 0, 0⟩] else [] := rfl
 obtain ⟨nd, hnd⟩ : ∃ x, m.node = x := ⟨_, rfl⟩
 obtain ⟨nx, hnx⟩ : ∃ x, m.next = x := ⟨_, rfl⟩
 rw [hnd] at e0 hfi hG hge; rw [hnx] at e1 hfi hni hG hge; have hw1 : wrap64 (nx - 1) = nx - 1 := IntWalk.wrap64_in _ (by omega); obtain ⟨ns, hns⟩ : ∃ x, nx - 1 = x := ⟨_, rfl⟩
 rw [hns] at hfi hG hge; have hw1 : wrap64 (nx - 1) = ns := hw1.trans hns; have hw2 : IntKind.i64.wrap (nx - 1) = ns := by rw [IntKind.wrap_i64]; omega
 obtain ⟨GO, hGO⟩ : ∃ x, goneS m = x := ⟨_, rfl⟩
 rw [hGO] at hG ⊢; obtain ⟨fi, hf⟩ : ∃ x, findS m.acts nd ns = x := ⟨_, rfl⟩
 rw [hf] at hfi hge; obtain ⟨there, hth⟩ : ∃ x, fi.isSome = x := ⟨_, rfl⟩
 rw [hth] at hfi hge; obtain ⟨HFI, HGE, HG, HNS⟩ := hD4 hfi hge hG hns; have hsf := sF; clear hge hni h8 h6 hfi hnd hnx hG hGO hf hth H ok hns
 cases there with
 | true =>
  have hE : GO = [] := by
   have h := HGE.out; rw [Bool.true_or] at h; rw [HG.out, if_neg (by have := of_decide_eq_true h.symm; omega)]
  subst hE; go_enter Tryz.func41, Tryz.ntmps41; go_wp2_with fail
  obtain ⟨WD, hWD⟩ : ∃ x, w.drew = x := ⟨_, rfl⟩
  have kD : Kp w WD := by rw [← hWD]; exact dQ (Kp.refl w)
  have HWD := hD hWD; clear hWD; refine rgW (fun w' => Kp w w') ?_ fun hH => ?_
  ·exact by rw [HWD.out]; exact kD
  rw [HWD.out] at hH ⊢; have hDD : Kp w WD := hH; refine tkP 0 ?_
  go_simp; refine tkP 1 ?_
  go_simp; refine tkP 2 ?_
  go_simp; refine tkP 3 ?_ (y := by intro w hZ; have a9 := hw1; obtain ⟨a0, a1⟩ := kZ2 hZ e0 e1; go_simp; try rfl)
  go_simp; refine tkP 4 ?_
  go_simp; refine tkP 5 ?_
  go_simp; refine tkP 6 ?_
  go_simp; refine tkP 7 ?_ (y := by intro w hZ; have a9 := hw1; obtain ⟨a0, a1⟩ := kZ2 hZ e0 e1; go_simp; try rfl)
  go_simp; refine tkP 8 ?_
  go_simp; refine tkP 9 ?_
  go_simp; refine rdW 10 fun K hK => ?_
  go_simp; refine hK.out _ _ (kT hH (kA _ _)) fun hH => ?_
  clear hK K; obtain ⟨Y13, hY13⟩ : ∃ x, WD.alloc (.cells #[(0:Int), (0:Int)] 36) = x := ⟨_, rfl⟩
  have r13 : Y13.heap[WD.heap.size]? = some (.cells #[(0:Int), (0:Int)] 36) := by rw [← hY13]; exact (mH WD (.cells #[(0:Int), (0:Int)] 36))
  have b13 : w.heap.size ≤ WD.heap.size := kS hDD; obtain ⟨p13, hp13⟩ : ∃ x, WD.heap.size = x := ⟨_, rfl⟩
  rw [hp13] at r13 b13; rw [hY13] at hH ⊢
  try rw [hp13]
  clear hY13 hp13; refine rdW 11 fun K hK => ?_
  obtain ⟨v0, v1⟩ := cells_2S r13; have fz5 := fQ r13; go_simp; refine hK.out _ _ (set_2_kpG hH b13 _ _) fun hH => ?_
  clear hK K; obtain ⟨w6, hw6⟩ : ∃ x, (Y13.setCell ⟨p13, 0, none⟩ (.int .i64 nd)).setCell ⟨p13, 1, none⟩ (.int .i64 ns) = x := ⟨_, rfl⟩
  have r10 : w6.heap[p13]? = some (.cells #[nd, ns] 36) := by rw [← hw6]; exact set_2G _ _ r13
  rw [hw6] at hH ⊢; have kw6 : Kp w w6 := hH; clear hw6 v0 v1 fz5; refine dnW ?_ _
  obtain ⟨q0, q1⟩ := kZ2 kw6 e0 e1; obtain ⟨s0, s1⟩ := cells_2S r10; obtain ⟨KW6, R10⟩ := hD2 kw6 r10; clear kw6 hH hDD r13 r10 b13; go_wp2_with (go_at_call 22; (with_reducible refine (HFI.out _ KW6.out).mono ?_); rintro e' w3 ⟨v, rfl, hO, hk3⟩; obtain ⟨xn, xs, xo, xd, xx, xp, xc, oo, nn, cc, rfl⟩ := hO.form; clear hO; have kq := kT hk3 (kA w3 (.cells #[xn, xs, xo, xd, xx, xp, xc, .slice oo nn cc] 65)); have K3 := hD (show Kp w _ from kT KW6.out kq); obtain ⟨z0, z1⟩ := kZ2 kq q0 q1; obtain ⟨t0, t1⟩ := cells_2S (rZ kq R10.out); clear hk3 kq KW6 R10 s0 s1)
  try go_wp2
  go_ret; exact ⟨_, rfl, own_nilFx, K3.out⟩
 | false =>
  by_cases hx : nx = 0
  ·have g1 : (nx == 0) = true := beq_iff_eq.2 hx; have hE : GO = [] := by
    have h := HGE.out; rw [dT hx, Bool.or_true] at h; rw [HG.out, if_neg (by have := of_decide_eq_true h.symm; omega)]
   subst hE; clear hx; go_enter Tryz.func41, Tryz.ntmps41; go_wp2_with fail
   obtain ⟨WD, hWD⟩ : ∃ x, w.drew = x := ⟨_, rfl⟩
   have kD : Kp w WD := by rw [← hWD]; exact dQ (Kp.refl w)
   have HWD := hD hWD; clear hWD; refine rgW (fun w' => Kp w w') ?_ fun hH => ?_
   ·exact by rw [HWD.out]; exact kD
   rw [HWD.out] at hH ⊢; have hDD : Kp w WD := hH; refine tkP 0 ?_
   go_simp; refine tkP 1 ?_
   go_simp; refine tkP 2 ?_
   go_simp; refine tkP 3 ?_ (y := by intro w hZ; have a9 := hw1; obtain ⟨a0, a1⟩ := kZ2 hZ e0 e1; go_simp; try rfl)
   go_simp; refine tkP 4 ?_
   go_simp; refine tkP 5 ?_
   go_simp; refine tkP 6 ?_
   go_simp; refine tkP 7 ?_ (y := by intro w hZ; have a9 := hw1; obtain ⟨a0, a1⟩ := kZ2 hZ e0 e1; go_simp; try rfl)
   go_simp; refine tkP 8 ?_
   go_simp; refine tkP 9 ?_
   go_simp; refine rdW 10 fun K hK => ?_
   go_simp; refine hK.out _ _ (kT hH (kA _ _)) fun hH => ?_
   clear hK K; obtain ⟨Y13, hY13⟩ : ∃ x, WD.alloc (.cells #[(0:Int), (0:Int)] 36) = x := ⟨_, rfl⟩
   have r13 : Y13.heap[WD.heap.size]? = some (.cells #[(0:Int), (0:Int)] 36) := by rw [← hY13]; exact (mH WD (.cells #[(0:Int), (0:Int)] 36))
   have b13 : w.heap.size ≤ WD.heap.size := kS hDD; obtain ⟨p13, hp13⟩ : ∃ x, WD.heap.size = x := ⟨_, rfl⟩
   rw [hp13] at r13 b13; rw [hY13] at hH ⊢
   try rw [hp13]
   clear hY13 hp13; refine rdW 11 fun K hK => ?_
   obtain ⟨v0, v1⟩ := cells_2S r13; have fz5 := fQ r13; go_simp; refine hK.out _ _ (set_2_kpG hH b13 _ _) fun hH => ?_
   clear hK K; obtain ⟨w6, hw6⟩ : ∃ x, (Y13.setCell ⟨p13, 0, none⟩ (.int .i64 nd)).setCell ⟨p13, 1, none⟩ (.int .i64 ns) = x := ⟨_, rfl⟩
   have r10 : w6.heap[p13]? = some (.cells #[nd, ns] 36) := by rw [← hw6]; exact set_2G _ _ r13
   rw [hw6] at hH ⊢; have kw6 : Kp w w6 := hH; clear hw6 v0 v1 fz5; refine dnW ?_ _
   obtain ⟨q0, q1⟩ := kZ2 kw6 e0 e1; obtain ⟨s0, s1⟩ := cells_2S r10; obtain ⟨KW6, R10⟩ := hD2 kw6 r10; clear kw6 hH hDD r13 r10 b13; go_wp2_with (go_at_call 22; (with_reducible refine (HFI.out _ KW6.out).mono ?_); rintro e' w3 ⟨v, rfl, hO, hk3⟩; obtain ⟨xn, xs, xo, xd, xx, xp, xc, oo, nn, cc, rfl⟩ := hO.form; clear hO; have kq := kT hk3 (kA w3 (.cells #[xn, xs, xo, xd, xx, xp, xc, .slice oo nn cc] 65)); have K3 := hD (show Kp w _ from kT KW6.out kq); obtain ⟨z0, z1⟩ := kZ2 kq q0 q1; obtain ⟨t0, t1⟩ := cells_2S (rZ kq R10.out); clear hk3 kq KW6 R10 s0 s1)
   try go_wp2
   go_ret; exact ⟨_, rfl, own_nilFx, K3.out⟩
  ·have g1 : (nx == 0) = false := by simpa using hx
   have hE : GO = [(⟨1, nd, ns, 0, 0, 0, 0, 1, 0, 0, 0, 0, 0, 0⟩ : FX), (⟨5, nd, ns, 0, 0, 0, 0, 0, 0, 0, 0, 0, 0, 0⟩ : FX)] := by
    have h := HGE.out; rw [dF hx, Bool.or_false] at h; rw [HG.out, if_pos (by have := of_decide_eq_false h.symm; omega)]
   subst hE; go_enter Tryz.func41, Tryz.ntmps41; go_wp2_with fail
   obtain ⟨WD, hWD⟩ : ∃ x, w.drew = x := ⟨_, rfl⟩
   have kD : Kp w WD := by rw [← hWD]; exact dQ (Kp.refl w)
   have HWD := hD hWD; clear hWD; refine rgW (fun w' => Kp w w') ?_ fun hH => ?_
   ·exact by rw [HWD.out]; exact kD
   rw [HWD.out] at hH ⊢; have hDD : Kp w WD := hH; refine tkP 0 ?_
   go_simp; refine tkP 1 ?_
   go_simp; refine tkP 2 ?_
   go_simp; refine tkP 3 ?_ (y := by intro w hZ; have a9 := hw1; obtain ⟨a0, a1⟩ := kZ2 hZ e0 e1; go_simp; try rfl)
   go_simp; refine tkP 4 ?_
   go_simp; refine tkP 5 ?_
   go_simp; refine tkP 6 ?_
   go_simp; refine tkP 7 ?_ (y := by intro w hZ; have a9 := hw1; obtain ⟨a0, a1⟩ := kZ2 hZ e0 e1; go_simp; try rfl)
   go_simp; refine tkP 8 ?_
   go_simp; refine tkP 9 ?_
   go_simp; refine rdW 10 fun K hK => ?_
   go_simp; refine hK.out _ _ (kT hH (kA _ _)) fun hH => ?_
   clear hK K; obtain ⟨Y13, hY13⟩ : ∃ x, WD.alloc (.cells #[(0:Int), (0:Int)] 36) = x := ⟨_, rfl⟩
   have r13 : Y13.heap[WD.heap.size]? = some (.cells #[(0:Int), (0:Int)] 36) := by rw [← hY13]; exact (mH WD (.cells #[(0:Int), (0:Int)] 36))
   have b13 : w.heap.size ≤ WD.heap.size := kS hDD; obtain ⟨p13, hp13⟩ : ∃ x, WD.heap.size = x := ⟨_, rfl⟩
   rw [hp13] at r13 b13; rw [hY13] at hH ⊢
   try rw [hp13]
   clear hY13 hp13; refine rdW 11 fun K hK => ?_
   obtain ⟨v0, v1⟩ := cells_2S r13; have fz5 := fQ r13; go_simp; refine hK.out _ _ (set_2_kpG hH b13 _ _) fun hH => ?_
   clear hK K; obtain ⟨w6, hw6⟩ : ∃ x, (Y13.setCell ⟨p13, 0, none⟩ (.int .i64 nd)).setCell ⟨p13, 1, none⟩ (.int .i64 ns) = x := ⟨_, rfl⟩
   have r10 : w6.heap[p13]? = some (.cells #[nd, ns] 36) := by rw [← hw6]; exact set_2G _ _ r13
   rw [hw6] at hH ⊢; have kw6 : Kp w w6 := hH; clear hw6 v0 v1 fz5; refine dnW ?_ _
   obtain ⟨q0, q1⟩ := kZ2 kw6 e0 e1; obtain ⟨s0, s1⟩ := cells_2S r10; obtain ⟨KW6, R10⟩ := hD2 kw6 r10; clear kw6 hH hDD r13 r10 b13; go_wp2_with (go_at_call 22; (with_reducible refine (HFI.out _ KW6.out).mono ?_); rintro e' w3 ⟨v, rfl, hO, hk3⟩; obtain ⟨xn, xs, xo, xd, xx, xp, xc, oo, nn, cc, rfl⟩ := hO.form; clear hO; have kq := kT hk3 (kA w3 (.cells #[xn, xs, xo, xd, xx, xp, xc, .slice oo nn cc] 65)); have K3 := hD (show Kp w _ from kT KW6.out kq); obtain ⟨z0, z1⟩ := kZ2 kq q0 q1; obtain ⟨t0, t1⟩ := cells_2S (rZ kq R10.out); clear hk3 kq KW6 R10 s0 s1)
   try go_wp2
   go_ret; exact ⟨_, rfl, own_twoF1 _ nd ns _ (kS K3.out), kT K3.out (kA _ _)⟩
theorem factsP_le : ∀ (i : Nat) (A : List PaM), (factsP i A).length ≤ 3 * A.length
 | _, [] => Nat.le_refl _
 | i, x :: A => by
  have ih := factsP_le (i + 1) A; have h1 := pFacts_len i x; have h2 : factsP i (x :: A) = pFacts i x ++ factsP (i + 1) A := by
   rw [show x :: A = [x] ++ A from rfl, factsP_app, factsP_one]
   rfl
  rw [h2, List.length_append, List.length_cons]; omega
theorem flat_le : ∀ (A : List AcM), (∀ a ∈ A, a.regs.length ≤ 6) → (A.flatMap factsA).length ≤ 14 * A.length
 | [], _ => Nat.le_refl _
 | a :: A, h => by
  have ih := flat_le A (fun x hx => h x (List.mem_cons_of_mem _ hx)); have h1 := factsA_len a; have h2 := h a List.mem_cons_self; rw [List.flatMap_cons, List.length_append, List.length_cons]; omega
theorem lsFacts (H : GS tyL B q m gs va vp w) (ok : OkS m) : Calls Tryz.prog 14 #[.pointer (some ⟨q, 0, none⟩)] w fun r w' => ∃ v, r = .returned v ∧ w'.ownsRow w.heap.size 39 14 v (factsS m).length (fcE.row (factsS m)) ∧ Kp w w' := by
 obtain ⟨a0, c0, eva⟩ := H.vForm; obtain ⟨b0, d0, evp⟩ := H.pForm; subst eva; subst evp; have HGN := hD (fun w1 (hk : Kp w w1) => lsGone (H.kp hk) ok); obtain ⟨nA, hnA⟩ : ∃ x, gs.length = x := ⟨_, rfl⟩
 obtain ⟨np, hnp⟩ : ∃ x, m.parts.length = x := ⟨_, rfl⟩
 have e3 : w.cell? ⟨q, 3, none⟩ = some (.slice b0 np d0) := by rw [← hnp]; exact cU (i := 3) H.row rfl
 have e2 : w.cell? ⟨q, 2, none⟩ = some (.slice a0 nA c0) := by rw [← hnA]; exact cU (i := 2) H.row rfl
 have hp : w.ownsRow B 75 7 (.slice b0 np d0) np (paE.row m.parts) := by have := H.op; rw [hnp] at this; exact this
 have ha : w.ownsRow B 65 8 (.slice a0 nA c0) nA (acE.row gs) := by have := H.oa; rw [hnA] at this; exact this
 obtain ⟨E2, HP, HA, HN, HN2⟩ := hD5 e2 hp ha hnp hnA; have HOG := hD H.og; have HAC := hD H.acts; have HOK := hD ok; have H8 := hD (show np ≤ 8 by rw [← hnp]; exact ok.p8); have H82 := hD (show nA ≤ 8 by rw [← hnA, H.len]; exact ok.l8); have hsf := sF; obtain ⟨N, hN⟩ : ∃ N : Int, (np : Int) = N := ⟨_, rfl⟩
 have HNN := hD hN; clear H ok hnA hnp e2 hp ha; go_enter Tryz.func14, Tryz.ntmps14; go_wp2; go_loopw [3, 13] (fun v i wr => ∃ j : Nat, j ≤ np ∧ i = .int .i64 j ∧ wr.ownsRow w.heap.size 39 14 v (factsP 0 (m.parts.take j)).length (fcE.row (factsP 0 (m.parts.take j))) ∧ Kp w wr) (fun _ i _ => np - (intOf i).toNat)
 case atStart => exact ⟨0, Nat.zero_le _, rfl, own_nilFx, Kp.refl _⟩
 case round =>
  obtain ⟨j, hj, rfl, hown, hk⟩ := hrel; obtain ⟨kk, hkk⟩ : ∃ x : Int, (j : Int) = x := ⟨_, rfl⟩
  rw [hkk]; obtain ⟨HKK, KR⟩ := hD2 hkk hk; obtain ⟨LL, hLL⟩ : ∃ x, factsP 0 (m.parts.take j) = x := ⟨_, rfl⟩
  rw [hLL] at hown; have HLL := hD hLL; obtain ⟨la, hla⟩ : ∃ x, LL.length = x := ⟨_, rfl⟩
  obtain ⟨a1, c1, rfl⟩ := fG hown; rw [hla] at hown ⊢; obtain ⟨OW, HLA⟩ := hD2 hown hla
  by_cases hlt : j < np
  ·have hjl : kk < N := by have := HNN.out; omega
   have hk0 : 0 ≤ kk := by omega
   have htk : kk.toNat = j := by omega
   have hN8 : N ≤ 8 := by have := HNN.out; have := H8.out; omega
   have hw1 : wrap64 (kk + 1) = kk + 1 := IntWalk.wrap64_in _ (by omega); have HLT := hD hlt; have hjo : j < m.parts.length := by have := HN.out; omega
   obtain ⟨gr, ck, exb, hck, hgrB, hgrl, hfzr, hcr⟩ := cQ (E := paE) (oK HP.out hk) HN.out hlt; obtain ⟨⟨yn, ys, yr, ⟨y1, y2, y3, y4⟩⟩, hy⟩ : ∃ r, m.parts[j]'hjo = r := ⟨_, rfl⟩
   have hcr2 : ∀ (i : Nat) (u : Value), i < paE.k → (paE.enc (m.parts[j]'hjo))[i]? = some u → wr.cell? ⟨gr, j * paE.k + i, none⟩ = some u := hcr; rw [hy, show paE.k = 7 from rfl, ← htk] at hcr2; have exb := congrArg (fun v => match v with | Value.slice a _ _ => a | _ => none) exb; dsimp only at exb; subst exb; obtain ⟨z0, z1, z2, z3, z4, z5, z6⟩ := cW7 hcr2; obtain ⟨d0, d1, d2, d3, d4, d5, d6⟩ := c7X (mH wr (.cells #[yn, ys, yr, y1, y2, y3, y4] 75)); have hts : m.parts.take (j + 1) = m.parts.take j ++ [m.parts[j]] := by rw [← List.take_succ_eq_append_getElem hjo]
   rw [hy] at hts; have hyr : -1 ≤ yr := by
    have := (HOK.out.p _ (List.getElem_mem hjo)).2.1; rw [hy] at this; exact this
   have htlen : (m.parts.take j).length = j := by rw [List.length_take]; omega
   clear hcr hcr2 hck hgrB hgrl hfzr hy; obtain ⟨FP, hFP⟩ : ∃ x, pFacts kk ⟨yn, ys, yr, ⟨y1, y2, y3, y4⟩⟩ = x := ⟨_, rfl⟩
   have HFP := hD hFP; have HTK := hD (show factsP 0 (m.parts.take (j + 1)) = LL ++ FP by rw [hts, factsP_app, htlen, Nat.zero_add, factsP_one, hkk, hLL, hFP]); have HLB := hD (show la + FP.length ≤ 1000000 by have h1 := factsP_le 0 (m.parts.take j); rw [hLL, hla, htlen] at h1; have h2 := pFacts_len kk ⟨yn, ys, yr, ⟨y1, y2, y3, y4⟩⟩; rw [hFP] at h2; omega); clear hkk hj hlt hk hown hla hLL hFP htk; go_wp2_with (first | (go_at_call 39; (with_reducible refine (lsPFacts yn ys yr y1 y2 y3 y4 kk hyr).mono ?_); rintro e' w3 ⟨v3, rfl, o3, hk3⟩; obtain ⟨b3, c3, rfl⟩ := fG o3; rw [HFP.out] at o3; obtain ⟨lf, hlf⟩ : ∃ x, FP.length = x := ⟨_, rfl⟩; rw [hlf] at o3; obtain ⟨HLF, O3, K3⟩ := hD3 hlf o3 hk3; try rw [HFP.out]; try rw [hlf]; clear o3 hk3 hlf) | (at_builtin; go_loud (refine aG (E := fcE) ty_fcL (by decide) _ rfl _ _ rfl w.heap.size _ la _ rfl (oK OW.out (kT (kA wr (.cells #[yn, ys, yr, y1, y2, y3, y4] 75)) K3.out)) _ FP rfl (qG (E := fcE) (by decide) O3.out) HLB.out (kS (kT (kT KR.out (kA wr (.cells #[yn, ys, yr, y1, y2, y3, y4] 75))) K3.out)) ?_)))
   rintro v6 u6 o6 hg hb6; have OX := oK OW.out (kT (kA wr (.cells #[yn, ys, yr, y1, y2, y3, y4] 75)) K3.out); have kx := kT (kT KR.out (kA wr (.cells #[yn, ys, yr, y1, y2, y3, y4] 75))) K3.out; have K6 := hD (show Kp w u6 from Below.grown kx hg (Below.size kx) (fun b hk => (OX.lt b hk).1)); have O6 := hD o6; clear o6 hg hb6 OX kx; go_wp2; go_roundw
   case rel => exact ⟨j + 1, by have := HLT.out; omega, by have := HKK.out; first | rw [show ((j + 1 : Nat) : Int) = kk + 1 by omega] | rw [show ((j + 1 : Nat) : Int) = kk + 1 by omega, hw1], by rw [HTK.out, List.length_append, HLA.out]; exact O6.out, K6.out⟩
   case measure => have := HKK.out; have := HLT.out; simp [intOf]; omega
  ·have hje : ¬ kk < N := by have := HNN.out; omega
   have hjn : j = np := by omega
   rw [hjn] at hLL; have hfin : m.parts.take np = m.parts := by rw [← HN.out, List.take_length]
   rw [hfin] at hLL; obtain ⟨wf, hwf⟩ : ∃ wf, wf = wr := ⟨wr, rfl⟩
   subst hwf; have OF := hD (show wf.ownsRow w.heap.size 39 14 (.slice a1 la c1) la (fcE.row LL) from hown); have KF := KR; obtain ⟨HFF, HLF0⟩ := hD2 hLL hla; obtain ⟨FF, hFF⟩ : ∃ x, LL = x := ⟨_, rfl⟩
   rw [hFF] at OF HFF HLF0; clear HLL HLA OW hFF; have e2 := kZ hk E2.out; clear hkk hj hlt hk hown hla hLL hfin HNN H8 hN; obtain ⟨N, hN⟩ : ∃ N : Int, (nA : Int) = N := ⟨_, rfl⟩
   have HNN := hD hN; have H8 := H82; go_wp2; go_loopw [3, 29] (fun v i wr => ∃ j : Nat, j ≤ nA ∧ i = .int .i64 j ∧ wr.ownsRow w.heap.size 39 14 v (FF ++ ((gs.take j).map AcG.a).flatMap factsA).length (fcE.row (FF ++ ((gs.take j).map AcG.a).flatMap factsA)) ∧ Kp w wr) (fun _ i _ => nA - (intOf i).toNat)
   case atStart => exact ⟨0, Nat.zero_le _, rfl, by rw [List.take_zero, List.map_nil, List.flatMap_nil, List.append_nil, HLF0.out]; exact OF.out, KF.out⟩
   case round =>
    obtain ⟨j, hj, rfl, hown, hk⟩ := hrel; obtain ⟨kk, hkk⟩ : ∃ x : Int, (j : Int) = x := ⟨_, rfl⟩
    rw [hkk]; obtain ⟨HKK, KR⟩ := hD2 hkk hk; obtain ⟨LL, hLL⟩ : ∃ x, FF ++ ((gs.take j).map AcG.a).flatMap factsA = x := ⟨_, rfl⟩
    rw [hLL] at hown; have HLL := hD hLL; obtain ⟨la, hla⟩ : ∃ x, LL.length = x := ⟨_, rfl⟩
    obtain ⟨a1, c1, rfl⟩ := fG hown; rw [hla] at hown ⊢; obtain ⟨OW, HLA⟩ := hD2 hown hla
    by_cases hlt : j < nA
    ·have hjl : kk < N := by have := HNN.out; omega
     have hk0 : 0 ≤ kk := by omega
     have htk : kk.toNat = j := by omega
     have hN8 : N ≤ 8 := by have := HNN.out; have := H8.out; omega
     have hw1 : wrap64 (kk + 1) = kk + 1 := IntWalk.wrap64_in _ (by omega); have HLT := hD hlt; have hjo : j < gs.length := by have := HN2.out; omega
     obtain ⟨gr, ck, exb, hck, hgrB, hgrl, hfzr, hcr⟩ := cQ (E := acE) (oK HA.out hk) HN2.out hlt; have exb := congrArg (fun v => match v with | Value.slice a _ _ => a | _ => none) exb; dsimp only at exb; subst exb; obtain ⟨⟨⟨⟨xn, xs, xo, xd, xx⟩, xp, xc, xr⟩, xb, xk⟩, hx⟩ : ∃ x, gs[j]'hjo = x := ⟨_, rfl⟩
     rw [hx, show acE.k = 8 from rfl, ← htk] at hcr; obtain ⟨xv, hxv⟩ : ∃ v, (⟨⟨⟨xn, xs, xo, xd, xx⟩, xp, xc, xr⟩, xb, xk⟩ : AcG).v = v := ⟨_, rfl⟩
     obtain ⟨z0, z1, z2, z3, z4, z5, z6, -⟩ := cW8 hcr; have z7 : wr.cell? ⟨gr, kk.toNat * 8 + 7, none⟩ = some xv := by rw [← hxv]; exact hcr 7 _ (by decide) rfl
     unfold AcG.v at hxv; dsimp only at hxv; obtain ⟨nv, hnv⟩ : ∃ n, xr.length = n := ⟨_, rfl⟩
     rw [hnv] at hxv; subst hxv; obtain ⟨d0, d1, d2, d3, d4, d5, d6, d7⟩ := c8X (mH wr (.cells #[xn, xs, xo, xd, xx, xp, xc, .slice xb nv xk] 65)); have hgm : gs[j] ∈ gs := List.getElem_mem hjo; rw [hx] at hgm; have hogx := HOG.out _ hgm; unfold AcG.v at hogx; dsimp only at hogx; rw [hnv] at hogx; have OGX := hD (oK hogx hk); have hn6 : nv ≤ 6 := by rw [← hnv]; exact (HOK.out.a _ (by rw [HAC.out]; exact List.mem_map_of_mem hgm)).l
     obtain ⟨HNV, H6⟩ := hD2 hnv hn6; have hfl := factsA_len ⟨⟨xn, xs, xo, xd, xx⟩, xp, xc, xr⟩; dsimp only at hfl; have hts : (gs.take (j + 1)).map AcG.a = (gs.take j).map AcG.a ++ [⟨⟨xn, xs, xo, xd, xx⟩, xp, xc, xr⟩] := by rw [List.take_succ_eq_append_getElem hjo, hx, List.map_append]; rfl
     have htlen : (gs.take j).length = j := by rw [List.length_take]; omega
     clear hcr hck hgrB hgrl hfzr hx hgm hogx; obtain ⟨FP, hFP⟩ : ∃ x, factsA ⟨⟨xn, xs, xo, xd, xx⟩, xp, xc, xr⟩ = x := ⟨_, rfl⟩
     have HFP := hD hFP; have HTK := hD (show FF ++ ((gs.take (j + 1)).map AcG.a).flatMap factsA = LL ++ FP by rw [hts, List.flatMap_append, ← List.append_assoc, hLL, ← hFP]; simp); have HLB := hD (show la + FP.length ≤ 1000000 by have h0 := flat_le ((gs.take j).map AcG.a) (fun a ha => (HOK.out.a a (by rw [HAC.out]; obtain ⟨g, hg, rfl⟩ := List.mem_map.1 ha; exact List.mem_map_of_mem (List.mem_of_mem_take hg))).l); have h1 := factsP_le 0 m.parts; rw [HFF.out] at h1; have h2 := congrArg List.length hLL; rw [List.length_append] at h2; rw [List.length_map, htlen] at h0; have h3 := HOK.out.p8; have h4 := HOK.out.l8; rw [HAC.out, List.length_map] at h4; rw [← hFP]; omega); clear hkk hj hlt hk hown hla hLL hFP htk; go_wp2_with (first | (go_at_call 40; (with_reducible refine (lsAFacts xn xs xo xd xx xp xc xb nv xk xr HNV.out H6.out (oK OGX.out (kA wr (.cells #[xn, xs, xo, xd, xx, xp, xc, .slice xb nv xk] 65)))).mono ?_); rintro e' w3 ⟨v3, rfl, o3, hk3⟩; obtain ⟨b3, c3, rfl⟩ := fG o3; rw [HFP.out] at o3; obtain ⟨lf, hlf⟩ : ∃ x, FP.length = x := ⟨_, rfl⟩; rw [hlf] at o3; obtain ⟨HLF, O3, K3⟩ := hD3 hlf o3 hk3; try rw [HFP.out]; try rw [hlf]; clear o3 hk3 hlf) | (at_builtin; go_loud (refine aG (E := fcE) ty_fcL (by decide) _ rfl _ _ rfl w.heap.size _ la _ rfl (oK OW.out (kT (kA wr (.cells #[xn, xs, xo, xd, xx, xp, xc, .slice xb nv xk] 65)) K3.out)) _ FP rfl (qG (E := fcE) (by decide) O3.out) HLB.out (kS (kT (kT KR.out (kA wr (.cells #[xn, xs, xo, xd, xx, xp, xc, .slice xb nv xk] 65))) K3.out)) ?_)))
     rintro v6 u6 o6 hg hb6; have OX := oK OW.out (kT (kA wr (.cells #[xn, xs, xo, xd, xx, xp, xc, .slice xb nv xk] 65)) K3.out); have kx := kT (kT KR.out (kA wr (.cells #[xn, xs, xo, xd, xx, xp, xc, .slice xb nv xk] 65))) K3.out; have K6 := hD (show Kp w u6 from Below.grown kx hg (Below.size kx) (fun b hk => (OX.lt b hk).1)); have O6 := hD o6; clear o6 hg hb6 OX kx; go_wp2; go_roundw
     case rel => exact ⟨j + 1, by have := HLT.out; omega, by have := HKK.out; first | rw [show ((j + 1 : Nat) : Int) = kk + 1 by omega] | rw [show ((j + 1 : Nat) : Int) = kk + 1 by omega, hw1], by rw [HTK.out, List.length_append, HLA.out]; exact O6.out, K6.out⟩
     case measure => have := HKK.out; have := HLT.out; simp [intOf]; omega
    ·have hje : ¬ kk < N := by have := HNN.out; omega
     have hjn : j = nA := by omega
     rw [hjn] at hLL; have hfin : gs.take nA = gs := by rw [← HN2.out, List.take_length]
     rw [hfin, ← HAC.out] at hLL; have HLF2 := hD hLL; obtain ⟨FP, hFP⟩ : ∃ x, goneS m = x := ⟨_, rfl⟩
     have HFP := hD hFP; have HFS := hD (show factsS m = LL ++ FP by rw [factsS_eq, HFF.out, hLL, hFP]); have HLB := hD (show la + FP.length ≤ 1000000 by
      have h1 : FP.length ≤ 2 := by rw [← hFP]; unfold goneS; split <;> simp
      have h2 := factsP_le 0 m.parts; rw [HFF.out] at h2; have h3 := flat_le m.acts (fun a ha => (HOK.out.a a ha).l); have h4 := congrArg List.length hLL; rw [List.length_append] at h4; have := HOK.out.l8; have := HOK.out.p8; omega)
     clear hkk hj hlt hk hown hla hLL hFP hfin; go_wp2_with (first | (go_at_call 41; (with_reducible refine (HGN.out _ KR.out).mono ?_); rintro e' w3 ⟨v3, rfl, o3, hk3⟩; obtain ⟨b3, c3, rfl⟩ := fG o3; rw [HFP.out] at o3; obtain ⟨lf, hlf⟩ : ∃ x, FP.length = x := ⟨_, rfl⟩; rw [hlf] at o3; obtain ⟨HLF, O3, K3⟩ := hD3 hlf o3 hk3; try rw [HFP.out]; try rw [hlf]; clear o3 hk3 hlf) | (at_builtin; go_loud (refine aG (E := fcE) ty_fcL (by decide) _ rfl _ _ rfl w.heap.size _ la _ rfl (oK OW.out (kT (Kp.refl wr) K3.out)) _ FP rfl (qG (E := fcE) (by decide) O3.out) HLB.out (kS (kT (kT KR.out (Kp.refl wr)) K3.out)) ?_)))
     rintro v6 u6 o6 hg hb6; have OX := oK OW.out (kT (Kp.refl wr) K3.out); have kx := kT (kT KR.out (Kp.refl wr)) K3.out; have K6 := hD (show Kp w u6 from Below.grown kx hg (Below.size kx) (fun b hk => (OX.lt b hk).1)); have O6 := hD o6; clear o6 hg hb6 OX kx; go_wp2; go_ret; rw [HFS.out, List.length_append, HLA.out]; exact ⟨v6, rfl, O6.out, K6.out⟩
def sameL : List FX → List FX → Bool
 | [], [] => true
 | x :: xs, y :: ys => sameF x y && sameL xs ys
 | _, _ => false
theorem sameL_refl : ∀ xs : List FX, sameL xs xs = true
 | [] => rfl
 | x :: xs => by
  show (sameF x x && sameL xs xs) = true
  rw [same_refl14, sameL_refl xs]
  rfl
theorem sameL_len : ∀ (xs ys : List FX), xs.length ≠ ys.length → sameL xs ys = false
 | [], [], h => absurd rfl h
 | [], _ :: _, _ => rfl
 | _ :: _, [], _ => rfl
 | x :: xs, y :: ys, h => by
  show (sameF x y && sameL xs ys) = false
  rw [sameL_len xs ys (by simpa using h), Bool.and_false]
theorem sameL_all : ∀ (xs ys : List FX), xs.length = ys.length → (∀ k (h : k < xs.length) (h' : k < ys.length), sameF xs[k] ys[k] = true) → sameL xs ys = true
 | [], [], _, _ => rfl
 | [], _ :: _, h, _ => by simp at h
 | _ :: _, [], h, _ => by simp at h
 | x :: xs, y :: ys, h, hs => by
  show (sameF x y && sameL xs ys) = true
  have h0 := hs 0 (by simp) (by simp); have h1 := sameL_all xs ys (by simpa using h) (fun k hk hk' => hs (k + 1) (by simpa using hk) (by simpa using hk')); have h0 : sameF x y = true := h0; rw [h0, h1]
  rfl
theorem sameL_no : ∀ (xs ys : List FX) (k : Nat) (h : k < xs.length) (h' : k < ys.length), sameF xs[k] ys[k] = false → sameL xs ys = false
 | x :: xs, y :: ys, 0, _, _, hs => by
  have hs : sameF x y = false := hs
  show (sameF x y && sameL xs ys) = false
  rw [hs]
  rfl
 | x :: xs, y :: ys, k + 1, h, h', hs => by
  show (sameF x y && sameL xs ys) = false
  rw [sameL_no xs ys k (by simpa using h) (by simpa using h') hs, Bool.and_false]
theorem run_right : ∀ (l : List FX) (m m' : StM), runS m l = some m' → ∀ f ∈ l, rightF f = true
 | [], _, _, _, f, hf => by cases hf
 | f :: l, m, m', h, g, hg => by
  unfold runS at h
  cases hs : stepS m f with
  | none => rw [hs] at h; simp at h
  | some m2 =>
   rw [hs] at h; have h : runS m2 l = some m' := h
   rcases List.mem_cons.1 hg with rfl | hg
   ·unfold stepS at hs
    cases hr : rightF g with
    | true => rfl
    | false => rw [hr] at hs; simp at hs
   ·exact run_right l m2 m' h g hg
theorem factsS_wf {m : StM} (ok : OkS m) : ∀ f ∈ factsS m, f.wf := fun f hf => right_wf (run_right _ _ _ (replay ok) f hf)
theorem factsS_le {m : StM} (ok : OkS m) : (factsS m).length ≤ 138 := by
 rw [factsS_eq, List.length_append, List.length_append]; have h1 := factsP_le 0 m.parts; have h2 := flat_le m.acts (fun a ha => (ok.a a ha).l); have h3 : (goneS m).length ≤ 2 := by unfold goneS; split <;> simp
 have := ok.l8; have := ok.p8; omega
variable {ads : List Addr}
theorem lsEqF {B1 B2 : Nat} {v1 v2 : Value} (C : FacC ads w) (xs ys : List FX) (hx : ∀ f ∈ xs, f.wf) (hy : ∀ f ∈ ys, f.wf) (o1 : w.ownsRow B1 39 14 v1 xs.length (fcE.row xs)) (o2 : w.ownsRow B2 39 14 v2 ys.length (fcE.row ys)) (h1 : xs.length ≤ 1000) : Calls Tryz.prog 50 #[v1, v2, .func (.func 51) #[] #[]] w fun r w' => r = .returned (.bool (sameL xs ys)) ∧ Kp w w' := by
 obtain ⟨a1, c1, rfl⟩ := fG o1; obtain ⟨a2, c2, rfl⟩ := fG o2; obtain ⟨n, hn⟩ : ∃ x, xs.length = x := ⟨_, rfl⟩
 obtain ⟨n2, hn2⟩ : ∃ x, ys.length = x := ⟨_, rfl⟩
 rw [hn] at o1 h1 ⊢; rw [hn2] at o2 ⊢; have HN := hD hn
 by_cases hne : n = n2
 rotate_left
 ·have hno := sameL_len xs ys (by omega); rw [hno]; have gI : ((n : Int) == (n2 : Int)) = false := by simpa using (fun h : (n : Int) = n2 => hne (by omega))
  have gJ : ((n : Int) != (n2 : Int)) = true := by simp; omega
  have gK : ((n : Int) = (n2 : Int)) = False := by simp; omega
  clear C hx hy o1 o2 hno HN hn hn2 h1; go_enter Tryz.func50, Tryz.ntmps50; go_wp2; go_ret; exact ⟨rfl, Kp.refl _⟩
 subst hne; obtain ⟨N, hN⟩ : ∃ N : Int, (n : Int) = N := ⟨_, rfl⟩
 obtain ⟨HNN, HN2, O1, O2, H1, HX, HY, HC⟩ := hD8 hN hn2 o1 o2 h1 hx hy C; have hsf := sF; obtain ⟨RES, hres⟩ : ∃ x, sameL xs ys = x := ⟨_, rfl⟩
 have HR := hD hres; rw [hres]; clear C hx hy o1 o2 hn hn2 h1 hres; go_enter Tryz.func50, Tryz.ntmps50; go_wp2; go_loopw [17] (fun i wr => ∃ j : Nat, j ≤ n ∧ i = .int .i64 j ∧ (∀ k (h : k < xs.length) (h' : k < ys.length), k < j → sameF xs[k] ys[k] = true) ∧ Kp w wr) (fun i _ => n - (intOf i).toNat)
 case atStart => exact ⟨0, Nat.zero_le _, rfl, fun k _ _ h => by omega, Kp.refl _⟩
 case round =>
  obtain ⟨j, hj, rfl, hall, hk⟩ := hrel; obtain ⟨kk, hkk⟩ : ∃ x : Int, (j : Int) = x := ⟨_, rfl⟩
  rw [hkk]; obtain ⟨HKK, KR, HALL⟩ := hD3 hkk hk hall
  by_cases hlt : j < n
  ·have hjl : kk < N := by have := HNN.out; omega
   have hk0 : 0 ≤ kk := by omega
   have htk : kk.toNat = j := by omega
   have hN8 : N ≤ 1000 := by have := HNN.out; have := H1.out; omega
   have hw1 : wrap64 (kk + 1) = kk + 1 := IntWalk.wrap64_in _ (by omega); have HLT := hD hlt; have hjx : j < xs.length := by have := HN.out; omega
   have hjy : j < ys.length := by have := HN2.out; omega
   obtain ⟨ga, cga, ega, h1ga, h2ga, h3ga, h4ga, hcga⟩ := cQ (E := fcE) (oK O1.out hk) HN.out hlt; have ega := congrArg (fun v => match v with | Value.slice a _ _ => a | _ => none) ega; dsimp only at ega; subst ega; obtain ⟨⟨fk, fn, fs, fr, fe, fp, fq, fo, fd, fa, ft, fh, fc, fx⟩, hyga⟩ : ∃ r, xs[j]'(by have := HN.out; omega) = r := ⟨_, rfl⟩
   rw [hyga, show fcE.k = 14 from rfl, ← htk] at hcga; obtain ⟨zf0, zf1, zf2, zf3, zf4, zf5, zf6, zf7, zf8, zf9, zf10, zf11, zf12, zf13⟩ := cW14 hcga; obtain ⟨gb, cgb, egb, h1gb, h2gb, h3gb, h4gb, hcgb⟩ := cQ (E := fcE) (oK O2.out hk) HN2.out hlt; have egb := congrArg (fun v => match v with | Value.slice a _ _ => a | _ => none) egb; dsimp only at egb; subst egb; obtain ⟨⟨gk, gn, gs, gr, ge, gp, gq, go, gd, ga, gt, gh, gc, gx⟩, hygb⟩ : ∃ r, ys[j]'(by have := HN2.out; omega) = r := ⟨_, rfl⟩
   rw [hygb, show fcE.k = 14 from rfl, ← htk] at hcgb; obtain ⟨zg0, zg1, zg2, zg3, zg4, zg5, zg6, zg7, zg8, zg9, zg10, zg11, zg12, zg13⟩ := cW14 hcgb; have kb := kA wr (.cells #[fk, fn, fs, fr, fe, fp, fq, fo, fd, fa, ft, fh, fc, fx] 39); obtain ⟨yg0, yg1, yg2, yg3, yg4, yg5, yg6, yg7, yg8, yg9, yg10, yg11, yg12, yg13⟩ := kZ14 kb zg0 zg1 zg2 zg3 zg4 zg5 zg6 zg7 zg8 zg9 zg10 zg11 zg12 zg13; obtain ⟨u0, u1, u2, u3, u4, u5, u6, u7, u8, u9, u10, u11, u12, u13⟩ := cZ (nX0 wr (.cells #[fk, fn, fs, fr, fe, fp, fq, fo, fd, fa, ft, fh, fc, fx] 39) (.cells #[gk, gn, gs, gr, ge, gp, gq, go, gd, ga, gt, gh, gc, gx] 39)); obtain ⟨t0, t1, t2, t3, t4, t5, t6, t7, t8, t9, t10, t11, t12, t13⟩ := cZ (nX1 wr (.cells #[fk, fn, fs, fr, fe, fp, fq, fo, fd, fa, ft, fh, fc, fx] 39) (.cells #[gk, gn, gs, gr, ge, gp, gq, go, gd, ga, gt, gh, gc, gx] 39))
   have k2 := kT kb (kA (wr.alloc (.cells #[fk, fn, fs, fr, fe, fp, fq, fo, fd, fa, ft, fh, fc, fx] 39)) (.cells #[gk, gn, gs, gr, ge, gp, gq, go, gd, ga, gt, gh, gc, gx] 39)); have wx : FX.wf (⟨fk, fn, fs, fr, fe, fp, fq, fo, fd, fa, ft, fh, fc, fx⟩ : FX) := by rw [← hyga]; exact HX.out _ (List.getElem_mem hjx)
   have wy : FX.wf (⟨gk, gn, gs, gr, ge, gp, gq, go, gd, ga, gt, gh, gc, gx⟩ : FX) := by rw [← hygb]; exact HY.out _ (List.getElem_mem hjy)
   have hsm := HC.out.same _ (kT hk k2) (⟨fk, fn, fs, fr, fe, fp, fq, fo, fd, fa, ft, fh, fc, fx⟩ : FX) (⟨gk, gn, gs, gr, ge, gp, gq, go, gd, ga, gt, gh, gc, gx⟩ : FX) wx wy; have hat : sameF xs[j] ys[j] = sameF (⟨fk, fn, fs, fr, fe, fp, fq, fo, fd, fa, ft, fh, fc, fx⟩ : FX) (⟨gk, gn, gs, gr, ge, gp, gq, go, gd, ga, gt, gh, gc, gx⟩ : FX) := by rw [hyga, hygb]
   obtain ⟨sm, hsme⟩ : ∃ x, sameF (⟨fk, fn, fs, fr, fe, fp, fq, fo, fd, fa, ft, fh, fc, fx⟩ : FX) (⟨gk, gn, gs, gr, ge, gp, gq, go, gd, ga, gt, gh, gc, gx⟩ : FX) = x := ⟨_, rfl⟩
   rw [hsme] at hsm hat; dsimp only [FX.cells] at hsm; obtain ⟨HSM, HAT, HJX, HJY⟩ := hD4 hsm hat hjx hjy; have K2 := hD (kT hk k2); clear hkk hj hlt hk hall htk h1ga h2ga h3ga h4ga hcga h1gb h2gb h3gb h4gb hcgb hyga hygb kb k2 wx wy hsm hat hsme zg0 zg1 zg2 zg3 zg4 zg5 zg6 zg7 zg8 zg9 zg10 zg11 zg12 zg13
   cases sm with
   | true =>
    go_wp2_with (go_at_call 51; (with_reducible refine HSM.out.mono ?_); rintro e' w3 ⟨rfl, hk3⟩; have K3 := hD (kT K2.out hk3); clear hk3)
    go_roundw
    case rel => exact ⟨j + 1, by have := HLT.out; omega, by have := HKK.out; first | rw [show ((j + 1 : Nat) : Int) = kk + 1 by omega] | rw [show ((j + 1 : Nat) : Int) = kk + 1 by omega, hw1], fun k h h' hkj => by
     by_cases hq : k = j
     ·subst hq; exact HAT.out
     ·exact HALL.out k h h' (by omega), K3.out⟩
    case measure => have := HKK.out; have := HLT.out; simp [intOf]; omega
   | false =>
    have hR : RES = false := by rw [← HR.out]; exact sameL_no xs ys j HJX.out HJY.out HAT.out
    subst hR; go_wp2_with (go_at_call 51; (with_reducible refine HSM.out.mono ?_); rintro e' w3 ⟨rfl, hk3⟩; have K3 := hD (kT K2.out hk3); clear hk3)
    go_ret; exact ⟨rfl, K3.out⟩
  ·have hje : ¬ kk < N := by have := HNN.out; omega
   have hR : RES = true := by rw [← HR.out]; exact sameL_all xs ys (by rw [HN.out, HN2.out]) (fun k h h' => hall k h h' (by have := HN.out; omega))
   subst hR; clear hkk hj hlt hk hall; go_wp2; go_ret; exact ⟨rfl, KR.out⟩
end Go.Proofs.YtpemeenfhkgmpaaGreatDoor
