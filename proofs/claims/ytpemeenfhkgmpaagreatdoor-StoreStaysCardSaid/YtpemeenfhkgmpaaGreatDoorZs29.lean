/-
  PARTS OF THIS PROOF (own work): LsP, LsQ.
-/
import Derived.Test.YtpemeenfhkgmpaaGreatDoorZs01
import Derived.Test.YtpemeenfhkgmpaaGreatDoorZs28
namespace Go.Proofs.YtpemeenfhkgmpaaGreatDoor
open Go.RowKit Go.ChangeShapes Go.WideShapes

/-- the facts of an activity that is gone -/
def goneS (m : StM) : List FX := if lastS m.acts ≠ m.next - 1 then [⟨1, m.node, m.next - 1, 0, 0, 0, 0, 1, 0, 0, 0, 0, 0, 0⟩, ⟨5, m.node, m.next - 1, 0, 0, 0, 0, 0, 0, 0, 0, 0, 0, 0⟩] else []
theorem factsS_eq (m : StM) : factsS m = factsP 0 m.parts ++ m.acts.flatMap factsA ++ goneS m := rfl
theorem lastS_ge {m : StM} (ok : OkS m) : -1 ≤ lastS m.acts := by
  unfold lastS
  cases h : m.acts.getLast? with
  | none => decide
  | some x =>
    have h1 := (ok.a x (List.mem_of_getLast? h)).c
    have h2 := rightX_act h1
    unfold rightA at h2
    have h3 := of_decide_eq_true h2
    show -1 ≤ x.c.s
    omega
theorem next_inS {m : StM} (ok : OkS m) : 0 ≤ m.next ∧ m.next ≤ 1000000 := by
  have h1 := lastS_ge ok
  have h2 := ok.nx
  refine ⟨by omega, ?_⟩
  rcases ok.last with h | ⟨_, h⟩
  · unfold lastS at h
    cases hg : m.acts.getLast? with
    | none => rw [hg] at h; simp at h; omega
    | some x =>
      rw [hg] at h
      have h1 := (ok.a x (List.mem_of_getLast? hg)).c
      have h2 := rightX_act h1
      unfold rightA at h2
      have h3 := of_decide_eq_true h2
      simp at h
      omega
  · unfold rightA at h
    have h3 := of_decide_eq_true h
    omega
theorem gone_eq {m : StM} (ok : OkS m) : ((findS m.acts m.node (m.next - 1)).isSome || decide (m.next = 0)) = decide (lastS m.acts = m.next - 1) := by
  have hge := lastS_ge ok
  have hnx := ok.nx
  have hlt := seqS_lt m.acts 0 ok.seq
  have hnl := nextS_last m.acts 0
  by_cases h : lastS m.acts = m.next - 1
  · rw [decide_eq_true h, Bool.or_eq_true]
    by_cases hq : m.acts = []
    · right
      rw [hq] at h
      have : lastS [] = -1 := rfl
      exact decide_eq_true (by omega)
    · left
      obtain ⟨x, hx, hl⟩ := lastS_mem hq
      unfold findS
      rw [List.findIdx?_isSome, List.any_eq_true]
      exact ⟨x, hx, decide_eq_true ⟨(ok.a x hx).n, by omega⟩⟩
  · rw [decide_eq_false h, Bool.or_eq_false_iff]
    refine ⟨?_, decide_eq_false (by omega)⟩
    unfold findS
    rw [List.findIdx?_isSome, List.any_eq_false]
    intro x hx hq
    have h1 := of_decide_eq_true hq
    have h2 := hlt x hx
    rw [hnl, if_neg (List.ne_nil_of_mem hx)] at h2
    omega
variable {w0 w w' W w3 : World} {B q : Nat} {m : StM} {gs : List AcG} {va vp : Value}

theorem set_2G {b : Nat} {t : TypeId} {w : World} {x0 x1 : Value} (y0 y1 : Value) (h : w.heap[b]? = some (.cells #[x0, x1] t (0, 0))) : ((w.setCell ⟨b, 0, none⟩ y0).setCell ⟨b, 1, none⟩ y1).heap[b]? = some (.cells #[y0, y1] t (0, 0)) := by
  have h0 : (w.setCell ⟨b, 0, none⟩ y0).heap[b]? = some (.cells #[y0, x1] t (0, 0)) := (Joins.block_setCell h _).trans rfl
  exact (Joins.block_setCell h0 _).trans rfl
theorem set_2_kpG {b : Nat} {w0 w : World} (hk : Kp w0 w) (hb : w0.heap.size ≤ b) (y0 y1 : Value) : Kp w0 ((w.setCell ⟨b, 0, none⟩ y0).setCell ⟨b, 1, none⟩ y1) := by
  refine Below.setCell ?_ hb _
  refine Below.setCell ?_ hb _
  exact hk
theorem own_nilFx {B : Nat} : w.ownsRow B 39 14 (.slice none 0 0) 0 (fcE.row []) := ⟨by simp [EncG.row], .inl ⟨rfl, rfl⟩⟩
theorem cells_2S {b : Nat} {t : TypeId} {w : World} {x0 x1 : Value} (h : w.heap[b]? = some (.cells #[x0, x1] t (0, 0))) : w.cell? ⟨b, 0, none⟩ = some x0 ∧ w.cell? ⟨b, 1, none⟩ = some x1 := by
  refine ⟨?_, ?_⟩ <;> (unfold World.cell?; dsimp only; rw [h]; rfl)
theorem own_twoF (B : Nat) (nd ns : Int) (hb : B ≤ w.heap.size) : (w.alloc (.cells #[.int .i64 1, .int .i64 nd, .int .i64 ns, .int .i64 0, .int .i64 0, .int .i64 0, .int .i64 0, .int .i64 1, .int .i64 0, .int .i64 0, .int .i64 0, .int .i64 0, .int .i64 0, .float .f64 0, .int .i64 5, .int .i64 nd, .int .i64 ns, .int .i64 0, .int .i64 0, .int .i64 0, .int .i64 0, .int .i64 0, .int .i64 0, .int .i64 0, .int .i64 0, .int .i64 0, .int .i64 0, .float .f64 0] 39)).ownsRow B 39 14 (.slice (some ⟨w.heap.size, 0, none⟩) 2 2) 2 (fcE.row [(⟨1, nd, ns, 0, 0, 0, 0, 1, 0, 0, 0, 0, 0, 0⟩ : FX), (⟨5, nd, ns, 0, 0, 0, 0, 0, 0, 0, 0, 0, 0, 0⟩ : FX)]) := by
  have := World.ownsRow_lit (base := B) (e := 39) (size := 14) w #[.int .i64 1, .int .i64 nd, .int .i64 ns, .int .i64 0, .int .i64 0, .int .i64 0, .int .i64 0, .int .i64 1, .int .i64 0, .int .i64 0, .int .i64 0, .int .i64 0, .int .i64 0, .float .f64 0, .int .i64 5, .int .i64 nd, .int .i64 ns, .int .i64 0, .int .i64 0, .int .i64 0, .int .i64 0, .int .i64 0, .int .i64 0, .int .i64 0, .int .i64 0, .int .i64 0, .int .i64 0, .float .f64 0] 2 hb (by decide) rfl
  rw [show fcE.row [(⟨1, nd, ns, 0, 0, 0, 0, 1, 0, 0, 0, 0, 0, 0⟩ : FX), (⟨5, nd, ns, 0, 0, 0, 0, 0, 0, 0, 0, 0, 0, 0⟩ : FX)] = (#[.int .i64 1, .int .i64 nd, .int .i64 ns, .int .i64 0, .int .i64 0, .int .i64 0, .int .i64 0, .int .i64 1, .int .i64 0, .int .i64 0, .int .i64 0, .int .i64 0, .int .i64 0, .float .f64 0, .int .i64 5, .int .i64 nd, .int .i64 ns, .int .i64 0, .int .i64 0, .int .i64 0, .int .i64 0, .int .i64 0, .int .i64 0, .int .i64 0, .int .i64 0, .int .i64 0, .int .i64 0, .float .f64 0]).toList by unfold EncG.row; simp [fcE, FX.cells]]
  exact this
theorem own_twoF1 (B : Nat) (nd ns : Int) (o : Obj) (hb : B ≤ (w.alloc o).heap.size) : ((w.alloc o).alloc (.cells #[.int .i64 1, .int .i64 nd, .int .i64 ns, .int .i64 0, .int .i64 0, .int .i64 0, .int .i64 0, .int .i64 1, .int .i64 0, .int .i64 0, .int .i64 0, .int .i64 0, .int .i64 0, .float .f64 0, .int .i64 5, .int .i64 nd, .int .i64 ns, .int .i64 0, .int .i64 0, .int .i64 0, .int .i64 0, .int .i64 0, .int .i64 0, .int .i64 0, .int .i64 0, .int .i64 0, .int .i64 0, .float .f64 0] 39)).ownsRow B 39 14 (.slice (some ⟨w.heap.size + 1, 0, none⟩) 2 2) 2 (fcE.row [(⟨1, nd, ns, 0, 0, 0, 0, 1, 0, 0, 0, 0, 0, 0⟩ : FX), (⟨5, nd, ns, 0, 0, 0, 0, 0, 0, 0, 0, 0, 0, 0⟩ : FX)]) := by
  have := own_twoF B nd ns hb
  rw [show (w.alloc o).heap.size = w.heap.size + 1 by simp] at this
  exact this
set_option maxRecDepth 100000 in
set_option maxHeartbeats 4000000 in
theorem lsGone (H : GS tyL B q m gs va vp w) (ok : OkS m) : Calls Tryz.prog 41 #[.pointer (some ⟨q, 0, none⟩)] w fun r w' => ∃ v, r = .returned v ∧ w'.ownsRow w.heap.size 39 14 v (goneS m).length (fcE.row (goneS m)) ∧ Kp w w' := by
  have hge := gone_eq ok
  have hni := next_inS ok
  have h8 : gs.length ≤ 8 := by rw [H.len]; exact ok.l8
  have h6 : ∀ a ∈ m.acts, a.regs.length ≤ 6 := fun a ha => (ok.a a ha).l
  have e0 : w.cell? ⟨q, 0, none⟩ = some (.int .i64 m.node) := cellU (i := 0) H.row rfl
  have e1 : w.cell? ⟨q, 1, none⟩ = some (.int .i64 m.next) := cellU (i := 1) H.row rfl
  have hfi := fun w1 (hk : Kp w w1) => stFind (H.kp hk) h8 h6 m.node (m.next - 1)
  have hG : goneS m = if lastS m.acts ≠ m.next - 1 then [⟨1, m.node, m.next - 1, 0, 0, 0, 0, 1, 0, 0, 0, 0, 0, 0⟩, ⟨5, m.node, m.next - 1, 0, 0, 0, 0, 0, 0, 0, 0, 0, 0, 0⟩] else [] := rfl
  obtain ⟨nd, hnd⟩ : ∃ x, m.node = x := ⟨_, rfl⟩
  obtain ⟨nx, hnx⟩ : ∃ x, m.next = x := ⟨_, rfl⟩
  rw [hnd] at e0 hfi hG hge
  rw [hnx] at e1 hfi hni hG hge
  have hw1 : wrap64 (nx - 1) = nx - 1 := IntWalk.wrap64_in _ (by omega)
  obtain ⟨ns, hns⟩ : ∃ x, nx - 1 = x := ⟨_, rfl⟩
  rw [hns] at hfi hG hge
  have hw1 : wrap64 (nx - 1) = ns := hw1.trans hns
  have hw2 : IntKind.i64.wrap (nx - 1) = ns := by rw [IntKind.wrap_i64]; omega
  obtain ⟨GO, hGO⟩ : ∃ x, goneS m = x := ⟨_, rfl⟩
  rw [hGO] at hG ⊢
  obtain ⟨fi, hf⟩ : ∃ x, findS m.acts nd ns = x := ⟨_, rfl⟩
  rw [hf] at hfi hge
  obtain ⟨there, hth⟩ : ∃ x, fi.isSome = x := ⟨_, rfl⟩
  rw [hth] at hfi hge
  have HFI := Lib.hid hfi
  have HGE := Lib.hid hge
  have HG := Lib.hid hG
  have HNS := Lib.hid hns
  have hsf := store_fl
  clear hge hni h8 h6 hfi hnd hnx hG hGO hf hth H ok hns
  cases there with
  | true =>
    have hE : GO = [] := by
      have h := HGE.out
      rw [Bool.true_or] at h
      rw [HG.out, if_neg (by have := of_decide_eq_true h.symm; omega)]
    subst hE
    go_enter Tryz.func41, Tryz.ntmps41
    go_wp2_with fail
    obtain ⟨WD, hWD⟩ : ∃ x, w.drew = x := ⟨_, rfl⟩
    have kD : Kp w WD := by rw [← hWD]; exact drewQ (Kp.refl w)
    have HWD := Lib.hid hWD
    clear hWD
    refine wp_region_held_drew (S := fun w' => Kp w w') (by kernel_rfl) ?_ (fun hHeld => ?_)
    · exact by rw [HWD.out]; exact kD
    rw [HWD.out] at hHeld ⊢
    have hDD : Kp w WD := hHeld
    refine tkW ?_ 0 ?_ ?_; rotate_left
    · intro w hSw; go_simp; try rfl
    go_simp
    refine tkW ?_ 1 ?_ ?_; rotate_left
    · intro w hSw; go_simp; try rfl
    go_simp
    refine tkW ?_ 2 ?_ ?_; rotate_left
    · intro w hSw; go_simp; try rfl
    go_simp
    refine tkW ?_ 3 ?_ ?_; rotate_left
    · intro w hSw; have a9 := hw1; have a0 := kp_cell hSw e0; have a1 := kp_cell hSw e1; go_simp; try rfl
    go_simp
    refine tkW ?_ 4 ?_ ?_; rotate_left
    · intro w hSw; go_simp; try rfl
    go_simp
    refine tkW ?_ 5 ?_ ?_; rotate_left
    · intro w hSw; go_simp; try rfl
    go_simp
    refine tkW ?_ 6 ?_ ?_; rotate_left
    · intro w hSw; go_simp; try rfl
    go_simp
    refine tkW ?_ 7 ?_ ?_; rotate_left
    · intro w hSw; have a9 := hw1; have a0 := kp_cell hSw e0; have a1 := kp_cell hSw e1; go_simp; try rfl
    go_simp
    refine tkW ?_ 8 ?_ ?_; rotate_left
    · intro w hSw; go_simp; try rfl
    go_simp
    refine tkW ?_ 9 ?_ ?_; rotate_left
    · intro w hSw; go_simp; try rfl
    go_simp
    refine wpAnyH_ready (rs := [10]) (by kernel_rfl) (by simp) ?_
    refine AllReadyH.cons rfl (fun K hK => ?_) AllReadyH.nil
    go_simp
    refine hK.out _ _ ?_ (fun hHeld => ?_)
    · exact Kp.trans hHeld (kp_alloc _ _)
    clear hK K
    obtain ⟨Y13, hY13⟩ : ∃ x, WD.alloc (.cells #[.int .i64 0, .int .i64 0] 36) = x := ⟨_, rfl⟩
    have r13 : Y13.heap[WD.heap.size]? = some (.cells #[.int .i64 0, .int .i64 0] 36) := by rw [← hY13]; exact (MapKept.heap_alloc WD (.cells #[.int .i64 0, .int .i64 0] 36)).1
    have b13 : w.heap.size ≤ WD.heap.size := kp_size hDD
    obtain ⟨p13, hp13⟩ : ∃ x, WD.heap.size = x := ⟨_, rfl⟩
    rw [hp13] at r13 b13
    rw [hY13] at hHeld ⊢
    try rw [hp13]
    clear hY13 hp13
    refine wpAnyH_ready (rs := [11]) (by kernel_rfl) (by simp) ?_
    refine AllReadyH.cons rfl (fun K hK => ?_) AllReadyH.nil
    obtain ⟨v0, v1⟩ := cells_2S r13
    have fz5 := frozQ r13
    go_simp
    refine hK.out _ _ ?_ (fun hHeld => ?_)
    · exact set_2_kpG hHeld b13 _ _
    clear hK K
    obtain ⟨w6, hw6⟩ : ∃ x, (Y13.setCell ⟨p13, 0, none⟩ (.int .i64 nd)).setCell ⟨p13, 1, none⟩ (.int .i64 ns) = x := ⟨_, rfl⟩
    have r10 : w6.heap[p13]? = some (.cells #[.int .i64 nd, .int .i64 ns] 36) := by rw [← hw6]; exact set_2G _ _ r13
    rw [hw6] at hHeld ⊢
    have kw6 : Kp w w6 := hHeld
    clear hw6 v0 v1 fz5
    refine wpAnyH_done (by kernel_rfl) ?_ _
    have q0 := kp_cell kw6 e0
    have q1 := kp_cell kw6 e1
    obtain ⟨s0, s1⟩ := cells_2S r10
    have KW6 := Lib.hid kw6
    have R10 := Lib.hid r10
    clear kw6 hHeld hDD r13 r10 b13
    go_wp2_with (go_at_call 22; (with_reducible refine (HFI.out _ KW6.out).mono ?_); rintro e' w3 ⟨v, rfl, hO, hk3⟩; obtain ⟨xn, xs, xo, xd, xx, xp, xc, oo, nn, cc, rfl⟩ := hO.form; clear hO; have kq := Kp.trans hk3 (kp_alloc w3 (.cells #[.int .i64 xn, .int .i64 xs, .int .i64 xo, .int .i64 xd, .float .f64 xx, .int .i64 xp, .int .i64 xc, .slice oo nn cc] 65)); have K3 := Lib.hid (show Kp w _ from Kp.trans KW6.out kq); have z0 := kp_cell kq q0; have z1 := kp_cell kq q1; obtain ⟨t0, t1⟩ := cells_2S (kp_row kq R10.out); clear hk3 kq KW6 R10 s0 s1)
    try go_wp2
    go_ret
    exact ⟨_, rfl, own_nilFx, K3.out⟩
  | false =>
    by_cases hx : nx = 0
    · have g1 : (nx == 0) = true := beq_iff_eq.2 hx
      have hE : GO = [] := by
        have h := HGE.out
        rw [decide_eq_true hx, Bool.or_true] at h
        rw [HG.out, if_neg (by have := of_decide_eq_true h.symm; omega)]
      subst hE
      clear hx
      go_enter Tryz.func41, Tryz.ntmps41
      go_wp2_with fail
      obtain ⟨WD, hWD⟩ : ∃ x, w.drew = x := ⟨_, rfl⟩
      have kD : Kp w WD := by rw [← hWD]; exact drewQ (Kp.refl w)
      have HWD := Lib.hid hWD
      clear hWD
      refine wp_region_held_drew (S := fun w' => Kp w w') (by kernel_rfl) ?_ (fun hHeld => ?_)
      · exact by rw [HWD.out]; exact kD
      rw [HWD.out] at hHeld ⊢
      have hDD : Kp w WD := hHeld
      refine tkW ?_ 0 ?_ ?_; rotate_left
      · intro w hSw; go_simp; try rfl
      go_simp
      refine tkW ?_ 1 ?_ ?_; rotate_left
      · intro w hSw; go_simp; try rfl
      go_simp
      refine tkW ?_ 2 ?_ ?_; rotate_left
      · intro w hSw; go_simp; try rfl
      go_simp
      refine tkW ?_ 3 ?_ ?_; rotate_left
      · intro w hSw; have a9 := hw1; have a0 := kp_cell hSw e0; have a1 := kp_cell hSw e1; go_simp; try rfl
      go_simp
      refine tkW ?_ 4 ?_ ?_; rotate_left
      · intro w hSw; go_simp; try rfl
      go_simp
      refine tkW ?_ 5 ?_ ?_; rotate_left
      · intro w hSw; go_simp; try rfl
      go_simp
      refine tkW ?_ 6 ?_ ?_; rotate_left
      · intro w hSw; go_simp; try rfl
      go_simp
      refine tkW ?_ 7 ?_ ?_; rotate_left
      · intro w hSw; have a9 := hw1; have a0 := kp_cell hSw e0; have a1 := kp_cell hSw e1; go_simp; try rfl
      go_simp
      refine tkW ?_ 8 ?_ ?_; rotate_left
      · intro w hSw; go_simp; try rfl
      go_simp
      refine tkW ?_ 9 ?_ ?_; rotate_left
      · intro w hSw; go_simp; try rfl
      go_simp
      refine wpAnyH_ready (rs := [10]) (by kernel_rfl) (by simp) ?_
      refine AllReadyH.cons rfl (fun K hK => ?_) AllReadyH.nil
      go_simp
      refine hK.out _ _ ?_ (fun hHeld => ?_)
      · exact Kp.trans hHeld (kp_alloc _ _)
      clear hK K
      obtain ⟨Y13, hY13⟩ : ∃ x, WD.alloc (.cells #[.int .i64 0, .int .i64 0] 36) = x := ⟨_, rfl⟩
      have r13 : Y13.heap[WD.heap.size]? = some (.cells #[.int .i64 0, .int .i64 0] 36) := by rw [← hY13]; exact (MapKept.heap_alloc WD (.cells #[.int .i64 0, .int .i64 0] 36)).1
      have b13 : w.heap.size ≤ WD.heap.size := kp_size hDD
      obtain ⟨p13, hp13⟩ : ∃ x, WD.heap.size = x := ⟨_, rfl⟩
      rw [hp13] at r13 b13
      rw [hY13] at hHeld ⊢
      try rw [hp13]
      clear hY13 hp13
      refine wpAnyH_ready (rs := [11]) (by kernel_rfl) (by simp) ?_
      refine AllReadyH.cons rfl (fun K hK => ?_) AllReadyH.nil
      obtain ⟨v0, v1⟩ := cells_2S r13
      have fz5 := frozQ r13
      go_simp
      refine hK.out _ _ ?_ (fun hHeld => ?_)
      · exact set_2_kpG hHeld b13 _ _
      clear hK K
      obtain ⟨w6, hw6⟩ : ∃ x, (Y13.setCell ⟨p13, 0, none⟩ (.int .i64 nd)).setCell ⟨p13, 1, none⟩ (.int .i64 ns) = x := ⟨_, rfl⟩
      have r10 : w6.heap[p13]? = some (.cells #[.int .i64 nd, .int .i64 ns] 36) := by rw [← hw6]; exact set_2G _ _ r13
      rw [hw6] at hHeld ⊢
      have kw6 : Kp w w6 := hHeld
      clear hw6 v0 v1 fz5
      refine wpAnyH_done (by kernel_rfl) ?_ _
      have q0 := kp_cell kw6 e0
      have q1 := kp_cell kw6 e1
      obtain ⟨s0, s1⟩ := cells_2S r10
      have KW6 := Lib.hid kw6
      have R10 := Lib.hid r10
      clear kw6 hHeld hDD r13 r10 b13
      go_wp2_with (go_at_call 22; (with_reducible refine (HFI.out _ KW6.out).mono ?_); rintro e' w3 ⟨v, rfl, hO, hk3⟩; obtain ⟨xn, xs, xo, xd, xx, xp, xc, oo, nn, cc, rfl⟩ := hO.form; clear hO; have kq := Kp.trans hk3 (kp_alloc w3 (.cells #[.int .i64 xn, .int .i64 xs, .int .i64 xo, .int .i64 xd, .float .f64 xx, .int .i64 xp, .int .i64 xc, .slice oo nn cc] 65)); have K3 := Lib.hid (show Kp w _ from Kp.trans KW6.out kq); have z0 := kp_cell kq q0; have z1 := kp_cell kq q1; obtain ⟨t0, t1⟩ := cells_2S (kp_row kq R10.out); clear hk3 kq KW6 R10 s0 s1)
      try go_wp2
      go_ret
      exact ⟨_, rfl, own_nilFx, K3.out⟩
    · have g1 : (nx == 0) = false := by simpa using hx
      have hE : GO = [(⟨1, nd, ns, 0, 0, 0, 0, 1, 0, 0, 0, 0, 0, 0⟩ : FX), (⟨5, nd, ns, 0, 0, 0, 0, 0, 0, 0, 0, 0, 0, 0⟩ : FX)] := by
        have h := HGE.out
        rw [decide_eq_false hx, Bool.or_false] at h
        rw [HG.out, if_pos (by have := of_decide_eq_false h.symm; omega)]
      subst hE
      go_enter Tryz.func41, Tryz.ntmps41
      go_wp2_with fail
      obtain ⟨WD, hWD⟩ : ∃ x, w.drew = x := ⟨_, rfl⟩
      have kD : Kp w WD := by rw [← hWD]; exact drewQ (Kp.refl w)
      have HWD := Lib.hid hWD
      clear hWD
      refine wp_region_held_drew (S := fun w' => Kp w w') (by kernel_rfl) ?_ (fun hHeld => ?_)
      · exact by rw [HWD.out]; exact kD
      rw [HWD.out] at hHeld ⊢
      have hDD : Kp w WD := hHeld
      refine tkW ?_ 0 ?_ ?_; rotate_left
      · intro w hSw; go_simp; try rfl
      go_simp
      refine tkW ?_ 1 ?_ ?_; rotate_left
      · intro w hSw; go_simp; try rfl
      go_simp
      refine tkW ?_ 2 ?_ ?_; rotate_left
      · intro w hSw; go_simp; try rfl
      go_simp
      refine tkW ?_ 3 ?_ ?_; rotate_left
      · intro w hSw; have a9 := hw1; have a0 := kp_cell hSw e0; have a1 := kp_cell hSw e1; go_simp; try rfl
      go_simp
      refine tkW ?_ 4 ?_ ?_; rotate_left
      · intro w hSw; go_simp; try rfl
      go_simp
      refine tkW ?_ 5 ?_ ?_; rotate_left
      · intro w hSw; go_simp; try rfl
      go_simp
      refine tkW ?_ 6 ?_ ?_; rotate_left
      · intro w hSw; go_simp; try rfl
      go_simp
      refine tkW ?_ 7 ?_ ?_; rotate_left
      · intro w hSw; have a9 := hw1; have a0 := kp_cell hSw e0; have a1 := kp_cell hSw e1; go_simp; try rfl
      go_simp
      refine tkW ?_ 8 ?_ ?_; rotate_left
      · intro w hSw; go_simp; try rfl
      go_simp
      refine tkW ?_ 9 ?_ ?_; rotate_left
      · intro w hSw; go_simp; try rfl
      go_simp
      refine wpAnyH_ready (rs := [10]) (by kernel_rfl) (by simp) ?_
      refine AllReadyH.cons rfl (fun K hK => ?_) AllReadyH.nil
      go_simp
      refine hK.out _ _ ?_ (fun hHeld => ?_)
      · exact Kp.trans hHeld (kp_alloc _ _)
      clear hK K
      obtain ⟨Y13, hY13⟩ : ∃ x, WD.alloc (.cells #[.int .i64 0, .int .i64 0] 36) = x := ⟨_, rfl⟩
      have r13 : Y13.heap[WD.heap.size]? = some (.cells #[.int .i64 0, .int .i64 0] 36) := by rw [← hY13]; exact (MapKept.heap_alloc WD (.cells #[.int .i64 0, .int .i64 0] 36)).1
      have b13 : w.heap.size ≤ WD.heap.size := kp_size hDD
      obtain ⟨p13, hp13⟩ : ∃ x, WD.heap.size = x := ⟨_, rfl⟩
      rw [hp13] at r13 b13
      rw [hY13] at hHeld ⊢
      try rw [hp13]
      clear hY13 hp13
      refine wpAnyH_ready (rs := [11]) (by kernel_rfl) (by simp) ?_
      refine AllReadyH.cons rfl (fun K hK => ?_) AllReadyH.nil
      obtain ⟨v0, v1⟩ := cells_2S r13
      have fz5 := frozQ r13
      go_simp
      refine hK.out _ _ ?_ (fun hHeld => ?_)
      · exact set_2_kpG hHeld b13 _ _
      clear hK K
      obtain ⟨w6, hw6⟩ : ∃ x, (Y13.setCell ⟨p13, 0, none⟩ (.int .i64 nd)).setCell ⟨p13, 1, none⟩ (.int .i64 ns) = x := ⟨_, rfl⟩
      have r10 : w6.heap[p13]? = some (.cells #[.int .i64 nd, .int .i64 ns] 36) := by rw [← hw6]; exact set_2G _ _ r13
      rw [hw6] at hHeld ⊢
      have kw6 : Kp w w6 := hHeld
      clear hw6 v0 v1 fz5
      refine wpAnyH_done (by kernel_rfl) ?_ _
      have q0 := kp_cell kw6 e0
      have q1 := kp_cell kw6 e1
      obtain ⟨s0, s1⟩ := cells_2S r10
      have KW6 := Lib.hid kw6
      have R10 := Lib.hid r10
      clear kw6 hHeld hDD r13 r10 b13
      go_wp2_with (go_at_call 22; (with_reducible refine (HFI.out _ KW6.out).mono ?_); rintro e' w3 ⟨v, rfl, hO, hk3⟩; obtain ⟨xn, xs, xo, xd, xx, xp, xc, oo, nn, cc, rfl⟩ := hO.form; clear hO; have kq := Kp.trans hk3 (kp_alloc w3 (.cells #[.int .i64 xn, .int .i64 xs, .int .i64 xo, .int .i64 xd, .float .f64 xx, .int .i64 xp, .int .i64 xc, .slice oo nn cc] 65)); have K3 := Lib.hid (show Kp w _ from Kp.trans KW6.out kq); have z0 := kp_cell kq q0; have z1 := kp_cell kq q1; obtain ⟨t0, t1⟩ := cells_2S (kp_row kq R10.out); clear hk3 kq KW6 R10 s0 s1)
      try go_wp2
      go_ret
      exact ⟨_, rfl, own_twoF1 _ nd ns _ (kp_size K3.out), Kp.trans K3.out (kp_alloc _ _)⟩
open Go.RowKit Go.ChangeShapes Go.WideShapes

theorem factsP_le : ∀ (i : Nat) (A : List PaM), (factsP i A).length ≤ 3 * A.length
  | _, [] => Nat.le_refl _
  | i, x :: A => by
    have ih := factsP_le (i + 1) A
    have h1 := pFacts_len i x
    have h2 : factsP i (x :: A) = pFacts i x ++ factsP (i + 1) A := by
      rw [show x :: A = [x] ++ A from rfl, factsP_app, factsP_one]
      rfl
    rw [h2, List.length_append, List.length_cons]
    omega
theorem flat_le : ∀ (A : List AcM), (∀ a ∈ A, a.regs.length ≤ 6) → (A.flatMap factsA).length ≤ 14 * A.length
  | [], _ => Nat.le_refl _
  | a :: A, h => by
    have ih := flat_le A (fun x hx => h x (List.mem_cons_of_mem _ hx))
    have h1 := factsA_len a
    have h2 := h a List.mem_cons_self
    rw [List.flatMap_cons, List.length_append, List.length_cons]
    omega
variable {w0 w w' W w3 : World} {B q : Nat} {m : StM} {gs : List AcG} {va vp : Value}

set_option maxRecDepth 100000 in
set_option maxHeartbeats 8000000 in
theorem lsFacts (H : GS tyL B q m gs va vp w) (ok : OkS m) : Calls Tryz.prog 14 #[.pointer (some ⟨q, 0, none⟩)] w fun r w' => ∃ v, r = .returned v ∧ w'.ownsRow w.heap.size 39 14 v (factsS m).length (fcE.row (factsS m)) ∧ Kp w w' := by
  obtain ⟨a0, c0, eva⟩ := H.vForm
  obtain ⟨b0, d0, evp⟩ := H.pForm
  subst eva
  subst evp
  have HGN := Lib.hid (fun w1 (hk : Kp w w1) => lsGone (H.kp hk) ok)
  obtain ⟨nA, hnA⟩ : ∃ x, gs.length = x := ⟨_, rfl⟩
  obtain ⟨np, hnp⟩ : ∃ x, m.parts.length = x := ⟨_, rfl⟩
  have e3 : w.cell? ⟨q, 3, none⟩ = some (.slice b0 np d0) := by rw [← hnp]; exact cellU (i := 3) H.row rfl
  have e2 : w.cell? ⟨q, 2, none⟩ = some (.slice a0 nA c0) := by rw [← hnA]; exact cellU (i := 2) H.row rfl
  have hp : w.ownsRow B 75 7 (.slice b0 np d0) np (paE.row m.parts) := by have := H.op; rw [hnp] at this; exact this
  have ha : w.ownsRow B 65 8 (.slice a0 nA c0) nA (acE.row gs) := by have := H.oa; rw [hnA] at this; exact this
  have E2 := Lib.hid e2
  have HP := Lib.hid hp
  have HA := Lib.hid ha
  have HN := Lib.hid hnp
  have HN2 := Lib.hid hnA
  have HOG := Lib.hid H.og
  have HAC := Lib.hid H.acts
  have HOK := Lib.hid ok
  have H8 := Lib.hid (show np ≤ 8 by rw [← hnp]; exact ok.p8)
  have H82 := Lib.hid (show nA ≤ 8 by rw [← hnA, H.len]; exact ok.l8)
  have hsf := store_fl
  obtain ⟨N, hN⟩ : ∃ N : Int, (np : Int) = N := ⟨_, rfl⟩
  have HNN := Lib.hid hN
  clear H ok hnA hnp e2 hp ha
  go_enter Tryz.func14, Tryz.ntmps14
  go_wp2
  go_loopw [3, 13] (fun v i wr => ∃ j : Nat, j ≤ np ∧ i = .int .i64 j ∧ wr.ownsRow w.heap.size 39 14 v (factsP 0 (m.parts.take j)).length (fcE.row (factsP 0 (m.parts.take j))) ∧ Kp w wr) (fun _ i _ => np - (intOf i).toNat)
  case atStart => exact ⟨0, Nat.zero_le _, rfl, own_nilFx, Kp.refl _⟩
  case round =>
    obtain ⟨j, hj, rfl, hown, hk⟩ := hrel
    obtain ⟨kk, hkk⟩ : ∃ x : Int, (j : Int) = x := ⟨_, rfl⟩
    rw [hkk]
    have HKK := Lib.hid hkk
    have KR := Lib.hid hk
    obtain ⟨LL, hLL⟩ : ∃ x, factsP 0 (m.parts.take j) = x := ⟨_, rfl⟩
    rw [hLL] at hown
    have HLL := Lib.hid hLL
    obtain ⟨la, hla⟩ : ∃ x, LL.length = x := ⟨_, rfl⟩
    obtain ⟨a1, c1, rfl⟩ := own_formG hown
    rw [hla] at hown ⊢
    have OW := Lib.hid hown
    have HLA := Lib.hid hla
    by_cases hlt : j < np
    · have hjl : kk < N := by have := HNN.out; omega
      have hk0 : 0 ≤ kk := by omega
      have htk : kk.toNat = j := by omega
      have hN8 : N ≤ 8 := by have := HNN.out; have := H8.out; omega
      have hw1 : wrap64 (kk + 1) = kk + 1 := IntWalk.wrap64_in _ (by omega)
      have HLT := Lib.hid hlt
      have hjo : j < m.parts.length := by have := HN.out; omega
      obtain ⟨gr, ck, exb, hck, hgrB, hgrl, hfzr, hcr⟩ := own_cellQ (E := paE) (own_kp HP.out hk) HN.out hlt
      obtain ⟨⟨yn, ys, yr, ⟨y1, y2, y3, y4⟩⟩, hy⟩ : ∃ r, m.parts[j]'hjo = r := ⟨_, rfl⟩
      have hcr2 : ∀ (i : Nat) (u : Value), i < paE.k → (paE.enc (m.parts[j]'hjo))[i]? = some u → wr.cell? ⟨gr, j * paE.k + i, none⟩ = some u := hcr
      rw [hy, show paE.k = 7 from rfl, ← htk] at hcr2
      have exb := congrArg (fun v => match v with | Value.slice a _ _ => a | _ => none) exb
      dsimp only at exb
      subst exb
      have z0 : wr.cell? ⟨gr, kk.toNat * 7, none⟩ = some (.int .i64 yn) := hcr2 0 _ (by decide) rfl
      have z1 : wr.cell? ⟨gr, kk.toNat * 7 + 1, none⟩ = some (.int .i64 ys) := hcr2 1 _ (by decide) rfl
      have z2 : wr.cell? ⟨gr, kk.toNat * 7 + 2, none⟩ = some (.int .i64 yr) := hcr2 2 _ (by decide) rfl
      have z3 : wr.cell? ⟨gr, kk.toNat * 7 + 3, none⟩ = some (.int .i64 y1) := hcr2 3 _ (by decide) rfl
      have z4 : wr.cell? ⟨gr, kk.toNat * 7 + 4, none⟩ = some (.int .i64 y2) := hcr2 4 _ (by decide) rfl
      have z5 : wr.cell? ⟨gr, kk.toNat * 7 + 5, none⟩ = some (.int .i64 y3) := hcr2 5 _ (by decide) rfl
      have z6 : wr.cell? ⟨gr, kk.toNat * 7 + 6, none⟩ = some (.int .i64 y4) := hcr2 6 _ (by decide) rfl
      obtain ⟨d0, d1, d2, d3, d4, d5, d6⟩ := cells_7 (MapKept.heap_alloc wr (.cells #[.int .i64 yn, .int .i64 ys, .int .i64 yr, .int .i64 y1, .int .i64 y2, .int .i64 y3, .int .i64 y4] 75)).1
      have hts : m.parts.take (j + 1) = m.parts.take j ++ [m.parts[j]] := by rw [← List.take_succ_eq_append_getElem hjo]
      rw [hy] at hts
      have hyr : -1 ≤ yr := by
        have := (HOK.out.p _ (List.getElem_mem hjo)).2.1
        rw [hy] at this
        exact this
      have htlen : (m.parts.take j).length = j := by rw [List.length_take]; omega
      clear hcr hcr2 hck hgrB hgrl hfzr hy
      obtain ⟨FP, hFP⟩ : ∃ x, pFacts kk ⟨yn, ys, yr, ⟨y1, y2, y3, y4⟩⟩ = x := ⟨_, rfl⟩
      have HFP := Lib.hid hFP
      have HTK := Lib.hid (show factsP 0 (m.parts.take (j + 1)) = LL ++ FP by rw [hts, factsP_app, htlen, Nat.zero_add, factsP_one, hkk, hLL, hFP])
      have HLB := Lib.hid (show la + FP.length ≤ 1000000 by have h1 := factsP_le 0 (m.parts.take j); rw [hLL, hla, htlen] at h1; have h2 := pFacts_len kk ⟨yn, ys, yr, ⟨y1, y2, y3, y4⟩⟩; rw [hFP] at h2; omega)
      clear hkk hj hlt hk hown hla hLL hFP htk
      go_wp2_with (first | (go_at_call 39; (with_reducible refine (lsPFacts yn ys yr y1 y2 y3 y4 kk hyr).mono ?_); rintro e' w3 ⟨v3, rfl, o3, hk3⟩; obtain ⟨b3, c3, rfl⟩ := own_formG o3; rw [HFP.out] at o3; obtain ⟨lf, hlf⟩ : ∃ x, FP.length = x := ⟨_, rfl⟩; rw [hlf] at o3; have HLF := Lib.hid hlf; have O3 := Lib.hid o3; have K3 := Lib.hid hk3; try rw [HFP.out]; try rw [hlf]; clear o3 hk3 hlf) | (at_builtin; go_loud (refine wpList_append_rwG (E := fcE) ty_fcL (by decide) _ rfl _ _ rfl w.heap.size _ la _ rfl (own_kp OW.out (Kp.trans (kp_alloc wr (.cells #[.int .i64 yn, .int .i64 ys, .int .i64 yr, .int .i64 y1, .int .i64 y2, .int .i64 y3, .int .i64 y4] 75)) K3.out)) _ FP rfl (own_partG (E := fcE) (by decide) O3.out) HLB.out (kp_size (Kp.trans (Kp.trans KR.out (kp_alloc wr (.cells #[.int .i64 yn, .int .i64 ys, .int .i64 yr, .int .i64 y1, .int .i64 y2, .int .i64 y3, .int .i64 y4] 75))) K3.out)) ?_)))
      rintro v6 u6 o6 hg hb6
      have OX := own_kp OW.out (Kp.trans (kp_alloc wr (.cells #[.int .i64 yn, .int .i64 ys, .int .i64 yr, .int .i64 y1, .int .i64 y2, .int .i64 y3, .int .i64 y4] 75)) K3.out)
      have kx := Kp.trans (Kp.trans KR.out (kp_alloc wr (.cells #[.int .i64 yn, .int .i64 ys, .int .i64 yr, .int .i64 y1, .int .i64 y2, .int .i64 y3, .int .i64 y4] 75))) K3.out
      have K6 := Lib.hid (show Kp w u6 from Below.grown kx hg (Below.size kx) (fun b hk => (OX.lt b hk).1))
      have O6 := Lib.hid o6
      clear o6 hg hb6 OX kx
      go_wp2
      go_roundw
      case rel => exact ⟨j + 1, by have := HLT.out; omega, by have := HKK.out; first | rw [show ((j + 1 : Nat) : Int) = kk + 1 by omega] | rw [show ((j + 1 : Nat) : Int) = kk + 1 by omega, hw1], by rw [HTK.out, List.length_append, HLA.out]; exact O6.out, K6.out⟩
      case measure => have := HKK.out; have := HLT.out; simp [intOf]; omega
    · have hje : ¬ kk < N := by have := HNN.out; omega
      have hjn : j = np := by omega
      rw [hjn] at hLL
      have hfin : m.parts.take np = m.parts := by rw [← HN.out, List.take_length]
      rw [hfin] at hLL
      obtain ⟨wf, hwf⟩ : ∃ wf, wf = wr := ⟨wr, rfl⟩
      subst hwf
      have OF := Lib.hid (show wf.ownsRow w.heap.size 39 14 (.slice a1 la c1) la (fcE.row LL) from hown)
      have KF := KR
      have HFF := Lib.hid hLL
      have HLF0 := Lib.hid hla
      obtain ⟨FF, hFF⟩ : ∃ x, LL = x := ⟨_, rfl⟩
      rw [hFF] at OF HFF HLF0
      clear HLL HLA OW hFF
      have e2 := kp_cell hk E2.out
      clear hkk hj hlt hk hown hla hLL hfin HNN H8 hN
      obtain ⟨N, hN⟩ : ∃ N : Int, (nA : Int) = N := ⟨_, rfl⟩
      have HNN := Lib.hid hN
      have H8 := H82
      go_wp2
      go_loopw [3, 29] (fun v i wr => ∃ j : Nat, j ≤ nA ∧ i = .int .i64 j ∧ wr.ownsRow w.heap.size 39 14 v (FF ++ ((gs.take j).map AcG.a).flatMap factsA).length (fcE.row (FF ++ ((gs.take j).map AcG.a).flatMap factsA)) ∧ Kp w wr) (fun _ i _ => nA - (intOf i).toNat)
      case atStart => exact ⟨0, Nat.zero_le _, rfl, by rw [List.take_zero, List.map_nil, List.flatMap_nil, List.append_nil, HLF0.out]; exact OF.out, KF.out⟩
      case round =>
        obtain ⟨j, hj, rfl, hown, hk⟩ := hrel
        obtain ⟨kk, hkk⟩ : ∃ x : Int, (j : Int) = x := ⟨_, rfl⟩
        rw [hkk]
        have HKK := Lib.hid hkk
        have KR := Lib.hid hk
        obtain ⟨LL, hLL⟩ : ∃ x, FF ++ ((gs.take j).map AcG.a).flatMap factsA = x := ⟨_, rfl⟩
        rw [hLL] at hown
        have HLL := Lib.hid hLL
        obtain ⟨la, hla⟩ : ∃ x, LL.length = x := ⟨_, rfl⟩
        obtain ⟨a1, c1, rfl⟩ := own_formG hown
        rw [hla] at hown ⊢
        have OW := Lib.hid hown
        have HLA := Lib.hid hla
        by_cases hlt : j < nA
        · have hjl : kk < N := by have := HNN.out; omega
          have hk0 : 0 ≤ kk := by omega
          have htk : kk.toNat = j := by omega
          have hN8 : N ≤ 8 := by have := HNN.out; have := H8.out; omega
          have hw1 : wrap64 (kk + 1) = kk + 1 := IntWalk.wrap64_in _ (by omega)
          have HLT := Lib.hid hlt
          have hjo : j < gs.length := by have := HN2.out; omega
          obtain ⟨gr, ck, exb, hck, hgrB, hgrl, hfzr, hcr⟩ := own_cellQ (E := acE) (own_kp HA.out hk) HN2.out hlt
          have exb := congrArg (fun v => match v with | Value.slice a _ _ => a | _ => none) exb
          dsimp only at exb
          subst exb
          obtain ⟨⟨⟨⟨xn, xs, xo, xd, xx⟩, xp, xc, xr⟩, xb, xk⟩, hx⟩ : ∃ x, gs[j]'hjo = x := ⟨_, rfl⟩
          rw [hx, show acE.k = 8 from rfl, ← htk] at hcr
          obtain ⟨xv, hxv⟩ : ∃ v, (⟨⟨⟨xn, xs, xo, xd, xx⟩, xp, xc, xr⟩, xb, xk⟩ : AcG).v = v := ⟨_, rfl⟩
          have z0 : wr.cell? ⟨gr, kk.toNat * 8, none⟩ = some (.int .i64 xn) := hcr 0 _ (by decide) rfl
          have z1 : wr.cell? ⟨gr, kk.toNat * 8 + 1, none⟩ = some (.int .i64 xs) := hcr 1 _ (by decide) rfl
          have z2 : wr.cell? ⟨gr, kk.toNat * 8 + 2, none⟩ = some (.int .i64 xo) := hcr 2 _ (by decide) rfl
          have z3 : wr.cell? ⟨gr, kk.toNat * 8 + 3, none⟩ = some (.int .i64 xd) := hcr 3 _ (by decide) rfl
          have z4 : wr.cell? ⟨gr, kk.toNat * 8 + 4, none⟩ = some (.float .f64 xx) := hcr 4 _ (by decide) rfl
          have z5 : wr.cell? ⟨gr, kk.toNat * 8 + 5, none⟩ = some (.int .i64 xp) := hcr 5 _ (by decide) rfl
          have z6 : wr.cell? ⟨gr, kk.toNat * 8 + 6, none⟩ = some (.int .i64 xc) := hcr 6 _ (by decide) rfl
          have z7 : wr.cell? ⟨gr, kk.toNat * 8 + 7, none⟩ = some xv := by rw [← hxv]; exact hcr 7 _ (by decide) rfl
          unfold AcG.v at hxv
          dsimp only at hxv
          obtain ⟨nv, hnv⟩ : ∃ n, xr.length = n := ⟨_, rfl⟩
          rw [hnv] at hxv
          subst hxv
          obtain ⟨d0, d1, d2, d3, d4, d5, d6, d7⟩ := cells_8 (MapKept.heap_alloc wr (.cells #[.int .i64 xn, .int .i64 xs, .int .i64 xo, .int .i64 xd, .float .f64 xx, .int .i64 xp, .int .i64 xc, .slice xb nv xk] 65)).1
          have hgm : gs[j] ∈ gs := List.getElem_mem hjo
          rw [hx] at hgm
          have hogx := HOG.out _ hgm
          unfold AcG.v at hogx
          dsimp only at hogx
          rw [hnv] at hogx
          have OGX := Lib.hid (own_kp hogx hk)
          have hn6 : nv ≤ 6 := by rw [← hnv]; exact (HOK.out.a _ (by rw [HAC.out]; exact List.mem_map_of_mem hgm)).l
          have HNV := Lib.hid hnv
          have H6 := Lib.hid hn6
          have hfl := factsA_len ⟨⟨xn, xs, xo, xd, xx⟩, xp, xc, xr⟩
          dsimp only at hfl
          have hts : (gs.take (j + 1)).map AcG.a = (gs.take j).map AcG.a ++ [⟨⟨xn, xs, xo, xd, xx⟩, xp, xc, xr⟩] := by rw [List.take_succ_eq_append_getElem hjo, hx, List.map_append]; rfl
          have htlen : (gs.take j).length = j := by rw [List.length_take]; omega
          clear hcr hck hgrB hgrl hfzr hx hgm hogx
          obtain ⟨FP, hFP⟩ : ∃ x, factsA ⟨⟨xn, xs, xo, xd, xx⟩, xp, xc, xr⟩ = x := ⟨_, rfl⟩
          have HFP := Lib.hid hFP
          have HTK := Lib.hid (show FF ++ ((gs.take (j + 1)).map AcG.a).flatMap factsA = LL ++ FP by rw [hts, List.flatMap_append, ← List.append_assoc, hLL, ← hFP]; simp)
          have HLB := Lib.hid (show la + FP.length ≤ 1000000 by have h0 := flat_le ((gs.take j).map AcG.a) (fun a ha => (HOK.out.a a (by rw [HAC.out]; obtain ⟨g, hg, rfl⟩ := List.mem_map.1 ha; exact List.mem_map_of_mem (List.mem_of_mem_take hg))).l); have h1 := factsP_le 0 m.parts; rw [HFF.out] at h1; have h2 := congrArg List.length hLL; rw [List.length_append] at h2; rw [List.length_map, htlen] at h0; have h3 := HOK.out.p8; have h4 := HOK.out.l8; rw [HAC.out, List.length_map] at h4; rw [← hFP]; omega)
          clear hkk hj hlt hk hown hla hLL hFP htk
          go_wp2_with (first | (go_at_call 40; (with_reducible refine (lsAFacts xn xs xo xd xx xp xc xb nv xk xr HNV.out H6.out (own_kp OGX.out (kp_alloc wr (.cells #[.int .i64 xn, .int .i64 xs, .int .i64 xo, .int .i64 xd, .float .f64 xx, .int .i64 xp, .int .i64 xc, .slice xb nv xk] 65)))).mono ?_); rintro e' w3 ⟨v3, rfl, o3, hk3⟩; obtain ⟨b3, c3, rfl⟩ := own_formG o3; rw [HFP.out] at o3; obtain ⟨lf, hlf⟩ : ∃ x, FP.length = x := ⟨_, rfl⟩; rw [hlf] at o3; have HLF := Lib.hid hlf; have O3 := Lib.hid o3; have K3 := Lib.hid hk3; try rw [HFP.out]; try rw [hlf]; clear o3 hk3 hlf) | (at_builtin; go_loud (refine wpList_append_rwG (E := fcE) ty_fcL (by decide) _ rfl _ _ rfl w.heap.size _ la _ rfl (own_kp OW.out (Kp.trans (kp_alloc wr (.cells #[.int .i64 xn, .int .i64 xs, .int .i64 xo, .int .i64 xd, .float .f64 xx, .int .i64 xp, .int .i64 xc, .slice xb nv xk] 65)) K3.out)) _ FP rfl (own_partG (E := fcE) (by decide) O3.out) HLB.out (kp_size (Kp.trans (Kp.trans KR.out (kp_alloc wr (.cells #[.int .i64 xn, .int .i64 xs, .int .i64 xo, .int .i64 xd, .float .f64 xx, .int .i64 xp, .int .i64 xc, .slice xb nv xk] 65))) K3.out)) ?_)))
          rintro v6 u6 o6 hg hb6
          have OX := own_kp OW.out (Kp.trans (kp_alloc wr (.cells #[.int .i64 xn, .int .i64 xs, .int .i64 xo, .int .i64 xd, .float .f64 xx, .int .i64 xp, .int .i64 xc, .slice xb nv xk] 65)) K3.out)
          have kx := Kp.trans (Kp.trans KR.out (kp_alloc wr (.cells #[.int .i64 xn, .int .i64 xs, .int .i64 xo, .int .i64 xd, .float .f64 xx, .int .i64 xp, .int .i64 xc, .slice xb nv xk] 65))) K3.out
          have K6 := Lib.hid (show Kp w u6 from Below.grown kx hg (Below.size kx) (fun b hk => (OX.lt b hk).1))
          have O6 := Lib.hid o6
          clear o6 hg hb6 OX kx
          go_wp2
          go_roundw
          case rel => exact ⟨j + 1, by have := HLT.out; omega, by have := HKK.out; first | rw [show ((j + 1 : Nat) : Int) = kk + 1 by omega] | rw [show ((j + 1 : Nat) : Int) = kk + 1 by omega, hw1], by rw [HTK.out, List.length_append, HLA.out]; exact O6.out, K6.out⟩
          case measure => have := HKK.out; have := HLT.out; simp [intOf]; omega
        · have hje : ¬ kk < N := by have := HNN.out; omega
          have hjn : j = nA := by omega
          rw [hjn] at hLL
          have hfin : gs.take nA = gs := by rw [← HN2.out, List.take_length]
          rw [hfin, ← HAC.out] at hLL
          have HLF2 := Lib.hid hLL
          obtain ⟨FP, hFP⟩ : ∃ x, goneS m = x := ⟨_, rfl⟩
          have HFP := Lib.hid hFP
          have HFS := Lib.hid (show factsS m = LL ++ FP by rw [factsS_eq, HFF.out, hLL, hFP])
          have HLB := Lib.hid (show la + FP.length ≤ 1000000 by
            have h1 : FP.length ≤ 2 := by rw [← hFP]; unfold goneS; split <;> simp
            have h2 := factsP_le 0 m.parts
            rw [HFF.out] at h2
            have h3 := flat_le m.acts (fun a ha => (HOK.out.a a ha).l)
            have h4 := congrArg List.length hLL
            rw [List.length_append] at h4
            have := HOK.out.l8
            have := HOK.out.p8
            omega)
          clear hkk hj hlt hk hown hla hLL hFP hfin
          go_wp2_with (first | (go_at_call 41; (with_reducible refine (HGN.out _ KR.out).mono ?_); rintro e' w3 ⟨v3, rfl, o3, hk3⟩; obtain ⟨b3, c3, rfl⟩ := own_formG o3; rw [HFP.out] at o3; obtain ⟨lf, hlf⟩ : ∃ x, FP.length = x := ⟨_, rfl⟩; rw [hlf] at o3; have HLF := Lib.hid hlf; have O3 := Lib.hid o3; have K3 := Lib.hid hk3; try rw [HFP.out]; try rw [hlf]; clear o3 hk3 hlf) | (at_builtin; go_loud (refine wpList_append_rwG (E := fcE) ty_fcL (by decide) _ rfl _ _ rfl w.heap.size _ la _ rfl (own_kp OW.out (Kp.trans (Kp.refl wr) K3.out)) _ FP rfl (own_partG (E := fcE) (by decide) O3.out) HLB.out (kp_size (Kp.trans (Kp.trans KR.out (Kp.refl wr)) K3.out)) ?_)))
          rintro v6 u6 o6 hg hb6
          have OX := own_kp OW.out (Kp.trans (Kp.refl wr) K3.out)
          have kx := Kp.trans (Kp.trans KR.out (Kp.refl wr)) K3.out
          have K6 := Lib.hid (show Kp w u6 from Below.grown kx hg (Below.size kx) (fun b hk => (OX.lt b hk).1))
          have O6 := Lib.hid o6
          clear o6 hg hb6 OX kx
          go_wp2
          go_ret
          rw [HFS.out, List.length_append, HLA.out]
          exact ⟨v6, rfl, O6.out, K6.out⟩
end Go.Proofs.YtpemeenfhkgmpaaGreatDoor
