/-
  A PAIR's CALLS (own work): settle, Seat, Flight, Drop of package moves.
-/
import Derived.Test.YtghjnhdepeiloaaDoorMpA
import Derived.Test.YtghjnhdepeiloaaDoorMsB
namespace Go.Proofs.YtghjnhdepeiloaaDoor
open Go.RowKit Go.ChangeShapes Go.WideShapes

theorem drewN_heapM (w : World) : w.drew.heap = w.heap := rfl
theorem Pr.drew {w0 w : World} {g : Nat} {m : PairM} {v : Value} (h : Pr w0 g m v w) : Pr w0 g m v w.drew := h.stay fun _ _ => rfl
theorem Asd.drew {O O' : Nat → Prop} {w w' : World} (h : Asd O O' w w') : Asd O O' w w'.drew := ⟨h.os, h.tape, h.output, h.size, h.block, h.own⟩
theorem Asd.drewL {O O' : Nat → Prop} {w w' : World} (h : Asd O O' w.drew w') : Asd O O' w w' := ⟨h.os, h.tape, h.output, h.size, h.block, h.own⟩
theorem Pr.seat1 {w0 w : World} {g : Nat} {m : PairM} {v : Value} (h : Pr w0 g m v w) (z : SeatM) : Pr w0 g ⟨z, m.x, m.f⟩ v ((((w.setCell ⟨g, 0, none⟩ (.int .i64 z.p)).setCell ⟨g, 1, none⟩ (.int .i64 z.e)).setCell ⟨g, 2, none⟩ (.int .i64 z.s)).setCell ⟨g, 3, none⟩ (.int .i64 z.h)) ∧ Asd (Ob g v) (Ob g v) w ((((w.setCell ⟨g, 0, none⟩ (.int .i64 z.p)).setCell ⟨g, 1, none⟩ (.int .i64 z.e)).setCell ⟨g, 2, none⟩ (.int .i64 z.s)).setCell ⟨g, 3, none⟩ (.int .i64 z.h)) := by
  have hne := h.ne
  have h0 := h.row
  unfold pairV at h0
  have h1 : (w.setCell ⟨g, 0, none⟩ (.int .i64 z.p)).heap[g]? = some (.cells #[.int .i64 z.p, .int .i64 m.c.e, .int .i64 m.c.s, .int .i64 m.c.h, .int .i64 m.x.p, .int .i64 m.x.e, .int .i64 m.x.s, .int .i64 m.x.h, v] 89 (0, 0)) := (Joins.block_setCell h0 _).trans rfl
  have h2 : ((w.setCell ⟨g, 0, none⟩ (.int .i64 z.p)).setCell ⟨g, 1, none⟩ (.int .i64 z.e)).heap[g]? = some (.cells #[.int .i64 z.p, .int .i64 z.e, .int .i64 m.c.s, .int .i64 m.c.h, .int .i64 m.x.p, .int .i64 m.x.e, .int .i64 m.x.s, .int .i64 m.x.h, v] 89 (0, 0)) := (Joins.block_setCell h1 _).trans rfl
  have h3 : (((w.setCell ⟨g, 0, none⟩ (.int .i64 z.p)).setCell ⟨g, 1, none⟩ (.int .i64 z.e)).setCell ⟨g, 2, none⟩ (.int .i64 z.s)).heap[g]? = some (.cells #[.int .i64 z.p, .int .i64 z.e, .int .i64 z.s, .int .i64 m.c.h, .int .i64 m.x.p, .int .i64 m.x.e, .int .i64 m.x.s, .int .i64 m.x.h, v] 89 (0, 0)) := (Joins.block_setCell h2 _).trans rfl
  have h4 : ((((w.setCell ⟨g, 0, none⟩ (.int .i64 z.p)).setCell ⟨g, 1, none⟩ (.int .i64 z.e)).setCell ⟨g, 2, none⟩ (.int .i64 z.s)).setCell ⟨g, 3, none⟩ (.int .i64 z.h)).heap[g]? = some (.cells #[.int .i64 z.p, .int .i64 z.e, .int .i64 z.s, .int .i64 z.h, .int .i64 m.x.p, .int .i64 m.x.e, .int .i64 m.x.s, .int .i64 m.x.h, v] 89 (0, 0)) := (Joins.block_setCell h3 _).trans rfl
  refine ⟨⟨h4, h.base, own_set (own_set (own_set (own_set h.own hne) hne) hne) hne⟩, ?_⟩
  have hg : Ob g v g := .inl rfl
  exact (((asd_set hg _).trans (asd_set hg _)).trans (asd_set hg _)).trans (asd_set hg _)
theorem Pr.seat2 {w0 w : World} {g : Nat} {m : PairM} {v : Value} (h : Pr w0 g m v w) (z : SeatM) : Pr w0 g ⟨m.c, z, m.f⟩ v ((((w.setCell ⟨g, 4, none⟩ (.int .i64 z.p)).setCell ⟨g, 5, none⟩ (.int .i64 z.e)).setCell ⟨g, 6, none⟩ (.int .i64 z.s)).setCell ⟨g, 7, none⟩ (.int .i64 z.h)) ∧ Asd (Ob g v) (Ob g v) w ((((w.setCell ⟨g, 4, none⟩ (.int .i64 z.p)).setCell ⟨g, 5, none⟩ (.int .i64 z.e)).setCell ⟨g, 6, none⟩ (.int .i64 z.s)).setCell ⟨g, 7, none⟩ (.int .i64 z.h)) := by
  have hne := h.ne
  have h0 := h.row
  unfold pairV at h0
  have h1 : (w.setCell ⟨g, 4, none⟩ (.int .i64 z.p)).heap[g]? = some (.cells #[.int .i64 m.c.p, .int .i64 m.c.e, .int .i64 m.c.s, .int .i64 m.c.h, .int .i64 z.p, .int .i64 m.x.e, .int .i64 m.x.s, .int .i64 m.x.h, v] 89 (0, 0)) := (Joins.block_setCell h0 _).trans rfl
  have h2 : ((w.setCell ⟨g, 4, none⟩ (.int .i64 z.p)).setCell ⟨g, 5, none⟩ (.int .i64 z.e)).heap[g]? = some (.cells #[.int .i64 m.c.p, .int .i64 m.c.e, .int .i64 m.c.s, .int .i64 m.c.h, .int .i64 z.p, .int .i64 z.e, .int .i64 m.x.s, .int .i64 m.x.h, v] 89 (0, 0)) := (Joins.block_setCell h1 _).trans rfl
  have h3 : (((w.setCell ⟨g, 4, none⟩ (.int .i64 z.p)).setCell ⟨g, 5, none⟩ (.int .i64 z.e)).setCell ⟨g, 6, none⟩ (.int .i64 z.s)).heap[g]? = some (.cells #[.int .i64 m.c.p, .int .i64 m.c.e, .int .i64 m.c.s, .int .i64 m.c.h, .int .i64 z.p, .int .i64 z.e, .int .i64 z.s, .int .i64 m.x.h, v] 89 (0, 0)) := (Joins.block_setCell h2 _).trans rfl
  have h4 : ((((w.setCell ⟨g, 4, none⟩ (.int .i64 z.p)).setCell ⟨g, 5, none⟩ (.int .i64 z.e)).setCell ⟨g, 6, none⟩ (.int .i64 z.s)).setCell ⟨g, 7, none⟩ (.int .i64 z.h)).heap[g]? = some (.cells #[.int .i64 m.c.p, .int .i64 m.c.e, .int .i64 m.c.s, .int .i64 m.c.h, .int .i64 z.p, .int .i64 z.e, .int .i64 z.s, .int .i64 z.h, v] 89 (0, 0)) := (Joins.block_setCell h3 _).trans rfl
  refine ⟨⟨h4, h.base, own_set (own_set (own_set (own_set h.own hne) hne) hne) hne⟩, ?_⟩
  have hg : Ob g v g := .inl rfl
  exact (((asd_set hg _).trans (asd_set hg _)).trans (asd_set hg _)).trans (asd_set hg _)
theorem set_row_ne0 {b g : Nat} {w : World} {o : Obj} {y0 y1 y2 y3 : Value} (hne : b ≠ g) (h : w.heap[b]? = some o) : ((((w.setCell ⟨g, 0, none⟩ y0).setCell ⟨g, 1, none⟩ y1).setCell ⟨g, 2, none⟩ y2).setCell ⟨g, 3, none⟩ y3).heap[b]? = some o := by
  rw [Below.heap_setCell _ _ _ _ hne, Below.heap_setCell _ _ _ _ hne, Below.heap_setCell _ _ _ _ hne, Below.heap_setCell _ _ _ _ hne]
  exact h
theorem set_row_ne4 {b g : Nat} {w : World} {o : Obj} {y0 y1 y2 y3 : Value} (hne : b ≠ g) (h : w.heap[b]? = some o) : ((((w.setCell ⟨g, 4, none⟩ y0).setCell ⟨g, 5, none⟩ y1).setCell ⟨g, 6, none⟩ y2).setCell ⟨g, 7, none⟩ y3).heap[b]? = some o := by
  rw [Below.heap_setCell _ _ _ _ hne, Below.heap_setCell _ _ _ _ hne, Below.heap_setCell _ _ _ _ hne, Below.heap_setCell _ _ _ _ hne]
  exact h
set_option maxRecDepth 100000 in
set_option maxHeartbeats 1000000 in
theorem settle_1z {w0 w : World} {g : Nat} {m : PairM} {v : Value} (H : Pr w0 g m v w) (a0 a1 a2 a3 b2 b3 : Int) (b4 : Bool) (hl : m.f.length ≤ 64) : Calls Tryd.prog 53 #[.pointer (some ⟨g, 0, none⟩), .int .i64 1, .agg #[.int .i64 a0, .int .i64 a1, .int .i64 a2, .int .i64 a3, .int .i64 0, .int .i64 b2, .int .i64 b3, .bool b4]] w fun r w' => r = .returned (.tuple #[]) ∧ ∃ v', Pr w0 g ⟨⟨a0, a1, a2, a3⟩, m.x, m.f⟩ v' w' ∧ Asd (Ob g v) (Ob g v') w w' := by
  have HR := Lib.hid (MapKept.heap_alloc w (.cells #[.int .i64 a0, .int .i64 a1, .int .i64 a2, .int .i64 a3, .int .i64 0, .int .i64 b2, .int .i64 b3, .bool b4] 27)).1
  have k1 := kp_alloc w (.cells #[.int .i64 a0, .int .i64 a1, .int .i64 a2, .int .i64 a3, .int .i64 0, .int .i64 b2, .int .i64 b3, .bool b4] 27)
  have hg : g < w.heap.size := old_of_row H.row
  have HNE := Lib.hid (show w.heap.size ≠ g by omega)
  have h1 := H.kp k1
  have as1 : Asd (Ob g v) (Ob g v) w (w.alloc (.cells #[.int .i64 a0, .int .i64 a1, .int .i64 a2, .int .i64 a3, .int .i64 0, .int .i64 b2, .int .i64 b3, .bool b4] 27)) := Asd.of_kp _ k1
  have hs := h1.seat1 ⟨a0, a1, a2, a3⟩
  have PR := Lib.hid (show _ ∧ _ from ⟨hs.1.drew, (as1.trans hs.2).drew⟩)
  have HL := Lib.hid hl
  have r1 := h1.row
  unfold pairV at r1
  obtain ⟨e0, e1, e2, e3, e4, e5, e6, e7, e8⟩ := cells_9 r1
  have fz := frozN r1
  clear k1 hg h1 as1 hs r1 H hl
  go_enter Tryd.func53, Tryd.ntmps53
  go_wp2_with fail
  refine wp_region_held_drew (S := fun w' => w'.heap[w.heap.size]? = some (.cells #[.int .i64 a0, .int .i64 a1, .int .i64 a2, .int .i64 a3, .int .i64 0, .int .i64 b2, .int .i64 b3, .bool b4] 27)) (by kernel_rfl) ?_ (fun hHeld => ?_)
  · exact HR.out
  refine wpAnyH_take (i := 0) (v := ?_) rfl (by kernel_rfl) (by kernel_rfl) (by kernel_rfl) (fun _ _ _ h => h) (Or.inl ⟨by rfl, ?_⟩) (by assumption) ?_
  rotate_left
  · intro w hSw; go_simp; try with_reducible rfl
  go_simp
  refine wpAnyH_take (i := 1) (v := ?_) rfl (by kernel_rfl) (by kernel_rfl) (by kernel_rfl) (fun _ _ _ h => h) (Or.inl ⟨by rfl, ?_⟩) (by assumption) ?_
  rotate_left
  · intro w hSw; go_simp; try with_reducible rfl
  go_simp
  refine wpAnyH_take (i := 3) (v := ?_) rfl (by kernel_rfl) (by kernel_rfl) (by kernel_rfl) (fun _ _ _ h => h) (Or.inl ⟨by rfl, ?_⟩) (by assumption) ?_
  rotate_left
  · intro w hSw; go_simp; try with_reducible rfl
  go_simp
  refine wpAnyH_take (i := 4) (v := ?_) rfl (by kernel_rfl) (by kernel_rfl) (by kernel_rfl) (fun _ _ _ h => h) (Or.inl ⟨by rfl, ?_⟩) (by assumption) ?_
  rotate_left
  · intro w hSw; obtain ⟨q0, q1, q2, q3, q4, q5, q6, q7⟩ := cells_8 hSw; go_simp; try with_reducible rfl
  go_simp
  refine wpAnyH_ready (rs := [2]) (by kernel_rfl) (by simp) ?_
  refine AllReadyH.cons rfl (fun K hK => ?_) AllReadyH.nil
  go_simp
  go_wp2_with (go_at_call 48; (with_reducible refine (place_1 g _).mono ?_); rintro e' w4 ⟨rfl, rfl⟩)
  refine hK.out _ _ ?_ (fun hHeld => ?_)
  · exact hHeld
  clear hK K
  refine wpAnyH_take (i := 5) (v := ?_) rfl (by kernel_rfl) (by kernel_rfl) (by kernel_rfl) (fun _ _ _ h => h) (Or.inl ⟨by rfl, ?_⟩) (by assumption) ?_
  rotate_left
  · intro w hSw; go_simp; try with_reducible rfl
  go_simp
  refine wpAnyH_ready (rs := [6]) (by kernel_rfl) (by simp) ?_
  refine AllReadyH.cons rfl (fun K hK => ?_) AllReadyH.nil
  go_simp
  refine hK.out _ _ ?_ (fun hHeld => ?_)
  · exact set_row_ne0 HNE.out hHeld
  clear hK K
  refine wpAnyH_done (by kernel_rfl) ?_ _
  obtain ⟨X, hX⟩ : ∃ X, (((((w.alloc (.cells #[.int .i64 a0, .int .i64 a1, .int .i64 a2, .int .i64 a3, .int .i64 0, .int .i64 b2, .int .i64 b3, .bool b4] 27)).setCell ⟨g, 0, none⟩ (.int .i64 a0)).setCell ⟨g, 1, none⟩ (.int .i64 a1)).setCell ⟨g, 2, none⟩ (.int .i64 a2)).setCell ⟨g, 3, none⟩ (.int .i64 a3)).drew = X := ⟨_, rfl⟩
  have PX := Lib.hid (show Pr w0 g ⟨⟨a0, a1, a2, a3⟩, m.x, m.f⟩ v X ∧ Asd (Ob g v) (Ob g v) w X from hX ▸ PR.out)
  rw [hX] at hHeld ⊢
  clear hX PR
  obtain ⟨x0, x1, x2, x3, x4, x5, x6, x7⟩ := cells_8 hHeld
  go_wp2
  go_end0
  exact ⟨rfl, _, PX.out.1, PX.out.2⟩
set_option maxRecDepth 100000 in
set_option maxHeartbeats 1000000 in
theorem settle_1 {w0 w : World} {g : Nat} {m : PairM} {v : Value} (H : Pr w0 g m v w) (a0 a1 a2 a3 b1 b2 b3 : Int) (b4 : Bool) (hb : (b1 == 0) = false) (hl : m.f.length ≤ 64) : Calls Tryd.prog 53 #[.pointer (some ⟨g, 0, none⟩), .int .i64 1, .agg #[.int .i64 a0, .int .i64 a1, .int .i64 a2, .int .i64 a3, .int .i64 b1, .int .i64 b2, .int .i64 b3, .bool b4]] w fun r w' => r = .returned (.tuple #[]) ∧ ∃ v', Pr w0 g ⟨⟨a0, a1, a2, a3⟩, m.x, m.f ++ [(3 - 1, b1)]⟩ v' w' ∧ Asd (Ob g v) (Ob g v') w w' := by
  have HR := Lib.hid (MapKept.heap_alloc w (.cells #[.int .i64 a0, .int .i64 a1, .int .i64 a2, .int .i64 a3, .int .i64 b1, .int .i64 b2, .int .i64 b3, .bool b4] 27)).1
  have k1 := kp_alloc w (.cells #[.int .i64 a0, .int .i64 a1, .int .i64 a2, .int .i64 a3, .int .i64 b1, .int .i64 b2, .int .i64 b3, .bool b4] 27)
  have hg : g < w.heap.size := old_of_row H.row
  have HNE := Lib.hid (show w.heap.size ≠ g by omega)
  have h1 := H.kp k1
  have as1 : Asd (Ob g v) (Ob g v) w (w.alloc (.cells #[.int .i64 a0, .int .i64 a1, .int .i64 a2, .int .i64 a3, .int .i64 b1, .int .i64 b2, .int .i64 b3, .bool b4] 27)) := Asd.of_kp _ k1
  have hs := h1.seat1 ⟨a0, a1, a2, a3⟩
  have PR := Lib.hid (show _ ∧ _ from ⟨hs.1.drew, (as1.trans hs.2).drew⟩)
  have HL := Lib.hid hl
  have r1 := h1.row
  unfold pairV at r1
  obtain ⟨e0, e1, e2, e3, e4, e5, e6, e7, e8⟩ := cells_9 r1
  have fz := frozN r1
  clear k1 hg h1 as1 hs r1 H hl
  go_enter Tryd.func53, Tryd.ntmps53
  go_wp2_with fail
  refine wp_region_held_drew (S := fun w' => w'.heap[w.heap.size]? = some (.cells #[.int .i64 a0, .int .i64 a1, .int .i64 a2, .int .i64 a3, .int .i64 b1, .int .i64 b2, .int .i64 b3, .bool b4] 27)) (by kernel_rfl) ?_ (fun hHeld => ?_)
  · exact HR.out
  refine wpAnyH_take (i := 0) (v := ?_) rfl (by kernel_rfl) (by kernel_rfl) (by kernel_rfl) (fun _ _ _ h => h) (Or.inl ⟨by rfl, ?_⟩) (by assumption) ?_
  rotate_left
  · intro w hSw; go_simp; try with_reducible rfl
  go_simp
  refine wpAnyH_take (i := 1) (v := ?_) rfl (by kernel_rfl) (by kernel_rfl) (by kernel_rfl) (fun _ _ _ h => h) (Or.inl ⟨by rfl, ?_⟩) (by assumption) ?_
  rotate_left
  · intro w hSw; go_simp; try with_reducible rfl
  go_simp
  refine wpAnyH_take (i := 3) (v := ?_) rfl (by kernel_rfl) (by kernel_rfl) (by kernel_rfl) (fun _ _ _ h => h) (Or.inl ⟨by rfl, ?_⟩) (by assumption) ?_
  rotate_left
  · intro w hSw; go_simp; try with_reducible rfl
  go_simp
  refine wpAnyH_take (i := 4) (v := ?_) rfl (by kernel_rfl) (by kernel_rfl) (by kernel_rfl) (fun _ _ _ h => h) (Or.inl ⟨by rfl, ?_⟩) (by assumption) ?_
  rotate_left
  · intro w hSw; obtain ⟨q0, q1, q2, q3, q4, q5, q6, q7⟩ := cells_8 hSw; go_simp; try with_reducible rfl
  go_simp
  refine wpAnyH_ready (rs := [2]) (by kernel_rfl) (by simp) ?_
  refine AllReadyH.cons rfl (fun K hK => ?_) AllReadyH.nil
  go_simp
  go_wp2_with (go_at_call 48; (with_reducible refine (place_1 g _).mono ?_); rintro e' w4 ⟨rfl, rfl⟩)
  refine hK.out _ _ ?_ (fun hHeld => ?_)
  · exact hHeld
  clear hK K
  refine wpAnyH_take (i := 5) (v := ?_) rfl (by kernel_rfl) (by kernel_rfl) (by kernel_rfl) (fun _ _ _ h => h) (Or.inl ⟨by rfl, ?_⟩) (by assumption) ?_
  rotate_left
  · intro w hSw; go_simp; try with_reducible rfl
  go_simp
  refine wpAnyH_ready (rs := [6]) (by kernel_rfl) (by simp) ?_
  refine AllReadyH.cons rfl (fun K hK => ?_) AllReadyH.nil
  go_simp
  refine hK.out _ _ ?_ (fun hHeld => ?_)
  · exact set_row_ne0 HNE.out hHeld
  clear hK K
  refine wpAnyH_done (by kernel_rfl) ?_ _
  obtain ⟨X, hX⟩ : ∃ X, (((((w.alloc (.cells #[.int .i64 a0, .int .i64 a1, .int .i64 a2, .int .i64 a3, .int .i64 b1, .int .i64 b2, .int .i64 b3, .bool b4] 27)).setCell ⟨g, 0, none⟩ (.int .i64 a0)).setCell ⟨g, 1, none⟩ (.int .i64 a1)).setCell ⟨g, 2, none⟩ (.int .i64 a2)).setCell ⟨g, 3, none⟩ (.int .i64 a3)).drew = X := ⟨_, rfl⟩
  have PX := Lib.hid (show Pr w0 g ⟨⟨a0, a1, a2, a3⟩, m.x, m.f⟩ v X ∧ Asd (Ob g v) (Ob g v) w X from hX ▸ PR.out)
  rw [hX] at hHeld ⊢
  clear hX PR
  have HS := Lib.hid (show Calls Tryd.prog 54 #[.pointer (some ⟨g, 0, none⟩), .int .i64 1, .int .i64 b1] X fun r w' => r = .returned (.tuple #[]) ∧ ∃ v', Pr w0 g ⟨⟨a0, a1, a2, a3⟩, m.x, m.f ++ [(3 - 1, b1)]⟩ v' w' ∧ Asd (Ob g v) (Ob g v') X w' from send_any PX.out.1 1 b1 (by decide) HL.out)
  obtain ⟨x0, x1, x2, x3, x4, x5, x6, x7⟩ := cells_8 hHeld
  go_wp2_with (go_at_call 54; (with_reducible refine HS.out.mono ?_); rintro e' w5 ⟨rfl, v', hp, ha⟩; have R5 := Lib.hid (And.intro hp (PX.out.2.trans ha)); clear hp ha)
  go_end0
  exact ⟨rfl, _, R5.out.1, R5.out.2⟩
set_option maxRecDepth 100000 in
set_option maxHeartbeats 1000000 in
theorem settle_2z {w0 w : World} {g : Nat} {m : PairM} {v : Value} (H : Pr w0 g m v w) (a0 a1 a2 a3 b2 b3 : Int) (b4 : Bool) (hl : m.f.length ≤ 64) : Calls Tryd.prog 53 #[.pointer (some ⟨g, 0, none⟩), .int .i64 2, .agg #[.int .i64 a0, .int .i64 a1, .int .i64 a2, .int .i64 a3, .int .i64 0, .int .i64 b2, .int .i64 b3, .bool b4]] w fun r w' => r = .returned (.tuple #[]) ∧ ∃ v', Pr w0 g ⟨m.c, ⟨a0, a1, a2, a3⟩, m.f⟩ v' w' ∧ Asd (Ob g v) (Ob g v') w w' := by
  have HR := Lib.hid (MapKept.heap_alloc w (.cells #[.int .i64 a0, .int .i64 a1, .int .i64 a2, .int .i64 a3, .int .i64 0, .int .i64 b2, .int .i64 b3, .bool b4] 27)).1
  have k1 := kp_alloc w (.cells #[.int .i64 a0, .int .i64 a1, .int .i64 a2, .int .i64 a3, .int .i64 0, .int .i64 b2, .int .i64 b3, .bool b4] 27)
  have hg : g < w.heap.size := old_of_row H.row
  have HNE := Lib.hid (show w.heap.size ≠ g by omega)
  have h1 := H.kp k1
  have as1 : Asd (Ob g v) (Ob g v) w (w.alloc (.cells #[.int .i64 a0, .int .i64 a1, .int .i64 a2, .int .i64 a3, .int .i64 0, .int .i64 b2, .int .i64 b3, .bool b4] 27)) := Asd.of_kp _ k1
  have hs := h1.seat2 ⟨a0, a1, a2, a3⟩
  have PR := Lib.hid (show _ ∧ _ from ⟨hs.1.drew, (as1.trans hs.2).drew⟩)
  have HL := Lib.hid hl
  have r1 := h1.row
  unfold pairV at r1
  obtain ⟨e0, e1, e2, e3, e4, e5, e6, e7, e8⟩ := cells_9 r1
  have fz := frozN r1
  clear k1 hg h1 as1 hs r1 H hl
  go_enter Tryd.func53, Tryd.ntmps53
  go_wp2_with fail
  refine wp_region_held_drew (S := fun w' => w'.heap[w.heap.size]? = some (.cells #[.int .i64 a0, .int .i64 a1, .int .i64 a2, .int .i64 a3, .int .i64 0, .int .i64 b2, .int .i64 b3, .bool b4] 27)) (by kernel_rfl) ?_ (fun hHeld => ?_)
  · exact HR.out
  refine wpAnyH_take (i := 0) (v := ?_) rfl (by kernel_rfl) (by kernel_rfl) (by kernel_rfl) (fun _ _ _ h => h) (Or.inl ⟨by rfl, ?_⟩) (by assumption) ?_
  rotate_left
  · intro w hSw; go_simp; try with_reducible rfl
  go_simp
  refine wpAnyH_take (i := 1) (v := ?_) rfl (by kernel_rfl) (by kernel_rfl) (by kernel_rfl) (fun _ _ _ h => h) (Or.inl ⟨by rfl, ?_⟩) (by assumption) ?_
  rotate_left
  · intro w hSw; go_simp; try with_reducible rfl
  go_simp
  refine wpAnyH_take (i := 3) (v := ?_) rfl (by kernel_rfl) (by kernel_rfl) (by kernel_rfl) (fun _ _ _ h => h) (Or.inl ⟨by rfl, ?_⟩) (by assumption) ?_
  rotate_left
  · intro w hSw; go_simp; try with_reducible rfl
  go_simp
  refine wpAnyH_take (i := 4) (v := ?_) rfl (by kernel_rfl) (by kernel_rfl) (by kernel_rfl) (fun _ _ _ h => h) (Or.inl ⟨by rfl, ?_⟩) (by assumption) ?_
  rotate_left
  · intro w hSw; obtain ⟨q0, q1, q2, q3, q4, q5, q6, q7⟩ := cells_8 hSw; go_simp; try with_reducible rfl
  go_simp
  refine wpAnyH_ready (rs := [2]) (by kernel_rfl) (by simp) ?_
  refine AllReadyH.cons rfl (fun K hK => ?_) AllReadyH.nil
  go_simp
  go_wp2_with (go_at_call 48; (with_reducible refine (place_2 g _).mono ?_); rintro e' w4 ⟨rfl, rfl⟩)
  refine hK.out _ _ ?_ (fun hHeld => ?_)
  · exact hHeld
  clear hK K
  refine wpAnyH_take (i := 5) (v := ?_) rfl (by kernel_rfl) (by kernel_rfl) (by kernel_rfl) (fun _ _ _ h => h) (Or.inl ⟨by rfl, ?_⟩) (by assumption) ?_
  rotate_left
  · intro w hSw; go_simp; try with_reducible rfl
  go_simp
  refine wpAnyH_ready (rs := [6]) (by kernel_rfl) (by simp) ?_
  refine AllReadyH.cons rfl (fun K hK => ?_) AllReadyH.nil
  go_simp
  refine hK.out _ _ ?_ (fun hHeld => ?_)
  · exact set_row_ne4 HNE.out hHeld
  clear hK K
  refine wpAnyH_done (by kernel_rfl) ?_ _
  obtain ⟨X, hX⟩ : ∃ X, (((((w.alloc (.cells #[.int .i64 a0, .int .i64 a1, .int .i64 a2, .int .i64 a3, .int .i64 0, .int .i64 b2, .int .i64 b3, .bool b4] 27)).setCell ⟨g, 4, none⟩ (.int .i64 a0)).setCell ⟨g, 5, none⟩ (.int .i64 a1)).setCell ⟨g, 6, none⟩ (.int .i64 a2)).setCell ⟨g, 7, none⟩ (.int .i64 a3)).drew = X := ⟨_, rfl⟩
  have PX := Lib.hid (show Pr w0 g ⟨m.c, ⟨a0, a1, a2, a3⟩, m.f⟩ v X ∧ Asd (Ob g v) (Ob g v) w X from hX ▸ PR.out)
  rw [hX] at hHeld ⊢
  clear hX PR
  obtain ⟨x0, x1, x2, x3, x4, x5, x6, x7⟩ := cells_8 hHeld
  go_wp2
  go_end0
  exact ⟨rfl, _, PX.out.1, PX.out.2⟩
set_option maxRecDepth 100000 in
set_option maxHeartbeats 1000000 in
theorem settle_2 {w0 w : World} {g : Nat} {m : PairM} {v : Value} (H : Pr w0 g m v w) (a0 a1 a2 a3 b1 b2 b3 : Int) (b4 : Bool) (hb : (b1 == 0) = false) (hl : m.f.length ≤ 64) : Calls Tryd.prog 53 #[.pointer (some ⟨g, 0, none⟩), .int .i64 2, .agg #[.int .i64 a0, .int .i64 a1, .int .i64 a2, .int .i64 a3, .int .i64 b1, .int .i64 b2, .int .i64 b3, .bool b4]] w fun r w' => r = .returned (.tuple #[]) ∧ ∃ v', Pr w0 g ⟨m.c, ⟨a0, a1, a2, a3⟩, m.f ++ [(3 - 2, b1)]⟩ v' w' ∧ Asd (Ob g v) (Ob g v') w w' := by
  have HR := Lib.hid (MapKept.heap_alloc w (.cells #[.int .i64 a0, .int .i64 a1, .int .i64 a2, .int .i64 a3, .int .i64 b1, .int .i64 b2, .int .i64 b3, .bool b4] 27)).1
  have k1 := kp_alloc w (.cells #[.int .i64 a0, .int .i64 a1, .int .i64 a2, .int .i64 a3, .int .i64 b1, .int .i64 b2, .int .i64 b3, .bool b4] 27)
  have hg : g < w.heap.size := old_of_row H.row
  have HNE := Lib.hid (show w.heap.size ≠ g by omega)
  have h1 := H.kp k1
  have as1 : Asd (Ob g v) (Ob g v) w (w.alloc (.cells #[.int .i64 a0, .int .i64 a1, .int .i64 a2, .int .i64 a3, .int .i64 b1, .int .i64 b2, .int .i64 b3, .bool b4] 27)) := Asd.of_kp _ k1
  have hs := h1.seat2 ⟨a0, a1, a2, a3⟩
  have PR := Lib.hid (show _ ∧ _ from ⟨hs.1.drew, (as1.trans hs.2).drew⟩)
  have HL := Lib.hid hl
  have r1 := h1.row
  unfold pairV at r1
  obtain ⟨e0, e1, e2, e3, e4, e5, e6, e7, e8⟩ := cells_9 r1
  have fz := frozN r1
  clear k1 hg h1 as1 hs r1 H hl
  go_enter Tryd.func53, Tryd.ntmps53
  go_wp2_with fail
  refine wp_region_held_drew (S := fun w' => w'.heap[w.heap.size]? = some (.cells #[.int .i64 a0, .int .i64 a1, .int .i64 a2, .int .i64 a3, .int .i64 b1, .int .i64 b2, .int .i64 b3, .bool b4] 27)) (by kernel_rfl) ?_ (fun hHeld => ?_)
  · exact HR.out
  refine wpAnyH_take (i := 0) (v := ?_) rfl (by kernel_rfl) (by kernel_rfl) (by kernel_rfl) (fun _ _ _ h => h) (Or.inl ⟨by rfl, ?_⟩) (by assumption) ?_
  rotate_left
  · intro w hSw; go_simp; try with_reducible rfl
  go_simp
  refine wpAnyH_take (i := 1) (v := ?_) rfl (by kernel_rfl) (by kernel_rfl) (by kernel_rfl) (fun _ _ _ h => h) (Or.inl ⟨by rfl, ?_⟩) (by assumption) ?_
  rotate_left
  · intro w hSw; go_simp; try with_reducible rfl
  go_simp
  refine wpAnyH_take (i := 3) (v := ?_) rfl (by kernel_rfl) (by kernel_rfl) (by kernel_rfl) (fun _ _ _ h => h) (Or.inl ⟨by rfl, ?_⟩) (by assumption) ?_
  rotate_left
  · intro w hSw; go_simp; try with_reducible rfl
  go_simp
  refine wpAnyH_take (i := 4) (v := ?_) rfl (by kernel_rfl) (by kernel_rfl) (by kernel_rfl) (fun _ _ _ h => h) (Or.inl ⟨by rfl, ?_⟩) (by assumption) ?_
  rotate_left
  · intro w hSw; obtain ⟨q0, q1, q2, q3, q4, q5, q6, q7⟩ := cells_8 hSw; go_simp; try with_reducible rfl
  go_simp
  refine wpAnyH_ready (rs := [2]) (by kernel_rfl) (by simp) ?_
  refine AllReadyH.cons rfl (fun K hK => ?_) AllReadyH.nil
  go_simp
  go_wp2_with (go_at_call 48; (with_reducible refine (place_2 g _).mono ?_); rintro e' w4 ⟨rfl, rfl⟩)
  refine hK.out _ _ ?_ (fun hHeld => ?_)
  · exact hHeld
  clear hK K
  refine wpAnyH_take (i := 5) (v := ?_) rfl (by kernel_rfl) (by kernel_rfl) (by kernel_rfl) (fun _ _ _ h => h) (Or.inl ⟨by rfl, ?_⟩) (by assumption) ?_
  rotate_left
  · intro w hSw; go_simp; try with_reducible rfl
  go_simp
  refine wpAnyH_ready (rs := [6]) (by kernel_rfl) (by simp) ?_
  refine AllReadyH.cons rfl (fun K hK => ?_) AllReadyH.nil
  go_simp
  refine hK.out _ _ ?_ (fun hHeld => ?_)
  · exact set_row_ne4 HNE.out hHeld
  clear hK K
  refine wpAnyH_done (by kernel_rfl) ?_ _
  obtain ⟨X, hX⟩ : ∃ X, (((((w.alloc (.cells #[.int .i64 a0, .int .i64 a1, .int .i64 a2, .int .i64 a3, .int .i64 b1, .int .i64 b2, .int .i64 b3, .bool b4] 27)).setCell ⟨g, 4, none⟩ (.int .i64 a0)).setCell ⟨g, 5, none⟩ (.int .i64 a1)).setCell ⟨g, 6, none⟩ (.int .i64 a2)).setCell ⟨g, 7, none⟩ (.int .i64 a3)).drew = X := ⟨_, rfl⟩
  have PX := Lib.hid (show Pr w0 g ⟨m.c, ⟨a0, a1, a2, a3⟩, m.f⟩ v X ∧ Asd (Ob g v) (Ob g v) w X from hX ▸ PR.out)
  rw [hX] at hHeld ⊢
  clear hX PR
  have HS := Lib.hid (show Calls Tryd.prog 54 #[.pointer (some ⟨g, 0, none⟩), .int .i64 2, .int .i64 b1] X fun r w' => r = .returned (.tuple #[]) ∧ ∃ v', Pr w0 g ⟨m.c, ⟨a0, a1, a2, a3⟩, m.f ++ [(3 - 2, b1)]⟩ v' w' ∧ Asd (Ob g v) (Ob g v') X w' from send_any PX.out.1 2 b1 (by decide) HL.out)
  obtain ⟨x0, x1, x2, x3, x4, x5, x6, x7⟩ := cells_8 hHeld
  go_wp2_with (go_at_call 54; (with_reducible refine HS.out.mono ?_); rintro e' w5 ⟨rfl, v', hp, ha⟩; have R5 := Lib.hid (And.intro hp (PX.out.2.trans ha)); clear hp ha)
  go_end0
  exact ⟨rfl, _, R5.out.1, R5.out.2⟩
theorem settle_any {w0 w : World} {g : Nat} {m : PairM} {v : Value} (H : Pr w0 g m v w) (e : Int) (he : e = 1 ∨ e = 2) (y : EffM) (hl : m.f.length ≤ 64) : Calls Tryd.prog 53 #[.pointer (some ⟨g, 0, none⟩), .int .i64 e, .agg (effV y)] w fun r w' => r = .returned (.tuple #[]) ∧ ∃ v', Pr w0 g ⟨(m.set e y.z).c, (m.set e y.z).x, putF m.f e y.send⟩ v' w' ∧ Asd (Ob g v) (Ob g v') w w' := by
  obtain ⟨⟨a0, a1, a2, a3⟩, b1, b2, b3, b4⟩ := y
  dsimp only [effV]
  unfold putF
  rcases he with rfl | rfl
  · by_cases hb : b1 = 0
    · subst hb
      rw [if_pos rfl]
      exact settle_1z H a0 a1 a2 a3 b2 b3 b4 hl
    · rw [if_neg hb]
      exact settle_1 H a0 a1 a2 a3 b1 b2 b3 b4 (by simpa using hb) hl
  · by_cases hb : b1 = 0
    · subst hb
      rw [if_pos rfl]
      exact settle_2z H a0 a1 a2 a3 b2 b3 b4 hl
    · rw [if_neg hb]
      exact settle_2 H a0 a1 a2 a3 b1 b2 b3 b4 (by simpa using hb) hl
set_option maxRecDepth 100000 in
theorem mpSeat_any {w0 w : World} {g : Nat} {m : PairM} {v : Value} (H : Pr w0 g m v w) (e : Int) : Calls Tryd.prog 24 #[.pointer (some ⟨g, 0, none⟩), .int .i64 e] w fun r w' => r = .returned (.agg (seatV (seatO m e))) ∧ Kp w w' := by
  have HP := Lib.hid (fun w => place_any g e w)
  have K1 := Lib.hid (kp_alloc w (.cells #[.int .i64 0, .int .i64 0, .int .i64 0, .int .i64 0] 23))
  have Z1 := Lib.hid (MapKept.heap_alloc w (.cells #[.int .i64 0, .int .i64 0, .int .i64 0, .int .i64 0] 23)).1
  have r1 := (H.kp K1.out).row
  unfold pairV at r1
  obtain ⟨e0, e1, e2, e3, e4, e5, e6, e7, e8⟩ := cells_9 r1
  obtain ⟨z0, z1, z2, z3⟩ := cells_4 Z1.out
  have fz := frozN Z1.out
  clear r1 H
  by_cases h1 : e = 1
  · subst h1
    replace HP := Lib.hid (fun w => (show Calls Tryd.prog 48 #[.pointer (some ⟨g, 0, none⟩), .int .i64 1] w fun r w' => r = .returned (.pointer (some ⟨g, 0, none⟩)) ∧ w = w' from HP.out w))
    rw [show seatO m 1 = m.c from rfl]
    (go_enter Tryd.func24, Tryd.ntmps24; go_wp2_with (go_at_call 48; (with_reducible refine (HP.out _).mono ?_); rintro e' w4 ⟨rfl, rfl⟩); (refine bodyPost_ret (results_cell_row (p := 4) rfl _ _ w.heap.size 23 _ (0, 0) _ rfl (MapKept.heap_alloc w _).1 Tryd.underlying23 rfl (by kernel_rfl)) rfl ?_))
    exact ⟨rfl, kp_alloc _ _⟩
  by_cases h2 : e = 2
  · subst h2
    replace HP := Lib.hid (fun w => (show Calls Tryd.prog 48 #[.pointer (some ⟨g, 0, none⟩), .int .i64 2] w fun r w' => r = .returned (.pointer (some ⟨g, 4, none⟩)) ∧ w = w' from HP.out w))
    rw [show seatO m 2 = m.x from rfl]
    (go_enter Tryd.func24, Tryd.ntmps24; go_wp2_with (go_at_call 48; (with_reducible refine (HP.out _).mono ?_); rintro e' w4 ⟨rfl, rfl⟩); (refine bodyPost_ret (results_cell_row (p := 4) rfl _ _ w.heap.size 23 _ (0, 0) _ rfl (MapKept.heap_alloc w _).1 Tryd.underlying23 rfl (by kernel_rfl)) rfl ?_))
    exact ⟨rfl, kp_alloc _ _⟩
  · have hp : placeA g e = none := by unfold placeA; rw [if_neg h1, if_neg h2]
    rw [hp] at HP
    rw [show seatO m e = ⟨0, 0, 0, 0⟩ by unfold seatO; rw [if_neg h1, if_neg h2]]
    clear h1 h2 hp
    (go_enter Tryd.func24, Tryd.ntmps24; go_wp2_with (go_at_call 48; (with_reducible refine (HP.out _).mono ?_); rintro e' w4 ⟨rfl, rfl⟩); (refine bodyPost_ret (results_cell_row (p := 4) rfl _ _ w.heap.size 23 _ (0, 0) _ rfl Z1.out Tryd.underlying23 rfl (by kernel_rfl)) rfl ?_))
    exact ⟨rfl, K1.out⟩
set_option maxRecDepth 100000 in
theorem mpFlight_any {w0 w : World} {g : Nat} {m : PairM} {v : Value} (H : Pr w0 g m v w) (hl : m.f.length ≤ 64) : Calls Tryd.prog 25 #[.pointer (some ⟨g, 0, none⟩)] w fun r w' => ∃ u, r = .returned u ∧ SlF u m.f w' ∧ Kp w w' := by
  have HC := Lib.hid (cloneF_any v m.f (by omega) w (own_part H.own))
  obtain ⟨a, cp, rfl⟩ := H.form
  have r1 := H.row
  unfold pairV at r1
  obtain ⟨-, -, -, -, -, -, -, -, e8⟩ := cells_9 r1
  obtain ⟨n, hn⟩ : ∃ n, m.f.length = n := ⟨_, rfl⟩
  rw [hn] at HC e8
  clear H r1 hl hn
  go_enter Tryd.func25, Tryd.ntmps25
  go_wp2_with (go_at_call 49; (with_reducible refine HC.out.mono ?_); rintro e' w1 ⟨u, rfl, ho, hk⟩; have O1 := Lib.hid (own_slf ho); have K1 := Lib.hid hk; clear ho hk)
  go_ret
  exact ⟨_, rfl, O1.out, K1.out⟩
set_option maxRecDepth 100000 in
theorem mpDrop_any {w0 w : World} {ads : List Addr} {g : Nat} {m : PairM} {v : Value} (H : Pr w0 g m v w) (hl : m.f.length ≤ 64) (i : Int) (ce : w.cell? ⟨1, 0, none⟩ = some (errI ads 1)) : Calls Tryd.prog 46 #[.pointer (some ⟨g, 0, none⟩), .int .i64 i] w fun r w' => r = .returned (errI ads (m.drop i).1) ∧ ∃ v', Pr w0 g (m.drop i).2 v' w' ∧ Asd (Ob g v) (Ob g v') w w' := by
  have hf := fun w (H : Pr w0 g m v w) => flies_any H i
  by_cases hi : 0 ≤ i ∧ i < m.f.length
  · rw [show m.drop i = (0, ⟨m.c, m.x, m.f.take i.toNat ++ m.f.drop (i.toNat + 1)⟩) by unfold PairM.drop; rw [if_neg (by omega)]]
    rw [decide_eq_true hi] at hf
    have HF := Lib.hid (hf w H)
    have HT := Lib.hid (take_any H i.toNat i (by omega) (by omega) hl)
    dsimp only
    rw [errI_nil]
    clear hf H hl hi ce
    go_enter Tryd.func46, Tryd.ntmps46
    go_wp2_with (first | (go_at_call 50; (with_reducible refine HF.out.mono ?_); rintro e' w4 ⟨rfl, rfl⟩) | (go_at_call 52; (with_reducible refine HT.out.mono ?_); rintro e' w5 ⟨rfl, v', hp, ha⟩; have R5 := Lib.hid (And.intro hp ha); clear hp ha))
    go_ret
    exact ⟨rfl, _, R5.out.1, R5.out.2⟩
  · rw [show m.drop i = (1, m) by unfold PairM.drop; rw [if_pos (by omega)]]
    rw [decide_eq_false hi] at hf
    have HF := Lib.hid (hf w H)
    have HH := Lib.hid H
    dsimp only
    obtain ⟨q, hq⟩ : ∃ q, errI ads 1 = q := ⟨_, rfl⟩
    rw [hq] at ce ⊢
    clear hf H hl hi hq
    go_enter Tryd.func46, Tryd.ntmps46
    go_wp2_with (go_at_call 50; (with_reducible refine HF.out.mono ?_); rintro e' w4 ⟨rfl, rfl⟩)
    go_ret
    exact ⟨rfl, _, HH.out, Asd.refl _ _⟩
end Go.Proofs.YtghjnhdepeiloaaDoor
