/-
  A PAIR's Deliver (own work), package moves.
-/
import Derived.Test.YtghjnhdepeiloaaDoorMpC
import Derived.Deep.RegionHeld3
namespace Go.Proofs.YtghjnhdepeiloaaDoor
open Go.RowKit Go.ChangeShapes Go.WideShapes

theorem set_8_eq {b c : Nat} {w : World} {y0 y1 y2 y3 y4 y5 y6 y7 : Value} (hne : c ≠ b) : ((((((((w.setCell ⟨b, 0, none⟩ y0).setCell ⟨b, 1, none⟩ y1).setCell ⟨b, 2, none⟩ y2).setCell ⟨b, 3, none⟩ y3).setCell ⟨b, 4, none⟩ y4).setCell ⟨b, 5, none⟩ y5).setCell ⟨b, 6, none⟩ y6).setCell ⟨b, 7, none⟩ y7).heap[c]? = w.heap[c]? := by
  rw [Below.heap_setCell _ _ _ _ hne, Below.heap_setCell _ _ _ _ hne, Below.heap_setCell _ _ _ _ hne, Below.heap_setCell _ _ _ _ hne, Below.heap_setCell _ _ _ _ hne, Below.heap_setCell _ _ _ _ hne, Below.heap_setCell _ _ _ _ hne, Below.heap_setCell _ _ _ _ hne]
theorem asd_new1 {O O' : Nat → Prop} {b i : Nat} {w w' : World} {y : Value} (h : Asd O O' w w') (hb : w.heap.size ≤ b) : Asd O O' w (w'.setCell ⟨b, i, none⟩ y) :=
  ⟨h.os, h.tape, h.output, by simpa using h.size, fun c hc hn => (Below.heap_setCell _ _ _ _ (by show c ≠ b; omega)).trans (h.block c hc hn), h.own⟩
theorem set_8_asd {O O' : Nat → Prop} {b : Nat} {w w' : World} {y0 y1 y2 y3 y4 y5 y6 y7 : Value} (h : Asd O O' w w') (hb : w.heap.size ≤ b) : Asd O O' w ((((((((w'.setCell ⟨b, 0, none⟩ y0).setCell ⟨b, 1, none⟩ y1).setCell ⟨b, 2, none⟩ y2).setCell ⟨b, 3, none⟩ y3).setCell ⟨b, 4, none⟩ y4).setCell ⟨b, 5, none⟩ y5).setCell ⟨b, 6, none⟩ y6).setCell ⟨b, 7, none⟩ y7) :=
  asd_new1 (asd_new1 (asd_new1 (asd_new1 (asd_new1 (asd_new1 (asd_new1 (asd_new1 h hb) hb) hb) hb) hb) hb) hb) hb
theorem fly_get {f : List (Int × Int)} {i : Nat} (h : i < f.length) : f.getD i (0, 0) = f[i] := by simp [List.getD, List.getElem?_eq_getElem h]
set_option maxRecDepth 100000 in
theorem mpDl_range {w0 w : World} {ads : List Addr} {g : Nat} {m : PairM} {v : Value} (H : Pr w0 g m v w) (i : Int) (cp : Bool) (hi : ¬ (0 ≤ i ∧ i < m.f.length)) (ce : w.cell? ⟨1, 0, none⟩ = some (errI ads 1)) : Calls Tryd.prog 28 #[.pointer (some ⟨g, 0, none⟩), .int .i64 i, .bool cp] w fun r w' => r = .returned (.tuple #[.agg #[.int .i64 0, .int .i64 0, .int .i64 0, .int .i64 0, .int .i64 0, .int .i64 0, .int .i64 0, .bool false], errI ads 1]) ∧ Kp w w' := by
  have K1 := Lib.hid (kp_alloc w (.cells #[.int .i64 0, .int .i64 0, .int .i64 0, .int .i64 0, .int .i64 0, .int .i64 0, .int .i64 0, .bool false] 27))
  have HZ := Lib.hid (MapKept.heap_alloc w (.cells #[.int .i64 0, .int .i64 0, .int .i64 0, .int .i64 0, .int .i64 0, .int .i64 0, .int .i64 0, .bool false] 27)).1
  have hf := flies_any (H.kp K1.out) i
  rw [decide_eq_false hi] at hf
  have HF := Lib.hid hf
  obtain ⟨q, hq⟩ : ∃ q, errI ads 1 = q := ⟨_, rfl⟩
  rw [hq] at ce ⊢
  have cq := kp_cell K1.out ce
  obtain ⟨z0, z1, z2, z3, z4, z5, z6, z7⟩ := cells_8 HZ.out
  have fz := frozN HZ.out
  clear hf H hq ce hi
  go_enter Tryd.func28, Tryd.ntmps28
  go_wp2_with (go_at_call 50; (with_reducible refine HF.out.mono ?_); rintro e' w4 ⟨rfl, rfl⟩)
  go_region
  go_wp2
  refine bodyPost_ret (results_row_tmpT (p := 6) (u := 7) rfl _ _ w.heap.size 27 _ (0, 0) _ rfl HZ.out Tryd.underlying27 rfl (by kernel_rfl)) rfl ?_
  exact ⟨rfl, kp_drewM K1.out⟩
set_option maxRecDepth 100000 in
theorem mpDl_full {w0 w : World} {ads : List Addr} {g : Nat} {m : PairM} {v : Value} (H : Pr w0 g m v w) (i : Int) (hi : 0 ≤ i ∧ i < m.f.length) (hl : 63 < m.f.length) (ce : w.cell? ⟨5, 0, none⟩ = some (errI ads 6)) : Calls Tryd.prog 28 #[.pointer (some ⟨g, 0, none⟩), .int .i64 i, .bool true] w fun r w' => r = .returned (.tuple #[.agg #[.int .i64 0, .int .i64 0, .int .i64 0, .int .i64 0, .int .i64 0, .int .i64 0, .int .i64 0, .bool false], errI ads 6]) ∧ Kp w w' := by
  have K1 := Lib.hid (kp_alloc w (.cells #[.int .i64 0, .int .i64 0, .int .i64 0, .int .i64 0, .int .i64 0, .int .i64 0, .int .i64 0, .bool false] 27))
  have HZ := Lib.hid (MapKept.heap_alloc w (.cells #[.int .i64 0, .int .i64 0, .int .i64 0, .int .i64 0, .int .i64 0, .int .i64 0, .int .i64 0, .bool false] 27)).1
  have hf := flies_any (H.kp K1.out) i
  rw [decide_eq_true hi] at hf
  have HF := Lib.hid hf
  have hr := room_any (H.kp K1.out)
  rw [decide_eq_false (by omega)] at hr
  have HR := Lib.hid hr
  obtain ⟨q, hq⟩ : ∃ q, errI ads 6 = q := ⟨_, rfl⟩
  rw [hq] at ce ⊢
  have cq := kp_cell K1.out ce
  obtain ⟨z0, z1, z2, z3, z4, z5, z6, z7⟩ := cells_8 HZ.out
  have fz := frozN HZ.out
  clear hf hr H hq ce hi hl
  go_enter Tryd.func28, Tryd.ntmps28
  go_wp2_with (first | (go_at_call 50; (with_reducible refine HF.out.mono ?_); rintro e' w4 ⟨rfl, rfl⟩) | (go_at_call 51; (with_reducible refine HR.out.mono ?_); rintro e' w4 ⟨rfl, rfl⟩))
  go_region
  go_wp2
  refine bodyPost_ret (results_row_tmpT (p := 6) (u := 7) rfl _ _ w.heap.size 27 _ (0, 0) _ rfl HZ.out Tryd.underlying27 rfl (by kernel_rfl)) rfl ?_
  exact ⟨rfl, kp_drewM K1.out⟩
theorem cells_2M {b : Nat} {t : TypeId} {w : World} {x0 x1 : Value} (h : w.heap[b]? = some (.cells #[x0, x1] t (0, 0))) : w.cell? ⟨b, 0, none⟩ = some x0 ∧ w.cell? ⟨b, 1, none⟩ = some x1 := by
  refine ⟨?_, ?_⟩ <;> (unfold World.cell?; dsimp only; rw [h]; rfl)
set_option maxRecDepth 100000 in
set_option maxHeartbeats 2000000 in
theorem mpDl_true {w0 w : World} {ads : List Addr} {g : Nat} {m : PairM} {v : Value} (H : Pr w0 g m v w) (hl : m.f.length ≤ 63) (i : Nat) (ii : Int) (hii : (i : Int) = ii) (hi : i < m.f.length) (to k : Int) (hq : m.f[i] = (to, k)) (hto : to = 1 ∨ to = 2) (ik : i64M k) (p e s h a0 a1 a2 a3 b1 b2 b3 : Int) (b4 : Bool) (hz : seatO m to = ⟨p, e, s, h⟩) (hok : SeatM.ok ⟨p, e, s, h⟩) (hy : SeatM.tell ⟨p, e, s, h⟩ k = (0, ⟨⟨a0, a1, a2, a3⟩, b1, b2, b3, b4⟩)) (T : TabC ads w) (ce : w.cell? ⟨0, 0, none⟩ = some (errI ads 4)) :
    Calls Tryd.prog 28 #[.pointer (some ⟨g, 0, none⟩), .int .i64 ii, .bool true] w fun r w' => r = .returned (.tuple #[.agg #[.int .i64 a0, .int .i64 a1, .int .i64 a2, .int .i64 a3, .int .i64 b1, .int .i64 b2, .int .i64 b3, .bool b4], .nilIface]) ∧ ∃ v', Pr w0 g ⟨(m.set to ⟨a0, a1, a2, a3⟩).c, (m.set to ⟨a0, a1, a2, a3⟩).x, putF m.f to b1⟩ v' w' ∧ Asd (Ob g v) (Ob g v') w w' := by
  have K1 := kp_alloc w (.cells #[.int .i64 0, .int .i64 0, .int .i64 0, .int .i64 0, .int .i64 0, .int .i64 0, .int .i64 0, .bool false] 27)
  have HZ := (MapKept.heap_alloc w (.cells #[.int .i64 0, .int .i64 0, .int .i64 0, .int .i64 0, .int .i64 0, .int .i64 0, .int .i64 0, .bool false] 27)).1
  have hf := flies_any (H.kp K1) ii
  rw [decide_eq_true (show 0 ≤ ii ∧ ii < (m.f.length : Int) by omega)] at hf
  have HF := Lib.hid hf
  have hr := room_any (H.kp K1)
  rw [decide_eq_true (by omega)] at hr
  have HRM := Lib.hid hr
  obtain ⟨W, hW⟩ : ∃ W, ((w.alloc (.cells #[.int .i64 0, .int .i64 0, .int .i64 0, .int .i64 0, .int .i64 0, .int .i64 0, .int .i64 0, .bool false] 27)).alloc (.cells #[.int .i64 to, .int .i64 k] 58)) = W := ⟨_, rfl⟩
  have k2 := kp_alloc (w.alloc (.cells #[.int .i64 0, .int .i64 0, .int .i64 0, .int .i64 0, .int .i64 0, .int .i64 0, .int .i64 0, .bool false] 27)) (.cells #[.int .i64 to, .int .i64 k] 58)
  have t2 := (MapKept.heap_alloc (w.alloc (.cells #[.int .i64 0, .int .i64 0, .int .i64 0, .int .i64 0, .int .i64 0, .int .i64 0, .int .i64 0, .bool false] 27)) (.cells #[.int .i64 to, .int .i64 k] 58)).1
  rw [show (w.alloc (.cells #[.int .i64 0, .int .i64 0, .int .i64 0, .int .i64 0, .int .i64 0, .int .i64 0, .int .i64 0, .bool false] 27)).heap.size = w.heap.size + 1 by simp] at t2
  have WS := Lib.hid (show W.heap.size = w.heap.size + 2 by rw [← hW]; simp)
  have zw := kp_row k2 HZ
  rw [hW] at k2 t2 zw
  have KW := Lib.hid (Kp.trans K1 k2)
  have TW := Lib.hid t2
  have ZW := Lib.hid zw
  have HH := Lib.hid H
  have NOB := Lib.hid (fun b (h1 : w.heap.size ≤ b) => (fun q => absurd (H.mem b q).2 (by omega) : ¬ Ob g v b))
  have hs := fun w1 (hk : Kp W w1) => mpSeat_any (H.kp (Kp.trans KW.out hk)) to
  rw [hz] at hs
  have ht := fun w1 (hk : Kp W w1) => msTell_any ⟨p, e, s, h⟩ k hok ik w1 (T.kp (Kp.trans KW.out hk)) (kp_cell (Kp.trans KW.out hk) ce)
  rw [hy] at ht
  dsimp only [seatV, effV] at hs ht
  rw [errI_nil] at ht
  have HS := Lib.hid hs
  have HT := Lib.hid ht
  have HSE := Lib.hid (fun v1 w1 (H1 : Pr w0 g m v1 w1) => (show Calls Tryd.prog 53 #[.pointer (some ⟨g, 0, none⟩), .int .i64 to, .agg #[.int .i64 a0, .int .i64 a1, .int .i64 a2, .int .i64 a3, .int .i64 b1, .int .i64 b2, .int .i64 b3, .bool b4]] w1 fun r w' => r = .returned (.tuple #[]) ∧ ∃ v', Pr w0 g ⟨(m.set to ⟨a0, a1, a2, a3⟩).c, (m.set to ⟨a0, a1, a2, a3⟩).x, putF m.f to b1⟩ v' w' ∧ Asd (Ob g v1) (Ob g v') w1 w' from settle_any H1 to hto ⟨⟨a0, a1, a2, a3⟩, b1, b2, b3, b4⟩ (by omega)))
  rcases H.own.2 with ⟨-, h0⟩ | ⟨b, cpp, cur, hv, hb, hh, hnc, hcm, hcs, ht2⟩
  · omega
  have r1 := H.row
  unfold pairV at r1
  obtain ⟨-, -, -, -, -, -, -, -, e8⟩ := cells_9 r1
  rw [hv] at e8
  replace e8 := kp_cell K1 e8
  have c0 := kp_cell K1 (H.own.cells (show v.ownBlock = some b by rw [hv]; rfl) (2 * i) _ (flyB_at m.f i hi).1)
  have c1 := kp_cell K1 (H.own.cells (show v.ownBlock = some b by rw [hv]; rfl) (2 * i + 1) _ (flyB_at m.f i hi).2)
  rw [Addr.add_lit, hq] at c0 c1
  dsimp only at c0 c1
  rw [Nat.zero_add, show 2 * i = ii.toNat * 2 by omega] at c0
  rw [Nat.zero_add, show 2 * i + 1 = ii.toNat * 2 + 1 by omega] at c1
  obtain ⟨n, hn⟩ : ∃ n, m.f.length = n := ⟨_, rfl⟩
  rw [hn] at e8 hi
  have i0 : 0 ≤ ii := by omega
  have i1 : ii < n := by omega
  have HW := Lib.hid hW
  clear hW K1 HZ hf k2 t2 zw H hs ht T ce hz hok hy r1 hh ht2 hcs hcm hb hn hq hv hr
  go_enter Tryd.func28, Tryd.ntmps28
  go_wp2_with (first | (go_at_call 50; (with_reducible refine HF.out.mono ?_); rintro e' w4 ⟨rfl, rfl⟩) | (go_at_call 51; (with_reducible refine HRM.out.mono ?_); rintro e' w4 ⟨rfl, rfl⟩))
  try rw [HW.out]
  refine wp_region_held_drew (S := fun w' => Kp W w' ∧ w'.heap[w.heap.size + 1]? = some (.cells #[.int .i64 to, .int .i64 k] 58)) (by kernel_rfl) ?_ (fun hHeld => ?_)
  · exact ⟨kp_drewM (Kp.refl _), TW.out⟩
  refine wpAnyH_take (i := 0) (v := ?_) rfl (by kernel_rfl) (by kernel_rfl) (by kernel_rfl) (fun _ _ _ h => h) (Or.inl ⟨by rfl, ?_⟩) (by assumption) ?_
  rotate_left
  · intro w hSw; go_simp; try with_reducible rfl
  go_simp
  refine wpAnyH_take (i := 1) (v := ?_) rfl (by kernel_rfl) (by kernel_rfl) (by kernel_rfl) (fun _ _ _ h => h) (Or.inl ⟨by rfl, ?_⟩) (by assumption) ?_
  rotate_left
  · intro w hSw; go_simp; try with_reducible rfl
  go_simp
  refine wpAnyH_take (i := 2) (v := ?_) rfl (by kernel_rfl) (by kernel_rfl) (by kernel_rfl) (fun _ _ _ h => h) (Or.inl ⟨by rfl, ?_⟩) (by assumption) ?_
  rotate_left
  · intro w hSw; obtain ⟨q0, q1⟩ := cells_2M hSw.2; go_simp; try with_reducible rfl
  go_simp
  refine wpAnyH_take (i := 4) (v := ?_) rfl (by kernel_rfl) (by kernel_rfl) (by kernel_rfl) (fun _ _ _ h => h) (Or.inl ⟨by rfl, ?_⟩) (by assumption) ?_
  rotate_left
  · intro w hSw; go_simp; try with_reducible rfl
  go_simp
  refine wpAnyH_take (i := 5) (v := ?_) rfl (by kernel_rfl) (by kernel_rfl) (by kernel_rfl) (fun _ _ _ h => h) (Or.inl ⟨by rfl, ?_⟩) (by assumption) ?_
  rotate_left
  · intro w hSw; obtain ⟨q0, q1⟩ := cells_2M hSw.2; go_simp; try with_reducible rfl
  go_simp
  refine wpAnyH_ready (rs := [3, 10]) (by kernel_rfl) (by simp) ?_
  refine AllReadyH.cons rfl (fun K hK => ?_) (AllReadyH.cons rfl (fun K hK => ?_) AllReadyH.nil)
  · go_simp
    go_wp2_with (go_at_call 24; (with_reducible refine (HS.out _ hHeld.1).mono ?_); rintro e' w4 ⟨rfl, hk4⟩; have K4 := Lib.hid (Kp.trans hHeld.1 hk4); have T4 := Lib.hid (kp_row hk4 hHeld.2); have HKS := Lib.hid hk4; clear hk4)
    refine hK.out _ _ ⟨K4.out, T4.out⟩ (fun hHeld => ?_)
    clear hK K
    refine wpAnyH_ready (rs := [6, 10]) (by kernel_rfl) (by simp) ?_
    refine AllReadyH.cons rfl (fun K hK => ?_) (AllReadyH.cons rfl (fun K hK => ?_) AllReadyH.nil)
    · go_simp
      go_wp2_with (go_at_call 10; (with_reducible refine (HT.out _ hHeld.1).mono ?_); rintro e' w6 ⟨rfl, hk6⟩; have K6 := Lib.hid (Kp.trans hHeld.1 hk6); have T6 := Lib.hid (kp_row hk6 hHeld.2); have HKT := Lib.hid hk6; clear hk6)
      refine hK.out _ _ ⟨K6.out, T6.out⟩ (fun hHeld => ?_)
      clear hK K
      refine wpAnyH_take (i := 7) (v := ?_) rfl (by kernel_rfl) (by kernel_rfl) (by kernel_rfl) (fun _ _ _ h => h) (Or.inl ⟨by rfl, ?_⟩) (by assumption) ?_
      rotate_left
      · intro w hSw; go_simp; try with_reducible rfl
      go_simp
      refine wpAnyH_take (i := 8) (v := ?_) rfl (by kernel_rfl) (by kernel_rfl) (by kernel_rfl) (fun _ _ _ h => h) (Or.inl ⟨by rfl, ?_⟩) (by assumption) ?_
      rotate_left
      · intro w hSw; go_simp; try with_reducible rfl
      go_simp
      refine wpAnyH_take (i := 9) (v := ?_) rfl (by kernel_rfl) (by kernel_rfl) (by kernel_rfl) (fun _ _ _ h => h) (Or.inl ⟨by rfl, ?_⟩) (by assumption) ?_
      rotate_left
      · intro w hSw; go_simp; try with_reducible rfl
      go_simp
      refine wpAnyH_ready (rs := [10]) (by kernel_rfl) (by simp) ?_
      refine AllReadyH.cons rfl (fun K hK => ?_) AllReadyH.nil
      go_simp
      refine hK.out _ _ ?_ (fun hHeld => ?_)
      · exact ⟨Kp.trans hHeld.1 (kp_alloc _ _), kp_row (kp_alloc _ _) hHeld.2⟩
      clear hK K
      have BR := Lib.hid ((MapKept.heap_alloc w6 (.cells #[.int .i64 0, .int .i64 0, .int .i64 0, .int .i64 0, .int .i64 0, .int .i64 0, .int .i64 0, .bool false] 27)).1)
      obtain ⟨z0, z1, z2, z3, z4, z5, z6, z7⟩ := cells_8 BR.out
      have fzz := frozN BR.out
      refine wpAnyH_ready (rs := [11]) (by kernel_rfl) (by simp) ?_
      refine AllReadyH.cons rfl (fun K hK => ?_) AllReadyH.nil
      go_simp
      refine hK.out _ _ ?_ (fun hHeld => ?_)
      · exact ⟨Kp.trans K6.out (kp_alloc _ _), kp_row (kp_alloc _ _) T6.out⟩
      clear hK K z0 z1 z2 z3 z4 z5 z6 z7 fzz
      refine wpAnyH_take (i := 12) (v := ?_) rfl (by kernel_rfl) (by kernel_rfl) (by kernel_rfl) (fun _ _ _ h => h) (Or.inl ⟨by rfl, ?_⟩) (by assumption) ?_
      rotate_left
      · intro w hSw; go_simp; try with_reducible rfl
      go_simp
      refine wpAnyH_done (by kernel_rfl) ?_ _
      obtain ⟨X, hX⟩ : ∃ X, w6.alloc (.cells #[.int .i64 a0, .int .i64 a1, .int .i64 a2, .int .i64 a3, .int .i64 b1, .int .i64 b2, .int .i64 b3, .bool b4] 27) = X := ⟨_, rfl⟩
      obtain ⟨qB, hqB⟩ : ∃ q, w6.heap.size = q := ⟨_, rfl⟩
      have KX := Lib.hid (show Kp W X from hX ▸ hHeld.1)
      have TX := Lib.hid (show X.heap[w.heap.size + 1]? = some (.cells #[.int .i64 to, .int .i64 k] 58) from hX ▸ hHeld.2)
      have BX := Lib.hid (show X.heap[qB]? = some (.cells #[.int .i64 a0, .int .i64 a1, .int .i64 a2, .int .i64 a3, .int .i64 b1, .int .i64 b2, .int .i64 b3, .bool b4] 27) by rw [← hX, ← hqB]; exact (MapKept.heap_alloc w6 (.cells #[.int .i64 a0, .int .i64 a1, .int .i64 a2, .int .i64 a3, .int .i64 b1, .int .i64 b2, .int .i64 b3, .bool b4] 27)).1)
      have LW := Lib.hid (show W.heap.size ≤ qB by rw [← hqB]; exact Below.size K6.out)
      try rw [hX]
      try rw [hqB]
      clear hX hqB hHeld
      have AX := Lib.hid (Asd.of_kp (Ob g v) (Kp.trans KW.out KX.out))
      have ZX := Lib.hid (kp_row KX.out ZW.out)
      have HX := Lib.hid (HH.out.kp (Kp.trans KW.out KX.out))
      have LB := Lib.hid (old_of_row BX.out)
      have LT := Lib.hid (old_of_row TX.out)
      have LZ := Lib.hid (old_of_row ZX.out)
      have LQ := Lib.hid (show w.heap.size ≤ qB by have := LW.out; have := WS.out; omega)
      obtain ⟨x0, x1, x2, x3, x4, x5, x6, x7⟩ := cells_8 BX.out
      obtain ⟨u0, u1⟩ := cells_2M TX.out
      have NOBX := Lib.hid (fun b (h1 : w.heap.size ≤ b) (_ : b < X.heap.size) => NOB.out b h1)
      go_wp2_with (go_at_call 53; (with_reducible refine (HSE.out _ _ HX.out).mono ?_); rintro e' w8 ⟨rfl, v', hp, ha⟩; have P8 := Lib.hid hp; have A8 := Lib.hid (AX.out.trans ha); have NO := Lib.hid (show ¬ Ob g v' w.heap.size from fun q => (ha.own _ q).elim (NOB.out _ (Nat.le_refl _)) (fun q => by have := LZ.out; omega)); have B8 := Lib.hid (ha.row BX.out (NOBX.out _ LQ.out LB.out)); have Z8 := Lib.hid (ha.row ZX.out (NOBX.out _ (Nat.le_refl _) LZ.out)); obtain ⟨s0, s1, s2, s3, s4, s5, s6, s7⟩ := cells_8 B8.out; obtain ⟨r0, r1, r2, r3, r4, r5, r6, r7⟩ := cells_8 Z8.out; have fz8 := frozN Z8.out; clear hp ha)
      refine bodyPost_ret (results_row_tmpT (p := 6) (u := 7) rfl _ _ w.heap.size 27 _ (0, 0) _ rfl (set_8 _ _ _ _ _ _ _ _ Z8.out) Tryd.underlying27 rfl (by kernel_rfl)) rfl ?_
      exact ⟨rfl, v', P8.out.stay (fun b hb => set_8_eq (fun q => NO.out (q ▸ hb))), set_8_asd A8.out (Nat.le_refl _)⟩
    · go_simp
      refine hK.out _ _ ⟨Kp.trans hHeld.1 (kp_alloc _ _), kp_row (kp_alloc _ _) hHeld.2⟩ (fun hHeld => ?_)
      clear hK K
      refine wpAnyH_ready (rs := [6]) (by kernel_rfl) (by simp) ?_
      refine AllReadyH.cons rfl (fun K hK => ?_) AllReadyH.nil
      go_simp
      go_wp2_with (go_at_call 10; (with_reducible refine (HT.out _ hHeld.1).mono ?_); rintro e' w6 ⟨rfl, hk6⟩; have K6 := Lib.hid (Kp.trans hHeld.1 hk6); have T6 := Lib.hid (kp_row hk6 hHeld.2); have HKT := Lib.hid hk6; clear hk6)
      refine hK.out _ _ ?_ (fun hHeld => ?_)
      · exact ⟨K6.out, T6.out⟩
      clear hK K
      refine wpAnyH_take (i := 7) (v := ?_) rfl (by kernel_rfl) (by kernel_rfl) (by kernel_rfl) (fun _ _ _ h => h) (Or.inl ⟨by rfl, ?_⟩) (by assumption) ?_
      rotate_left
      · intro w hSw; go_simp; try with_reducible rfl
      go_simp
      refine wpAnyH_take (i := 8) (v := ?_) rfl (by kernel_rfl) (by kernel_rfl) (by kernel_rfl) (fun _ _ _ h => h) (Or.inl ⟨by rfl, ?_⟩) (by assumption) ?_
      rotate_left
      · intro w hSw; go_simp; try with_reducible rfl
      go_simp
      refine wpAnyH_take (i := 9) (v := ?_) rfl (by kernel_rfl) (by kernel_rfl) (by kernel_rfl) (fun _ _ _ h => h) (Or.inl ⟨by rfl, ?_⟩) (by assumption) ?_
      rotate_left
      · intro w hSw; go_simp; try with_reducible rfl
      go_simp
      have BR := Lib.hid (kp_row HKT.out (MapKept.heap_alloc w4 (.cells #[.int .i64 0, .int .i64 0, .int .i64 0, .int .i64 0, .int .i64 0, .int .i64 0, .int .i64 0, .bool false] 27)).1)
      obtain ⟨z0, z1, z2, z3, z4, z5, z6, z7⟩ := cells_8 BR.out
      have fzz := frozN BR.out
      refine wpAnyH_ready (rs := [11]) (by kernel_rfl) (by simp) ?_
      refine AllReadyH.cons rfl (fun K hK => ?_) AllReadyH.nil
      go_simp
      refine hK.out _ _ ?_ (fun hHeld => ?_)
      · exact ⟨set_8_kp K6.out (Below.size K4.out) _ _ _ _ _ _ _ _, set_8_ne _ _ _ _ _ _ _ _ T6.out (by have := WS.out; have : W.heap.size ≤ w4.heap.size := Below.size K4.out; omega)⟩
      clear hK K z0 z1 z2 z3 z4 z5 z6 z7 fzz
      refine wpAnyH_take (i := 12) (v := ?_) rfl (by kernel_rfl) (by kernel_rfl) (by kernel_rfl) (fun _ _ _ h => h) (Or.inl ⟨by rfl, ?_⟩) (by assumption) ?_
      rotate_left
      · intro w hSw; go_simp; try with_reducible rfl
      go_simp
      refine wpAnyH_done (by kernel_rfl) ?_ _
      obtain ⟨X, hX⟩ : ∃ X, ((((((((w6.setCell ⟨w4.heap.size, 0, none⟩ (.int .i64 a0)).setCell ⟨w4.heap.size, 1, none⟩ (.int .i64 a1)).setCell ⟨w4.heap.size, 2, none⟩ (.int .i64 a2)).setCell ⟨w4.heap.size, 3, none⟩ (.int .i64 a3)).setCell ⟨w4.heap.size, 4, none⟩ (.int .i64 b1)).setCell ⟨w4.heap.size, 5, none⟩ (.int .i64 b2)).setCell ⟨w4.heap.size, 6, none⟩ (.int .i64 b3)).setCell ⟨w4.heap.size, 7, none⟩ (.bool b4)) = X := ⟨_, rfl⟩
      obtain ⟨qB, hqB⟩ : ∃ q, w4.heap.size = q := ⟨_, rfl⟩
      have KX := Lib.hid (show Kp W X from hX ▸ hHeld.1)
      have TX := Lib.hid (show X.heap[w.heap.size + 1]? = some (.cells #[.int .i64 to, .int .i64 k] 58) from hX ▸ hHeld.2)
      have BX := Lib.hid (show X.heap[qB]? = some (.cells #[.int .i64 a0, .int .i64 a1, .int .i64 a2, .int .i64 a3, .int .i64 b1, .int .i64 b2, .int .i64 b3, .bool b4] 27) by rw [← hX, ← hqB]; exact set_8 _ _ _ _ _ _ _ _ BR.out)
      have LW := Lib.hid (show W.heap.size ≤ qB by rw [← hqB]; exact Below.size K4.out)
      try rw [hX]
      try rw [hqB]
      clear hX hqB hHeld
      have AX := Lib.hid (Asd.of_kp (Ob g v) (Kp.trans KW.out KX.out))
      have ZX := Lib.hid (kp_row KX.out ZW.out)
      have HX := Lib.hid (HH.out.kp (Kp.trans KW.out KX.out))
      have LB := Lib.hid (old_of_row BX.out)
      have LT := Lib.hid (old_of_row TX.out)
      have LZ := Lib.hid (old_of_row ZX.out)
      have LQ := Lib.hid (show w.heap.size ≤ qB by have := LW.out; have := WS.out; omega)
      obtain ⟨x0, x1, x2, x3, x4, x5, x6, x7⟩ := cells_8 BX.out
      obtain ⟨u0, u1⟩ := cells_2M TX.out
      have NOBX := Lib.hid (fun b (h1 : w.heap.size ≤ b) (_ : b < X.heap.size) => NOB.out b h1)
      go_wp2_with (go_at_call 53; (with_reducible refine (HSE.out _ _ HX.out).mono ?_); rintro e' w8 ⟨rfl, v', hp, ha⟩; have P8 := Lib.hid hp; have A8 := Lib.hid (AX.out.trans ha); have NO := Lib.hid (show ¬ Ob g v' w.heap.size from fun q => (ha.own _ q).elim (NOB.out _ (Nat.le_refl _)) (fun q => by have := LZ.out; omega)); have B8 := Lib.hid (ha.row BX.out (NOBX.out _ LQ.out LB.out)); have Z8 := Lib.hid (ha.row ZX.out (NOBX.out _ (Nat.le_refl _) LZ.out)); obtain ⟨s0, s1, s2, s3, s4, s5, s6, s7⟩ := cells_8 B8.out; obtain ⟨r0, r1, r2, r3, r4, r5, r6, r7⟩ := cells_8 Z8.out; have fz8 := frozN Z8.out; clear hp ha)
      refine bodyPost_ret (results_row_tmpT (p := 6) (u := 7) rfl _ _ w.heap.size 27 _ (0, 0) _ rfl (set_8 _ _ _ _ _ _ _ _ Z8.out) Tryd.underlying27 rfl (by kernel_rfl)) rfl ?_
      exact ⟨rfl, v', P8.out.stay (fun b hb => set_8_eq (fun q => NO.out (q ▸ hb))), set_8_asd A8.out (Nat.le_refl _)⟩
  · go_simp
    refine hK.out _ _ ⟨Kp.trans hHeld.1 (kp_alloc _ _), kp_row (kp_alloc _ _) hHeld.2⟩ (fun hHeld => ?_)
    clear hK K
    refine wpAnyH_ready (rs := [3]) (by kernel_rfl) (by simp) ?_
    refine AllReadyH.cons rfl (fun K hK => ?_) AllReadyH.nil
    go_simp
    go_wp2_with (go_at_call 24; (with_reducible refine (HS.out _ hHeld.1).mono ?_); rintro e' w4 ⟨rfl, hk4⟩; have K4 := Lib.hid (Kp.trans hHeld.1 hk4); have T4 := Lib.hid (kp_row hk4 hHeld.2); have HKS := Lib.hid hk4; clear hk4)
    refine hK.out _ _ ?_ (fun hHeld => ?_)
    · exact ⟨K4.out, T4.out⟩
    clear hK K
    refine wpAnyH_ready (rs := [6]) (by kernel_rfl) (by simp) ?_
    refine AllReadyH.cons rfl (fun K hK => ?_) AllReadyH.nil
    go_simp
    go_wp2_with (go_at_call 10; (with_reducible refine (HT.out _ hHeld.1).mono ?_); rintro e' w6 ⟨rfl, hk6⟩; have K6 := Lib.hid (Kp.trans hHeld.1 hk6); have T6 := Lib.hid (kp_row hk6 hHeld.2); have HKT := Lib.hid hk6; clear hk6)
    refine hK.out _ _ ?_ (fun hHeld => ?_)
    · exact ⟨K6.out, T6.out⟩
    clear hK K
    refine wpAnyH_take (i := 7) (v := ?_) rfl (by kernel_rfl) (by kernel_rfl) (by kernel_rfl) (fun _ _ _ h => h) (Or.inl ⟨by rfl, ?_⟩) (by assumption) ?_
    rotate_left
    · intro w hSw; go_simp; try with_reducible rfl
    go_simp
    refine wpAnyH_take (i := 8) (v := ?_) rfl (by kernel_rfl) (by kernel_rfl) (by kernel_rfl) (fun _ _ _ h => h) (Or.inl ⟨by rfl, ?_⟩) (by assumption) ?_
    rotate_left
    · intro w hSw; go_simp; try with_reducible rfl
    go_simp
    refine wpAnyH_take (i := 9) (v := ?_) rfl (by kernel_rfl) (by kernel_rfl) (by kernel_rfl) (fun _ _ _ h => h) (Or.inl ⟨by rfl, ?_⟩) (by assumption) ?_
    rotate_left
    · intro w hSw; go_simp; try with_reducible rfl
    go_simp
    have BR := Lib.hid (kp_row HKT.out (kp_row HKS.out (show (W.alloc (.cells #[.int .i64 0, .int .i64 0, .int .i64 0, .int .i64 0, .int .i64 0, .int .i64 0, .int .i64 0, .bool false] 27)).drew.heap[W.heap.size]? = some (.cells #[.int .i64 0, .int .i64 0, .int .i64 0, .int .i64 0, .int .i64 0, .int .i64 0, .int .i64 0, .bool false] 27) from (MapKept.heap_alloc W (.cells #[.int .i64 0, .int .i64 0, .int .i64 0, .int .i64 0, .int .i64 0, .int .i64 0, .int .i64 0, .bool false] 27)).1)))
    obtain ⟨z0, z1, z2, z3, z4, z5, z6, z7⟩ := cells_8 BR.out
    have fzz := frozN BR.out
    refine wpAnyH_ready (rs := [11]) (by kernel_rfl) (by simp) ?_
    refine AllReadyH.cons rfl (fun K hK => ?_) AllReadyH.nil
    go_simp
    refine hK.out _ _ ?_ (fun hHeld => ?_)
    · exact ⟨set_8_kp K6.out (Nat.le_refl _) _ _ _ _ _ _ _ _, set_8_ne _ _ _ _ _ _ _ _ T6.out (by have := WS.out; have : W.heap.size ≤ W.heap.size := Nat.le_refl _; omega)⟩
    clear hK K z0 z1 z2 z3 z4 z5 z6 z7 fzz
    refine wpAnyH_take (i := 12) (v := ?_) rfl (by kernel_rfl) (by kernel_rfl) (by kernel_rfl) (fun _ _ _ h => h) (Or.inl ⟨by rfl, ?_⟩) (by assumption) ?_
    rotate_left
    · intro w hSw; go_simp; try with_reducible rfl
    go_simp
    refine wpAnyH_done (by kernel_rfl) ?_ _
    obtain ⟨X, hX⟩ : ∃ X, ((((((((w6.setCell ⟨W.heap.size, 0, none⟩ (.int .i64 a0)).setCell ⟨W.heap.size, 1, none⟩ (.int .i64 a1)).setCell ⟨W.heap.size, 2, none⟩ (.int .i64 a2)).setCell ⟨W.heap.size, 3, none⟩ (.int .i64 a3)).setCell ⟨W.heap.size, 4, none⟩ (.int .i64 b1)).setCell ⟨W.heap.size, 5, none⟩ (.int .i64 b2)).setCell ⟨W.heap.size, 6, none⟩ (.int .i64 b3)).setCell ⟨W.heap.size, 7, none⟩ (.bool b4)) = X := ⟨_, rfl⟩
    obtain ⟨qB, hqB⟩ : ∃ q, W.heap.size = q := ⟨_, rfl⟩
    have KX := Lib.hid (show Kp W X from hX ▸ hHeld.1)
    have TX := Lib.hid (show X.heap[w.heap.size + 1]? = some (.cells #[.int .i64 to, .int .i64 k] 58) from hX ▸ hHeld.2)
    have BX := Lib.hid (show X.heap[qB]? = some (.cells #[.int .i64 a0, .int .i64 a1, .int .i64 a2, .int .i64 a3, .int .i64 b1, .int .i64 b2, .int .i64 b3, .bool b4] 27) by rw [← hX, ← hqB]; exact set_8 _ _ _ _ _ _ _ _ BR.out)
    have LW := Lib.hid (show W.heap.size ≤ qB by rw [← hqB]; exact Nat.le_refl _)
    try rw [hX]
    try rw [hqB]
    clear hX hqB hHeld
    have AX := Lib.hid (Asd.of_kp (Ob g v) (Kp.trans KW.out KX.out))
    have ZX := Lib.hid (kp_row KX.out ZW.out)
    have HX := Lib.hid (HH.out.kp (Kp.trans KW.out KX.out))
    have LB := Lib.hid (old_of_row BX.out)
    have LT := Lib.hid (old_of_row TX.out)
    have LZ := Lib.hid (old_of_row ZX.out)
    have LQ := Lib.hid (show w.heap.size ≤ qB by have := LW.out; have := WS.out; omega)
    obtain ⟨x0, x1, x2, x3, x4, x5, x6, x7⟩ := cells_8 BX.out
    obtain ⟨u0, u1⟩ := cells_2M TX.out
    have NOBX := Lib.hid (fun b (h1 : w.heap.size ≤ b) (_ : b < X.heap.size) => NOB.out b h1)
    go_wp2_with (go_at_call 53; (with_reducible refine (HSE.out _ _ HX.out).mono ?_); rintro e' w8 ⟨rfl, v', hp, ha⟩; have P8 := Lib.hid hp; have A8 := Lib.hid (AX.out.trans ha); have NO := Lib.hid (show ¬ Ob g v' w.heap.size from fun q => (ha.own _ q).elim (NOB.out _ (Nat.le_refl _)) (fun q => by have := LZ.out; omega)); have B8 := Lib.hid (ha.row BX.out (NOBX.out _ LQ.out LB.out)); have Z8 := Lib.hid (ha.row ZX.out (NOBX.out _ (Nat.le_refl _) LZ.out)); obtain ⟨s0, s1, s2, s3, s4, s5, s6, s7⟩ := cells_8 B8.out; obtain ⟨r0, r1, r2, r3, r4, r5, r6, r7⟩ := cells_8 Z8.out; have fz8 := frozN Z8.out; clear hp ha)
    refine bodyPost_ret (results_row_tmpT (p := 6) (u := 7) rfl _ _ w.heap.size 27 _ (0, 0) _ rfl (set_8 _ _ _ _ _ _ _ _ Z8.out) Tryd.underlying27 rfl (by kernel_rfl)) rfl ?_
    exact ⟨rfl, v', P8.out.stay (fun b hb => set_8_eq (fun q => NO.out (q ▸ hb))), set_8_asd A8.out (Nat.le_refl _)⟩
set_option maxRecDepth 100000 in
set_option maxHeartbeats 2000000 in
theorem mpDl_false {w0 w : World} {ads : List Addr} {g : Nat} {m : PairM} {v : Value} (H : Pr w0 g m v w) (hl : m.f.length ≤ 64) (i : Nat) (ii : Int) (hii : (i : Int) = ii) (hi : i < m.f.length) (to k : Int) (hq : m.f[i] = (to, k)) (hto : to = 1 ∨ to = 2) (ik : i64M k) (p e s h a0 a1 a2 a3 b1 b2 b3 : Int) (b4 : Bool) (hz : seatO m to = ⟨p, e, s, h⟩) (hok : SeatM.ok ⟨p, e, s, h⟩) (hy : SeatM.tell ⟨p, e, s, h⟩ k = (0, ⟨⟨a0, a1, a2, a3⟩, b1, b2, b3, b4⟩)) (T : TabC ads w) (ce : w.cell? ⟨0, 0, none⟩ = some (errI ads 4)) :
    Calls Tryd.prog 28 #[.pointer (some ⟨g, 0, none⟩), .int .i64 ii, .bool false] w fun r w' => r = .returned (.tuple #[.agg #[.int .i64 a0, .int .i64 a1, .int .i64 a2, .int .i64 a3, .int .i64 b1, .int .i64 b2, .int .i64 b3, .bool b4], .nilIface]) ∧ ∃ v', Pr w0 g ⟨(m.set to ⟨a0, a1, a2, a3⟩).c, (m.set to ⟨a0, a1, a2, a3⟩).x, putF (m.f.take i ++ m.f.drop (i + 1)) to b1⟩ v' w' ∧ Asd (Ob g v) (Ob g v') w w' := by
  have K1 := kp_alloc w (.cells #[.int .i64 0, .int .i64 0, .int .i64 0, .int .i64 0, .int .i64 0, .int .i64 0, .int .i64 0, .bool false] 27)
  have HZ := (MapKept.heap_alloc w (.cells #[.int .i64 0, .int .i64 0, .int .i64 0, .int .i64 0, .int .i64 0, .int .i64 0, .int .i64 0, .bool false] 27)).1
  have hf := flies_any (H.kp K1) ii
  rw [decide_eq_true (show 0 ≤ ii ∧ ii < (m.f.length : Int) by omega)] at hf
  have HF := Lib.hid hf
  obtain ⟨W, hW⟩ : ∃ W, ((w.alloc (.cells #[.int .i64 0, .int .i64 0, .int .i64 0, .int .i64 0, .int .i64 0, .int .i64 0, .int .i64 0, .bool false] 27)).alloc (.cells #[.int .i64 to, .int .i64 k] 58)) = W := ⟨_, rfl⟩
  have k2 := kp_alloc (w.alloc (.cells #[.int .i64 0, .int .i64 0, .int .i64 0, .int .i64 0, .int .i64 0, .int .i64 0, .int .i64 0, .bool false] 27)) (.cells #[.int .i64 to, .int .i64 k] 58)
  have t2 := (MapKept.heap_alloc (w.alloc (.cells #[.int .i64 0, .int .i64 0, .int .i64 0, .int .i64 0, .int .i64 0, .int .i64 0, .int .i64 0, .bool false] 27)) (.cells #[.int .i64 to, .int .i64 k] 58)).1
  rw [show (w.alloc (.cells #[.int .i64 0, .int .i64 0, .int .i64 0, .int .i64 0, .int .i64 0, .int .i64 0, .int .i64 0, .bool false] 27)).heap.size = w.heap.size + 1 by simp] at t2
  have WS := Lib.hid (show W.heap.size = w.heap.size + 2 by rw [← hW]; simp)
  have zw := kp_row k2 HZ
  rw [hW] at k2 t2 zw
  have KW := Lib.hid (Kp.trans K1 k2)
  have TW := Lib.hid t2
  have ZW := Lib.hid zw
  have HH := Lib.hid H
  have NOB := Lib.hid (fun b (h1 : w.heap.size ≤ b) => (fun q => absurd (H.mem b q).2 (by omega) : ¬ Ob g v b))
  have hs := fun w1 (hk : Kp W w1) => mpSeat_any (H.kp (Kp.trans KW.out hk)) to
  rw [hz] at hs
  have ht := fun w1 (hk : Kp W w1) => msTell_any ⟨p, e, s, h⟩ k hok ik w1 (T.kp (Kp.trans KW.out hk)) (kp_cell (Kp.trans KW.out hk) ce)
  rw [hy] at ht
  dsimp only [seatV, effV] at hs ht
  rw [errI_nil] at ht
  have HS := Lib.hid hs
  have HT := Lib.hid ht
  have HTK := Lib.hid (fun w1 (H1 : Pr w0 g m v w1) => take_any H1 i ii hii hi hl)
  have HSE := Lib.hid (fun v1 w1 (H1 : Pr w0 g ⟨m.c, m.x, m.f.take i ++ m.f.drop (i + 1)⟩ v1 w1) => (show Calls Tryd.prog 53 #[.pointer (some ⟨g, 0, none⟩), .int .i64 to, .agg #[.int .i64 a0, .int .i64 a1, .int .i64 a2, .int .i64 a3, .int .i64 b1, .int .i64 b2, .int .i64 b3, .bool b4]] w1 fun r w' => r = .returned (.tuple #[]) ∧ ∃ v', Pr w0 g ⟨(m.set to ⟨a0, a1, a2, a3⟩).c, (m.set to ⟨a0, a1, a2, a3⟩).x, putF (m.f.take i ++ m.f.drop (i + 1)) to b1⟩ v' w' ∧ Asd (Ob g v1) (Ob g v') w1 w' from by rcases hto with rfl | rfl <;> exact settle_any H1 _ (by decide) ⟨⟨a0, a1, a2, a3⟩, b1, b2, b3, b4⟩ (show (m.f.take i ++ m.f.drop (i + 1)).length ≤ 64 by have := cut_len (f := m.f) hi; omega)))
  rcases H.own.2 with ⟨-, h0⟩ | ⟨b, cpp, cur, hv, hb, hh, hnc, hcm, hcs, ht2⟩
  · omega
  have r1 := H.row
  unfold pairV at r1
  obtain ⟨-, -, -, -, -, -, -, -, e8⟩ := cells_9 r1
  rw [hv] at e8
  replace e8 := kp_cell K1 e8
  have c0 := kp_cell K1 (H.own.cells (show v.ownBlock = some b by rw [hv]; rfl) (2 * i) _ (flyB_at m.f i hi).1)
  have c1 := kp_cell K1 (H.own.cells (show v.ownBlock = some b by rw [hv]; rfl) (2 * i + 1) _ (flyB_at m.f i hi).2)
  rw [Addr.add_lit, hq] at c0 c1
  dsimp only at c0 c1
  rw [Nat.zero_add, show 2 * i = ii.toNat * 2 by omega] at c0
  rw [Nat.zero_add, show 2 * i + 1 = ii.toNat * 2 + 1 by omega] at c1
  obtain ⟨n, hn⟩ : ∃ n, m.f.length = n := ⟨_, rfl⟩
  rw [hn] at e8 hi
  have i0 : 0 ≤ ii := by omega
  have i1 : ii < n := by omega
  have HW := Lib.hid hW
  clear hW K1 HZ hf k2 t2 zw H hs ht T ce hz hok hy r1 hh ht2 hcs hcm hb hn hq hv
  go_enter Tryd.func28, Tryd.ntmps28
  go_wp2_with (first | (go_at_call 50; (with_reducible refine HF.out.mono ?_); rintro e' w4 ⟨rfl, rfl⟩))
  try rw [HW.out]
  refine wp_region_held_drew (S := fun w' => Kp W w' ∧ w'.heap[w.heap.size + 1]? = some (.cells #[.int .i64 to, .int .i64 k] 58)) (by kernel_rfl) ?_ (fun hHeld => ?_)
  · exact ⟨kp_drewM (Kp.refl _), TW.out⟩
  refine wpAnyH_take (i := 0) (v := ?_) rfl (by kernel_rfl) (by kernel_rfl) (by kernel_rfl) (fun _ _ _ h => h) (Or.inl ⟨by rfl, ?_⟩) (by assumption) ?_
  rotate_left
  · intro w hSw; go_simp; try with_reducible rfl
  go_simp
  refine wpAnyH_take (i := 1) (v := ?_) rfl (by kernel_rfl) (by kernel_rfl) (by kernel_rfl) (fun _ _ _ h => h) (Or.inl ⟨by rfl, ?_⟩) (by assumption) ?_
  rotate_left
  · intro w hSw; go_simp; try with_reducible rfl
  go_simp
  refine wpAnyH_take (i := 2) (v := ?_) rfl (by kernel_rfl) (by kernel_rfl) (by kernel_rfl) (fun _ _ _ h => h) (Or.inl ⟨by rfl, ?_⟩) (by assumption) ?_
  rotate_left
  · intro w hSw; obtain ⟨q0, q1⟩ := cells_2M hSw.2; go_simp; try with_reducible rfl
  go_simp
  refine wpAnyH_take (i := 4) (v := ?_) rfl (by kernel_rfl) (by kernel_rfl) (by kernel_rfl) (fun _ _ _ h => h) (Or.inl ⟨by rfl, ?_⟩) (by assumption) ?_
  rotate_left
  · intro w hSw; go_simp; try with_reducible rfl
  go_simp
  refine wpAnyH_take (i := 5) (v := ?_) rfl (by kernel_rfl) (by kernel_rfl) (by kernel_rfl) (fun _ _ _ h => h) (Or.inl ⟨by rfl, ?_⟩) (by assumption) ?_
  rotate_left
  · intro w hSw; obtain ⟨q0, q1⟩ := cells_2M hSw.2; go_simp; try with_reducible rfl
  go_simp
  refine wpAnyH_ready (rs := [3, 10]) (by kernel_rfl) (by simp) ?_
  refine AllReadyH.cons rfl (fun K hK => ?_) (AllReadyH.cons rfl (fun K hK => ?_) AllReadyH.nil)
  · go_simp
    go_wp2_with (go_at_call 24; (with_reducible refine (HS.out _ hHeld.1).mono ?_); rintro e' w4 ⟨rfl, hk4⟩; have K4 := Lib.hid (Kp.trans hHeld.1 hk4); have T4 := Lib.hid (kp_row hk4 hHeld.2); have HKS := Lib.hid hk4; clear hk4)
    refine hK.out _ _ ⟨K4.out, T4.out⟩ (fun hHeld => ?_)
    clear hK K
    refine wpAnyH_ready (rs := [6, 10]) (by kernel_rfl) (by simp) ?_
    refine AllReadyH.cons rfl (fun K hK => ?_) (AllReadyH.cons rfl (fun K hK => ?_) AllReadyH.nil)
    · go_simp
      go_wp2_with (go_at_call 10; (with_reducible refine (HT.out _ hHeld.1).mono ?_); rintro e' w6 ⟨rfl, hk6⟩; have K6 := Lib.hid (Kp.trans hHeld.1 hk6); have T6 := Lib.hid (kp_row hk6 hHeld.2); have HKT := Lib.hid hk6; clear hk6)
      refine hK.out _ _ ⟨K6.out, T6.out⟩ (fun hHeld => ?_)
      clear hK K
      refine wpAnyH_take (i := 7) (v := ?_) rfl (by kernel_rfl) (by kernel_rfl) (by kernel_rfl) (fun _ _ _ h => h) (Or.inl ⟨by rfl, ?_⟩) (by assumption) ?_
      rotate_left
      · intro w hSw; go_simp; try with_reducible rfl
      go_simp
      refine wpAnyH_take (i := 8) (v := ?_) rfl (by kernel_rfl) (by kernel_rfl) (by kernel_rfl) (fun _ _ _ h => h) (Or.inl ⟨by rfl, ?_⟩) (by assumption) ?_
      rotate_left
      · intro w hSw; go_simp; try with_reducible rfl
      go_simp
      refine wpAnyH_take (i := 9) (v := ?_) rfl (by kernel_rfl) (by kernel_rfl) (by kernel_rfl) (fun _ _ _ h => h) (Or.inl ⟨by rfl, ?_⟩) (by assumption) ?_
      rotate_left
      · intro w hSw; go_simp; try with_reducible rfl
      go_simp
      refine wpAnyH_ready (rs := [10]) (by kernel_rfl) (by simp) ?_
      refine AllReadyH.cons rfl (fun K hK => ?_) AllReadyH.nil
      go_simp
      refine hK.out _ _ ?_ (fun hHeld => ?_)
      · exact ⟨Kp.trans hHeld.1 (kp_alloc _ _), kp_row (kp_alloc _ _) hHeld.2⟩
      clear hK K
      have BR := Lib.hid ((MapKept.heap_alloc w6 (.cells #[.int .i64 0, .int .i64 0, .int .i64 0, .int .i64 0, .int .i64 0, .int .i64 0, .int .i64 0, .bool false] 27)).1)
      obtain ⟨z0, z1, z2, z3, z4, z5, z6, z7⟩ := cells_8 BR.out
      have fzz := frozN BR.out
      refine wpAnyH_ready (rs := [11]) (by kernel_rfl) (by simp) ?_
      refine AllReadyH.cons rfl (fun K hK => ?_) AllReadyH.nil
      go_simp
      refine hK.out _ _ ?_ (fun hHeld => ?_)
      · exact ⟨Kp.trans K6.out (kp_alloc _ _), kp_row (kp_alloc _ _) T6.out⟩
      clear hK K z0 z1 z2 z3 z4 z5 z6 z7 fzz
      refine wpAnyH_take (i := 12) (v := ?_) rfl (by kernel_rfl) (by kernel_rfl) (by kernel_rfl) (fun _ _ _ h => h) (Or.inl ⟨by rfl, ?_⟩) (by assumption) ?_
      rotate_left
      · intro w hSw; go_simp; try with_reducible rfl
      go_simp
      refine wpAnyH_done (by kernel_rfl) ?_ _
      obtain ⟨X, hX⟩ : ∃ X, w6.alloc (.cells #[.int .i64 a0, .int .i64 a1, .int .i64 a2, .int .i64 a3, .int .i64 b1, .int .i64 b2, .int .i64 b3, .bool b4] 27) = X := ⟨_, rfl⟩
      obtain ⟨qB, hqB⟩ : ∃ q, w6.heap.size = q := ⟨_, rfl⟩
      have KX := Lib.hid (show Kp W X from hX ▸ hHeld.1)
      have TX := Lib.hid (show X.heap[w.heap.size + 1]? = some (.cells #[.int .i64 to, .int .i64 k] 58) from hX ▸ hHeld.2)
      have BX := Lib.hid (show X.heap[qB]? = some (.cells #[.int .i64 a0, .int .i64 a1, .int .i64 a2, .int .i64 a3, .int .i64 b1, .int .i64 b2, .int .i64 b3, .bool b4] 27) by rw [← hX, ← hqB]; exact (MapKept.heap_alloc w6 (.cells #[.int .i64 a0, .int .i64 a1, .int .i64 a2, .int .i64 a3, .int .i64 b1, .int .i64 b2, .int .i64 b3, .bool b4] 27)).1)
      have LW := Lib.hid (show W.heap.size ≤ qB by rw [← hqB]; exact Below.size K6.out)
      try rw [hX]
      try rw [hqB]
      clear hX hqB hHeld
      have AX := Lib.hid (Asd.of_kp (Ob g v) (Kp.trans KW.out KX.out))
      have ZX := Lib.hid (kp_row KX.out ZW.out)
      have HX := Lib.hid (HH.out.kp (Kp.trans KW.out KX.out))
      have LB := Lib.hid (old_of_row BX.out)
      have LT := Lib.hid (old_of_row TX.out)
      have LZ := Lib.hid (old_of_row ZX.out)
      have LQ := Lib.hid (show w.heap.size ≤ qB by have := LW.out; have := WS.out; omega)
      obtain ⟨x0, x1, x2, x3, x4, x5, x6, x7⟩ := cells_8 BX.out
      obtain ⟨u0, u1⟩ := cells_2M TX.out
      go_wp2_with (first | (go_at_call 52; (with_reducible refine (HTK.out _ HX.out).mono ?_); rintro e' w7 ⟨rfl, v1, hp, ha⟩; have P7 := Lib.hid hp; have A7 := Lib.hid (AX.out.trans ha); have NOB7 := Lib.hid (fun b (h1 : w.heap.size ≤ b) (h2 : b < X.heap.size) => (fun q => (ha.own b q).elim (NOB.out b h1) (fun q => absurd h2 (by omega)) : ¬ Ob g v1 b)); have SZ7 := Lib.hid ha.size; have B7 := Lib.hid (ha.row BX.out (NOB.out _ LQ.out)); have Z7 := Lib.hid (ha.row ZX.out (NOB.out _ (Nat.le_refl _))); have T7 := Lib.hid (ha.row TX.out (NOB.out _ (Nat.le_succ _))); obtain ⟨m0, m1, m2, m3, m4, m5, m6, m7⟩ := cells_8 B7.out; obtain ⟨n0, n1⟩ := cells_2M T7.out; clear hp ha) | (go_at_call 53; (with_reducible refine (HSE.out _ _ P7.out).mono ?_); rintro e' w8 ⟨rfl, v', hp, ha⟩; have P8 := Lib.hid hp; have A8 := Lib.hid (A7.out.trans ha); have NO := Lib.hid (show ¬ Ob g v' w.heap.size from fun q => (ha.own _ q).elim (NOB7.out _ (Nat.le_refl _) LZ.out) (fun q => by have := LZ.out; have := SZ7.out; omega)); have B8 := Lib.hid (ha.row B7.out (NOB7.out _ LQ.out LB.out)); have Z8 := Lib.hid (ha.row Z7.out (NOB7.out _ (Nat.le_refl _) LZ.out)); obtain ⟨s0, s1, s2, s3, s4, s5, s6, s7⟩ := cells_8 B8.out; obtain ⟨r0, r1, r2, r3, r4, r5, r6, r7⟩ := cells_8 Z8.out; have fz8 := frozN Z8.out; clear hp ha))
      refine bodyPost_ret (results_row_tmpT (p := 6) (u := 7) rfl _ _ w.heap.size 27 _ (0, 0) _ rfl (set_8 _ _ _ _ _ _ _ _ Z8.out) Tryd.underlying27 rfl (by kernel_rfl)) rfl ?_
      exact ⟨rfl, v', P8.out.stay (fun b hb => set_8_eq (fun q => NO.out (q ▸ hb))), set_8_asd A8.out (Nat.le_refl _)⟩
    · go_simp
      refine hK.out _ _ ⟨Kp.trans hHeld.1 (kp_alloc _ _), kp_row (kp_alloc _ _) hHeld.2⟩ (fun hHeld => ?_)
      clear hK K
      refine wpAnyH_ready (rs := [6]) (by kernel_rfl) (by simp) ?_
      refine AllReadyH.cons rfl (fun K hK => ?_) AllReadyH.nil
      go_simp
      go_wp2_with (go_at_call 10; (with_reducible refine (HT.out _ hHeld.1).mono ?_); rintro e' w6 ⟨rfl, hk6⟩; have K6 := Lib.hid (Kp.trans hHeld.1 hk6); have T6 := Lib.hid (kp_row hk6 hHeld.2); have HKT := Lib.hid hk6; clear hk6)
      refine hK.out _ _ ?_ (fun hHeld => ?_)
      · exact ⟨K6.out, T6.out⟩
      clear hK K
      refine wpAnyH_take (i := 7) (v := ?_) rfl (by kernel_rfl) (by kernel_rfl) (by kernel_rfl) (fun _ _ _ h => h) (Or.inl ⟨by rfl, ?_⟩) (by assumption) ?_
      rotate_left
      · intro w hSw; go_simp; try with_reducible rfl
      go_simp
      refine wpAnyH_take (i := 8) (v := ?_) rfl (by kernel_rfl) (by kernel_rfl) (by kernel_rfl) (fun _ _ _ h => h) (Or.inl ⟨by rfl, ?_⟩) (by assumption) ?_
      rotate_left
      · intro w hSw; go_simp; try with_reducible rfl
      go_simp
      refine wpAnyH_take (i := 9) (v := ?_) rfl (by kernel_rfl) (by kernel_rfl) (by kernel_rfl) (fun _ _ _ h => h) (Or.inl ⟨by rfl, ?_⟩) (by assumption) ?_
      rotate_left
      · intro w hSw; go_simp; try with_reducible rfl
      go_simp
      have BR := Lib.hid (kp_row HKT.out (MapKept.heap_alloc w4 (.cells #[.int .i64 0, .int .i64 0, .int .i64 0, .int .i64 0, .int .i64 0, .int .i64 0, .int .i64 0, .bool false] 27)).1)
      obtain ⟨z0, z1, z2, z3, z4, z5, z6, z7⟩ := cells_8 BR.out
      have fzz := frozN BR.out
      refine wpAnyH_ready (rs := [11]) (by kernel_rfl) (by simp) ?_
      refine AllReadyH.cons rfl (fun K hK => ?_) AllReadyH.nil
      go_simp
      refine hK.out _ _ ?_ (fun hHeld => ?_)
      · exact ⟨set_8_kp K6.out (Below.size K4.out) _ _ _ _ _ _ _ _, set_8_ne _ _ _ _ _ _ _ _ T6.out (by have := WS.out; have : W.heap.size ≤ w4.heap.size := Below.size K4.out; omega)⟩
      clear hK K z0 z1 z2 z3 z4 z5 z6 z7 fzz
      refine wpAnyH_take (i := 12) (v := ?_) rfl (by kernel_rfl) (by kernel_rfl) (by kernel_rfl) (fun _ _ _ h => h) (Or.inl ⟨by rfl, ?_⟩) (by assumption) ?_
      rotate_left
      · intro w hSw; go_simp; try with_reducible rfl
      go_simp
      refine wpAnyH_done (by kernel_rfl) ?_ _
      obtain ⟨X, hX⟩ : ∃ X, ((((((((w6.setCell ⟨w4.heap.size, 0, none⟩ (.int .i64 a0)).setCell ⟨w4.heap.size, 1, none⟩ (.int .i64 a1)).setCell ⟨w4.heap.size, 2, none⟩ (.int .i64 a2)).setCell ⟨w4.heap.size, 3, none⟩ (.int .i64 a3)).setCell ⟨w4.heap.size, 4, none⟩ (.int .i64 b1)).setCell ⟨w4.heap.size, 5, none⟩ (.int .i64 b2)).setCell ⟨w4.heap.size, 6, none⟩ (.int .i64 b3)).setCell ⟨w4.heap.size, 7, none⟩ (.bool b4)) = X := ⟨_, rfl⟩
      obtain ⟨qB, hqB⟩ : ∃ q, w4.heap.size = q := ⟨_, rfl⟩
      have KX := Lib.hid (show Kp W X from hX ▸ hHeld.1)
      have TX := Lib.hid (show X.heap[w.heap.size + 1]? = some (.cells #[.int .i64 to, .int .i64 k] 58) from hX ▸ hHeld.2)
      have BX := Lib.hid (show X.heap[qB]? = some (.cells #[.int .i64 a0, .int .i64 a1, .int .i64 a2, .int .i64 a3, .int .i64 b1, .int .i64 b2, .int .i64 b3, .bool b4] 27) by rw [← hX, ← hqB]; exact set_8 _ _ _ _ _ _ _ _ BR.out)
      have LW := Lib.hid (show W.heap.size ≤ qB by rw [← hqB]; exact Below.size K4.out)
      try rw [hX]
      try rw [hqB]
      clear hX hqB hHeld
      have AX := Lib.hid (Asd.of_kp (Ob g v) (Kp.trans KW.out KX.out))
      have ZX := Lib.hid (kp_row KX.out ZW.out)
      have HX := Lib.hid (HH.out.kp (Kp.trans KW.out KX.out))
      have LB := Lib.hid (old_of_row BX.out)
      have LT := Lib.hid (old_of_row TX.out)
      have LZ := Lib.hid (old_of_row ZX.out)
      have LQ := Lib.hid (show w.heap.size ≤ qB by have := LW.out; have := WS.out; omega)
      obtain ⟨x0, x1, x2, x3, x4, x5, x6, x7⟩ := cells_8 BX.out
      obtain ⟨u0, u1⟩ := cells_2M TX.out
      go_wp2_with (first | (go_at_call 52; (with_reducible refine (HTK.out _ HX.out).mono ?_); rintro e' w7 ⟨rfl, v1, hp, ha⟩; have P7 := Lib.hid hp; have A7 := Lib.hid (AX.out.trans ha); have NOB7 := Lib.hid (fun b (h1 : w.heap.size ≤ b) (h2 : b < X.heap.size) => (fun q => (ha.own b q).elim (NOB.out b h1) (fun q => absurd h2 (by omega)) : ¬ Ob g v1 b)); have SZ7 := Lib.hid ha.size; have B7 := Lib.hid (ha.row BX.out (NOB.out _ LQ.out)); have Z7 := Lib.hid (ha.row ZX.out (NOB.out _ (Nat.le_refl _))); have T7 := Lib.hid (ha.row TX.out (NOB.out _ (Nat.le_succ _))); obtain ⟨m0, m1, m2, m3, m4, m5, m6, m7⟩ := cells_8 B7.out; obtain ⟨n0, n1⟩ := cells_2M T7.out; clear hp ha) | (go_at_call 53; (with_reducible refine (HSE.out _ _ P7.out).mono ?_); rintro e' w8 ⟨rfl, v', hp, ha⟩; have P8 := Lib.hid hp; have A8 := Lib.hid (A7.out.trans ha); have NO := Lib.hid (show ¬ Ob g v' w.heap.size from fun q => (ha.own _ q).elim (NOB7.out _ (Nat.le_refl _) LZ.out) (fun q => by have := LZ.out; have := SZ7.out; omega)); have B8 := Lib.hid (ha.row B7.out (NOB7.out _ LQ.out LB.out)); have Z8 := Lib.hid (ha.row Z7.out (NOB7.out _ (Nat.le_refl _) LZ.out)); obtain ⟨s0, s1, s2, s3, s4, s5, s6, s7⟩ := cells_8 B8.out; obtain ⟨r0, r1, r2, r3, r4, r5, r6, r7⟩ := cells_8 Z8.out; have fz8 := frozN Z8.out; clear hp ha))
      refine bodyPost_ret (results_row_tmpT (p := 6) (u := 7) rfl _ _ w.heap.size 27 _ (0, 0) _ rfl (set_8 _ _ _ _ _ _ _ _ Z8.out) Tryd.underlying27 rfl (by kernel_rfl)) rfl ?_
      exact ⟨rfl, v', P8.out.stay (fun b hb => set_8_eq (fun q => NO.out (q ▸ hb))), set_8_asd A8.out (Nat.le_refl _)⟩
  · go_simp
    refine hK.out _ _ ⟨Kp.trans hHeld.1 (kp_alloc _ _), kp_row (kp_alloc _ _) hHeld.2⟩ (fun hHeld => ?_)
    clear hK K
    refine wpAnyH_ready (rs := [3]) (by kernel_rfl) (by simp) ?_
    refine AllReadyH.cons rfl (fun K hK => ?_) AllReadyH.nil
    go_simp
    go_wp2_with (go_at_call 24; (with_reducible refine (HS.out _ hHeld.1).mono ?_); rintro e' w4 ⟨rfl, hk4⟩; have K4 := Lib.hid (Kp.trans hHeld.1 hk4); have T4 := Lib.hid (kp_row hk4 hHeld.2); have HKS := Lib.hid hk4; clear hk4)
    refine hK.out _ _ ?_ (fun hHeld => ?_)
    · exact ⟨K4.out, T4.out⟩
    clear hK K
    refine wpAnyH_ready (rs := [6]) (by kernel_rfl) (by simp) ?_
    refine AllReadyH.cons rfl (fun K hK => ?_) AllReadyH.nil
    go_simp
    go_wp2_with (go_at_call 10; (with_reducible refine (HT.out _ hHeld.1).mono ?_); rintro e' w6 ⟨rfl, hk6⟩; have K6 := Lib.hid (Kp.trans hHeld.1 hk6); have T6 := Lib.hid (kp_row hk6 hHeld.2); have HKT := Lib.hid hk6; clear hk6)
    refine hK.out _ _ ?_ (fun hHeld => ?_)
    · exact ⟨K6.out, T6.out⟩
    clear hK K
    refine wpAnyH_take (i := 7) (v := ?_) rfl (by kernel_rfl) (by kernel_rfl) (by kernel_rfl) (fun _ _ _ h => h) (Or.inl ⟨by rfl, ?_⟩) (by assumption) ?_
    rotate_left
    · intro w hSw; go_simp; try with_reducible rfl
    go_simp
    refine wpAnyH_take (i := 8) (v := ?_) rfl (by kernel_rfl) (by kernel_rfl) (by kernel_rfl) (fun _ _ _ h => h) (Or.inl ⟨by rfl, ?_⟩) (by assumption) ?_
    rotate_left
    · intro w hSw; go_simp; try with_reducible rfl
    go_simp
    refine wpAnyH_take (i := 9) (v := ?_) rfl (by kernel_rfl) (by kernel_rfl) (by kernel_rfl) (fun _ _ _ h => h) (Or.inl ⟨by rfl, ?_⟩) (by assumption) ?_
    rotate_left
    · intro w hSw; go_simp; try with_reducible rfl
    go_simp
    have BR := Lib.hid (kp_row HKT.out (kp_row HKS.out (show (W.alloc (.cells #[.int .i64 0, .int .i64 0, .int .i64 0, .int .i64 0, .int .i64 0, .int .i64 0, .int .i64 0, .bool false] 27)).drew.heap[W.heap.size]? = some (.cells #[.int .i64 0, .int .i64 0, .int .i64 0, .int .i64 0, .int .i64 0, .int .i64 0, .int .i64 0, .bool false] 27) from (MapKept.heap_alloc W (.cells #[.int .i64 0, .int .i64 0, .int .i64 0, .int .i64 0, .int .i64 0, .int .i64 0, .int .i64 0, .bool false] 27)).1)))
    obtain ⟨z0, z1, z2, z3, z4, z5, z6, z7⟩ := cells_8 BR.out
    have fzz := frozN BR.out
    refine wpAnyH_ready (rs := [11]) (by kernel_rfl) (by simp) ?_
    refine AllReadyH.cons rfl (fun K hK => ?_) AllReadyH.nil
    go_simp
    refine hK.out _ _ ?_ (fun hHeld => ?_)
    · exact ⟨set_8_kp K6.out (Nat.le_refl _) _ _ _ _ _ _ _ _, set_8_ne _ _ _ _ _ _ _ _ T6.out (by have := WS.out; have : W.heap.size ≤ W.heap.size := Nat.le_refl _; omega)⟩
    clear hK K z0 z1 z2 z3 z4 z5 z6 z7 fzz
    refine wpAnyH_take (i := 12) (v := ?_) rfl (by kernel_rfl) (by kernel_rfl) (by kernel_rfl) (fun _ _ _ h => h) (Or.inl ⟨by rfl, ?_⟩) (by assumption) ?_
    rotate_left
    · intro w hSw; go_simp; try with_reducible rfl
    go_simp
    refine wpAnyH_done (by kernel_rfl) ?_ _
    obtain ⟨X, hX⟩ : ∃ X, ((((((((w6.setCell ⟨W.heap.size, 0, none⟩ (.int .i64 a0)).setCell ⟨W.heap.size, 1, none⟩ (.int .i64 a1)).setCell ⟨W.heap.size, 2, none⟩ (.int .i64 a2)).setCell ⟨W.heap.size, 3, none⟩ (.int .i64 a3)).setCell ⟨W.heap.size, 4, none⟩ (.int .i64 b1)).setCell ⟨W.heap.size, 5, none⟩ (.int .i64 b2)).setCell ⟨W.heap.size, 6, none⟩ (.int .i64 b3)).setCell ⟨W.heap.size, 7, none⟩ (.bool b4)) = X := ⟨_, rfl⟩
    obtain ⟨qB, hqB⟩ : ∃ q, W.heap.size = q := ⟨_, rfl⟩
    have KX := Lib.hid (show Kp W X from hX ▸ hHeld.1)
    have TX := Lib.hid (show X.heap[w.heap.size + 1]? = some (.cells #[.int .i64 to, .int .i64 k] 58) from hX ▸ hHeld.2)
    have BX := Lib.hid (show X.heap[qB]? = some (.cells #[.int .i64 a0, .int .i64 a1, .int .i64 a2, .int .i64 a3, .int .i64 b1, .int .i64 b2, .int .i64 b3, .bool b4] 27) by rw [← hX, ← hqB]; exact set_8 _ _ _ _ _ _ _ _ BR.out)
    have LW := Lib.hid (show W.heap.size ≤ qB by rw [← hqB]; exact Nat.le_refl _)
    try rw [hX]
    try rw [hqB]
    clear hX hqB hHeld
    have AX := Lib.hid (Asd.of_kp (Ob g v) (Kp.trans KW.out KX.out))
    have ZX := Lib.hid (kp_row KX.out ZW.out)
    have HX := Lib.hid (HH.out.kp (Kp.trans KW.out KX.out))
    have LB := Lib.hid (old_of_row BX.out)
    have LT := Lib.hid (old_of_row TX.out)
    have LZ := Lib.hid (old_of_row ZX.out)
    have LQ := Lib.hid (show w.heap.size ≤ qB by have := LW.out; have := WS.out; omega)
    obtain ⟨x0, x1, x2, x3, x4, x5, x6, x7⟩ := cells_8 BX.out
    obtain ⟨u0, u1⟩ := cells_2M TX.out
    go_wp2_with (first | (go_at_call 52; (with_reducible refine (HTK.out _ HX.out).mono ?_); rintro e' w7 ⟨rfl, v1, hp, ha⟩; have P7 := Lib.hid hp; have A7 := Lib.hid (AX.out.trans ha); have NOB7 := Lib.hid (fun b (h1 : w.heap.size ≤ b) (h2 : b < X.heap.size) => (fun q => (ha.own b q).elim (NOB.out b h1) (fun q => absurd h2 (by omega)) : ¬ Ob g v1 b)); have SZ7 := Lib.hid ha.size; have B7 := Lib.hid (ha.row BX.out (NOB.out _ LQ.out)); have Z7 := Lib.hid (ha.row ZX.out (NOB.out _ (Nat.le_refl _))); have T7 := Lib.hid (ha.row TX.out (NOB.out _ (Nat.le_succ _))); obtain ⟨m0, m1, m2, m3, m4, m5, m6, m7⟩ := cells_8 B7.out; obtain ⟨n0, n1⟩ := cells_2M T7.out; clear hp ha) | (go_at_call 53; (with_reducible refine (HSE.out _ _ P7.out).mono ?_); rintro e' w8 ⟨rfl, v', hp, ha⟩; have P8 := Lib.hid hp; have A8 := Lib.hid (A7.out.trans ha); have NO := Lib.hid (show ¬ Ob g v' w.heap.size from fun q => (ha.own _ q).elim (NOB7.out _ (Nat.le_refl _) LZ.out) (fun q => by have := LZ.out; have := SZ7.out; omega)); have B8 := Lib.hid (ha.row B7.out (NOB7.out _ LQ.out LB.out)); have Z8 := Lib.hid (ha.row Z7.out (NOB7.out _ (Nat.le_refl _) LZ.out)); obtain ⟨s0, s1, s2, s3, s4, s5, s6, s7⟩ := cells_8 B8.out; obtain ⟨r0, r1, r2, r3, r4, r5, r6, r7⟩ := cells_8 Z8.out; have fz8 := frozN Z8.out; clear hp ha))
    refine bodyPost_ret (results_row_tmpT (p := 6) (u := 7) rfl _ _ w.heap.size 27 _ (0, 0) _ rfl (set_8 _ _ _ _ _ _ _ _ Z8.out) Tryd.underlying27 rfl (by kernel_rfl)) rfl ?_
    exact ⟨rfl, v', P8.out.stay (fun b hb => set_8_eq (fun q => NO.out (q ▸ hb))), set_8_asd A8.out (Nat.le_refl _)⟩
end Go.Proofs.YtghjnhdepeiloaaDoor
