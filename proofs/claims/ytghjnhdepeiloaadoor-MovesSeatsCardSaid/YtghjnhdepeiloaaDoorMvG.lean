/-
  MovesSeats' WALK (own work).
-/
import Derived.Test.YtghjnhdepeiloaaDoorMvF
import Derived.Test.YtghjnhdepeiloaaDoorMvD
import Derived.Test.YtghjnhdepeiloaaDoorMvC
import Derived.Deep.RegionHeld3
namespace Go.Proofs.YtghjnhdepeiloaaDoor
open Go.RowKit Go.ChangeShapes Go.WideShapes

theorem tell_num (z : SeatM) (k : Int) : 0 ≤ (z.tell k).1 ∧ (z.tell k).1 ≤ 14 := by
  unfold SeatM.tell
  split
  · exact ⟨by decide, by decide⟩
  · split
    · exact ⟨Int.le_refl _, by show (0 : Int) ≤ 14; decide⟩
    · exact ⟨Int.le_refl _, by show (0 : Int) ≤ 14; decide⟩
theorem step_num (p e k s : Int) : 0 ≤ (stepT p e k s).1 ∧ (stepT p e k s).1 ≤ 14 := by
  unfold stepT
  repeat' split
  all_goals (dsimp only; omega)
theorem act_num (z : SeatM) (k : Int) : 0 ≤ (z.act k).1 ∧ (z.act k).1 ≤ 14 := by
  unfold SeatM.act
  split
  · exact ⟨by decide, by decide⟩
  · split
    · exact step_num _ _ _ _
    · exact ⟨Int.le_refl _, by show (0 : Int) ≤ 14; decide⟩
/-- THE SIX BOXES of MovesSeats -/
structure SxB (b0 b1 b2 b3 b4 b5 : Nat) (o0 o1 o2 o3 o4 o5 : Obj) (w : World) : Prop where
  h0 : w.heap[b0]? = some o0
  h1 : w.heap[b1]? = some o1
  h2 : w.heap[b2]? = some o2
  h3 : w.heap[b3]? = some o3
  h4 : w.heap[b4]? = some o4
  h5 : w.heap[b5]? = some o5
theorem SxB.kp {b0 b1 b2 b3 b4 b5 : Nat} {o0 o1 o2 o3 o4 o5 : Obj} {w w' : World} (h : SxB b0 b1 b2 b3 b4 b5 o0 o1 o2 o3 o4 o5 w) (hk : Kp w w') : SxB b0 b1 b2 b3 b4 b5 o0 o1 o2 o3 o4 o5 w' :=
  ⟨kp_row hk h.h0, kp_row hk h.h1, kp_row hk h.h2, kp_row hk h.h3, kp_row hk h.h4, kp_row hk h.h5⟩
set_option maxRecDepth 100000 in
set_option maxHeartbeats 2000000 in
theorem seats_true {ads : List Addr} {J : Nat → PairM → (Nat → Prop) → World → Prop} (p e s h k : Int) (hz : SeatM.ok ⟨p, e, s, h⟩) (ik : i64M k) (hr : SeatM.right ⟨p, e, s, h⟩ = true) (n1 n2 : Int) (y0 y1 y2 y3 y4 y5 y6 : Int) (y7 : Bool) (v0 v1 v2 v3 v4 v5 v6 : Int) (v7 : Bool) (hy : SeatM.tell ⟨p, e, s, h⟩ k = (n1, ⟨⟨y0, y1, y2, y3⟩, y4, y5, y6, y7⟩)) (hv : SeatM.act ⟨p, e, s, h⟩ k = (n2, ⟨⟨v0, v1, v2, v3⟩, v4, v5, v6, v7⟩)) (w : World) (V : St ads w) (C : MovC ads w J) :
    Calls Tryd.prog 3 #[.agg #[.int .i64 p, .int .i64 e, .int .i64 s, .int .i64 h], .int .i64 k] w fun r w' => r = .returned (.bool true) ∧ Kp w w' := by
  have ht := fun w1 (hk : Kp w w1) => C.tell w1 hk ⟨p, e, s, h⟩ k hz ik
  have ha := fun w1 (hk : Kp w w1) => C.act w1 hk ⟨p, e, s, h⟩ k hz ik
  have hrt := fun w1 => refTell_any ⟨p, e, s, h⟩ k w1
  have hra := fun w1 => refAct_any ⟨p, e, s, h⟩ k w1
  have hR := fun w1 (hk : Kp w w1) => C.right w1 hk ⟨p, e, s, h⟩ hz
  have hRR := fun w1 => refRight_any ⟨p, e, s, h⟩ w1
  have hW := fun w1 (hk : Kp w w1) => C.work w1 hk ⟨p, e, s, h⟩ hz
  have hWt := fun w1 (hk : Kp w w1) => C.waits w1 hk ⟨p, e, s, h⟩ hz
  have hRW := fun w1 => refWork_any ⟨p, e, s, h⟩ w1
  have m1 := tell_num ⟨p, e, s, h⟩ k
  have m2 := act_num ⟨p, e, s, h⟩ k
  rw [hy] at ht hrt m1
  rw [hv] at ha hra m2
  rw [hr] at hR hRR hW hWt
  dsimp only [seatV, effV] at ht ha hrt hra hR hRR hW hWt hRW m1 m2
  have hn1 := fun w1 (hk : Kp w w1) => num_errN ads w1 (V.below hk) n1 m1.1 m1.2
  have hn2 := fun w1 (hk : Kp w w1) => num_errN ads w1 (V.below hk) n2 m2.1 m2.2
  obtain ⟨d1, hd1⟩ : ∃ d, errI ads n1 = d := ⟨_, rfl⟩
  obtain ⟨d2, hd2⟩ : ∃ d, errI ads n2 = d := ⟨_, rfl⟩
  rw [hd1] at ht hn1
  rw [hd2] at ha hn2
  obtain ⟨wk, hwk⟩ : ∃ x, SeatM.work ⟨p, e, s, h⟩ = x := ⟨_, rfl⟩
  obtain ⟨wt, hwt⟩ : ∃ x, SeatM.waits ⟨p, e, s, h⟩ = x := ⟨_, rfl⟩
  rw [hwk] at hW hRW
  rw [hwt] at hWt
  rw [if_pos rfl] at hW hWt
  have HT := Lib.hid ht
  have HA := Lib.hid ha
  have HRT := Lib.hid hrt
  have HRA := Lib.hid hra
  have HR := Lib.hid hR
  have HRR := Lib.hid hRR
  have HWK := Lib.hid hW
  have HWT := Lib.hid hWt
  have HRW := Lib.hid hRW
  have HN1 := Lib.hid hn1
  have HN2 := Lib.hid hn2
  have HSY := Lib.hid (fun w => same_t y0 y1 y2 y3 y4 y5 y6 y7 w)
  have HSV := Lib.hid (fun w => same_t v0 v1 v2 v3 v4 v5 v6 v7 w)
  have HAL := Lib.hid (fun w1 hk => alive11_any C w1 hk)
  have K0 := Lib.hid (kp_alloc w (.cells #[.int .i64 p, .int .i64 e, .int .i64 s, .int .i64 h] 23))
  have R0 := Lib.hid (MapKept.heap_alloc w (.cells #[.int .i64 p, .int .i64 e, .int .i64 s, .int .i64 h] 23)).1
  clear ht ha hrt hra hR hRR hW hWt hRW hn1 hn2 hd1 hd2 hwk hwt hy hv hr m1 m2 V C hz ik
  go_enter Tryd.func3, Tryd.ntmps3
  go_wp2_with (first
    | (go_at_call 9; (with_reducible refine (HAL.out _ K0.out).mono ?_); rintro e' w1 ⟨rfl, hk⟩; have K1 := Lib.hid (Kp.trans K0.out hk); have a0 := kp_row hk R0.out; have hk1 := kp_alloc w1 (.cells #[.int .i64 p, .int .i64 e, .int .i64 s, .int .i64 h] 25); have T1 := Lib.hid (And.intro (Kp.trans K1.out hk1) (kp_row hk1 a0)); have B1 := Lib.hid (MapKept.heap_alloc w1 (.cells #[.int .i64 p, .int .i64 e, .int .i64 s, .int .i64 h] 25)).1; obtain ⟨i0, i1, i2, i3⟩ := cells_4 a0; obtain ⟨j0, j1, j2, j3⟩ := cells_4 T1.out.2; clear hk a0 hk1)
    | (go_at_call 10; (with_reducible refine (HT.out _ T1.out.1).mono ?_); rintro e' w2 ⟨rfl, hk⟩; have hk2 := Kp.trans hk (kp_alloc w2 (.cells #[.int .i64 y0, .int .i64 y1, .int .i64 y2, .int .i64 y3, .int .i64 y4, .int .i64 y5, .int .i64 y6, .bool y7] 27)); have T2 := Lib.hid (And.intro (Kp.trans T1.out.1 hk2) (And.intro (kp_row hk2 T1.out.2) (kp_row hk2 B1.out))); have B2 := Lib.hid (MapKept.heap_alloc w2 (.cells #[.int .i64 y0, .int .i64 y1, .int .i64 y2, .int .i64 y3, .int .i64 y4, .int .i64 y5, .int .i64 y6, .bool y7] 27)).1; obtain ⟨l0, l1, l2, l3⟩ := cells_4 T2.out.2.1; obtain ⟨r0, r1, r2, r3⟩ := cells_4 T2.out.2.2; clear hk hk2)
    | (go_at_call 11; (with_reducible refine (HRT.out _).mono ?_); rintro e' w3 ⟨rfl, hk⟩; have hk2 := Kp.trans hk (kp_alloc w3 (.cells #[.int .i64 y0, .int .i64 y1, .int .i64 y2, .int .i64 y3, .int .i64 y4, .int .i64 y5, .int .i64 y6, .bool y7] 33)); have T3 := Lib.hid (And.intro (Kp.trans T2.out.1 hk2) (And.intro (kp_row hk2 T2.out.2.1) (And.intro (kp_row hk2 T2.out.2.2) (kp_row hk2 B2.out)))); have B3 := Lib.hid (MapKept.heap_alloc w3 (.cells #[.int .i64 y0, .int .i64 y1, .int .i64 y2, .int .i64 y3, .int .i64 y4, .int .i64 y5, .int .i64 y6, .bool y7] 33)).1; obtain ⟨n0, n1, n2, n3⟩ := cells_4 T3.out.2.1; obtain ⟨o0, o1, o2, o3⟩ := cells_4 T3.out.2.2.1; clear hk hk2)
    | (go_at_call 12; (with_reducible refine (HA.out _ T3.out.1).mono ?_); rintro e' w4 ⟨rfl, hk⟩; have hk2 := Kp.trans hk (kp_alloc w4 (.cells #[.int .i64 v0, .int .i64 v1, .int .i64 v2, .int .i64 v3, .int .i64 v4, .int .i64 v5, .int .i64 v6, .bool v7] 27)); have T4 := Lib.hid (And.intro (Kp.trans T3.out.1 hk2) (And.intro (kp_row hk2 T3.out.2.1) (And.intro (kp_row hk2 T3.out.2.2.1) (And.intro (kp_row hk2 T3.out.2.2.2) (kp_row hk2 B3.out))))); have B4 := Lib.hid (MapKept.heap_alloc w4 (.cells #[.int .i64 v0, .int .i64 v1, .int .i64 v2, .int .i64 v3, .int .i64 v4, .int .i64 v5, .int .i64 v6, .bool v7] 27)).1; obtain ⟨s0, s1, s2, s3⟩ := cells_4 T4.out.2.1; obtain ⟨t0, t1, t2, t3⟩ := cells_4 T4.out.2.2.1; clear hk hk2)
    | (go_at_call 13; (with_reducible refine (HRA.out _).mono ?_); rintro e' w5 ⟨rfl, hk⟩; have hk2 := Kp.trans hk (kp_alloc w5 (.cells #[.int .i64 v0, .int .i64 v1, .int .i64 v2, .int .i64 v3, .int .i64 v4, .int .i64 v5, .int .i64 v6, .bool v7] 33)); have KB := Lib.hid (And.intro (Kp.trans T4.out.1 hk2) True.intro); have SB := Lib.hid (show SxB w.heap.size w1.heap.size w2.heap.size w3.heap.size w4.heap.size w5.heap.size (.cells #[.int .i64 p, .int .i64 e, .int .i64 s, .int .i64 h] 23) (.cells #[.int .i64 p, .int .i64 e, .int .i64 s, .int .i64 h] 25) (.cells #[.int .i64 y0, .int .i64 y1, .int .i64 y2, .int .i64 y3, .int .i64 y4, .int .i64 y5, .int .i64 y6, .bool y7] 27) (.cells #[.int .i64 y0, .int .i64 y1, .int .i64 y2, .int .i64 y3, .int .i64 y4, .int .i64 y5, .int .i64 y6, .bool y7] 33) (.cells #[.int .i64 v0, .int .i64 v1, .int .i64 v2, .int .i64 v3, .int .i64 v4, .int .i64 v5, .int .i64 v6, .bool v7] 27) (.cells #[.int .i64 v0, .int .i64 v1, .int .i64 v2, .int .i64 v3, .int .i64 v4, .int .i64 v5, .int .i64 v6, .bool v7] 33) (w5.alloc (.cells #[.int .i64 v0, .int .i64 v1, .int .i64 v2, .int .i64 v3, .int .i64 v4, .int .i64 v5, .int .i64 v6, .bool v7] 33)) from ⟨kp_row hk2 T4.out.2.1, kp_row hk2 T4.out.2.2.1, kp_row hk2 T4.out.2.2.2.1, kp_row hk2 T4.out.2.2.2.2, kp_row hk2 B4.out, (MapKept.heap_alloc w5 (.cells #[.int .i64 v0, .int .i64 v1, .int .i64 v2, .int .i64 v3, .int .i64 v4, .int .i64 v5, .int .i64 v6, .bool v7] 33)).1⟩); clear hk hk2))
  refine wp_region_held_drew (S := fun w' => Kp w w' ∧ SxB w.heap.size w1.heap.size w2.heap.size w3.heap.size w4.heap.size w5.heap.size (.cells #[.int .i64 p, .int .i64 e, .int .i64 s, .int .i64 h] 23) (.cells #[.int .i64 p, .int .i64 e, .int .i64 s, .int .i64 h] 25) (.cells #[.int .i64 y0, .int .i64 y1, .int .i64 y2, .int .i64 y3, .int .i64 y4, .int .i64 y5, .int .i64 y6, .bool y7] 27) (.cells #[.int .i64 y0, .int .i64 y1, .int .i64 y2, .int .i64 y3, .int .i64 y4, .int .i64 y5, .int .i64 y6, .bool y7] 33) (.cells #[.int .i64 v0, .int .i64 v1, .int .i64 v2, .int .i64 v3, .int .i64 v4, .int .i64 v5, .int .i64 v6, .bool v7] 27) (.cells #[.int .i64 v0, .int .i64 v1, .int .i64 v2, .int .i64 v3, .int .i64 v4, .int .i64 v5, .int .i64 v6, .bool v7] 33) w') (by kernel_rfl) ?_ (fun hHeld => ?_)
  · exact ⟨kp_drewM KB.out.1, SB.out.kp (kp_drewM (Kp.refl _))⟩
  refine wpAnyH_take (i := 0) (v := ?_) rfl (by kernel_rfl) (by kernel_rfl) (by kernel_rfl) (fun _ _ _ h => h) (Or.inl ⟨by rfl, ?_⟩) (by assumption) ?_
  rotate_left
  · intro w hSw; obtain ⟨q0', q1', q2', q3', q4', q5', q6', q7'⟩ := cells_8 hSw.2.h2; go_simp; try with_reducible rfl
  go_simp
  refine wpAnyH_take (i := 1) (v := ?_) rfl (by kernel_rfl) (by kernel_rfl) (by kernel_rfl) (fun _ _ _ h => h) (Or.inl ⟨by rfl, ?_⟩) (by assumption) ?_
  rotate_left
  · intro w hSw; obtain ⟨q0', q1', q2', q3', q4', q5', q6', q7'⟩ := cells_8 hSw.2.h3; go_simp; try with_reducible rfl
  go_simp
  refine wpAnyH_ready (rs := [2]) (by kernel_rfl) (by simp) ?_
  refine AllReadyH.cons rfl (fun K hK => ?_) AllReadyH.nil
  go_simp
  go_wp2_with (go_at_call 14; (with_reducible refine (HSY.out _).mono ?_); rintro e' wN ⟨rfl, hk⟩; have S2 := Lib.hid (And.intro (Kp.trans hHeld.1 hk) (hHeld.2.kp hk)); clear hk)
  refine hK.out _ _ ?_ (fun hHeld => ?_)
  · exact S2.out
  clear hK K
  refine wpAnyH_take (i := 3) (v := ?_) rfl (by kernel_rfl) (by kernel_rfl) (by kernel_rfl) (fun _ _ _ h => h) (Or.inl ⟨by rfl, ?_⟩) (by assumption) ?_
  rotate_left
  · intro w hSw; go_simp; try with_reducible rfl
  go_simp
  refine wpAnyH_take (i := 4) (v := ?_) rfl (by kernel_rfl) (by kernel_rfl) (by kernel_rfl) (fun _ _ _ h => h) (Or.inl ⟨by rfl, ?_⟩) (by assumption) ?_
  rotate_left
  · intro w hSw; go_simp; try with_reducible rfl
  go_simp
  refine wpAnyH_take (i := 5) (v := ?_) rfl (by kernel_rfl) (by kernel_rfl) (by kernel_rfl) (fun _ _ _ h => h) (Or.inl ⟨by rfl, ?_⟩) (by assumption) ?_
  rotate_left
  · intro w hSw; go_simp; try with_reducible rfl
  go_simp
  refine wpAnyH_take (i := 7) (v := ?_) rfl (by kernel_rfl) (by kernel_rfl) (by kernel_rfl) (fun _ _ _ h => h) (Or.inl ⟨by rfl, ?_⟩) (by assumption) ?_
  rotate_left
  · intro w hSw; go_simp; try with_reducible rfl
  go_simp
  refine wpAnyH_ready (rs := [6]) (by kernel_rfl) (by simp) ?_
  refine AllReadyH.cons rfl (fun K hK => ?_) AllReadyH.nil
  go_simp
  go_wp2_with (go_at_call 15; (with_reducible refine (HN1.out _ hHeld.1).mono ?_); rintro e' wN ⟨rfl, hk⟩; have S2 := Lib.hid (And.intro (Kp.trans hHeld.1 hk) (hHeld.2.kp hk)); clear hk)
  refine hK.out _ _ ?_ (fun hHeld => ?_)
  · exact S2.out
  clear hK K
  refine wpAnyH_take (i := 8) (v := ?_) rfl (by kernel_rfl) (by kernel_rfl) (by kernel_rfl) (fun _ _ _ h => h) (Or.inl ⟨by rfl, ?_⟩) (by assumption) ?_
  rotate_left
  · intro w hSw; go_simp; try with_reducible rfl
  go_simp
  refine wpAnyH_take (i := 9) (v := ?_) rfl (by kernel_rfl) (by kernel_rfl) (by kernel_rfl) (fun _ _ _ h => h) (Or.inl ⟨by rfl, ?_⟩) (by assumption) ?_
  rotate_left
  · intro w hSw; go_simp; try with_reducible rfl
  go_simp
  refine wpAnyH_take (i := 10) (v := ?_) rfl (by kernel_rfl) (by kernel_rfl) (by kernel_rfl) (fun _ _ _ h => h) (Or.inl ⟨by rfl, ?_⟩) (by assumption) ?_
  rotate_left
  · intro w hSw; go_simp; try with_reducible rfl
  go_simp
  refine wpAnyH_take (i := 11) (v := ?_) rfl (by kernel_rfl) (by kernel_rfl) (by kernel_rfl) (fun _ _ _ h => h) (Or.inl ⟨by rfl, ?_⟩) (by assumption) ?_
  rotate_left
  · intro w hSw; obtain ⟨q0', q1', q2', q3', q4', q5', q6', q7'⟩ := cells_8 hSw.2.h4; go_simp; try with_reducible rfl
  go_simp
  refine wpAnyH_take (i := 12) (v := ?_) rfl (by kernel_rfl) (by kernel_rfl) (by kernel_rfl) (fun _ _ _ h => h) (Or.inl ⟨by rfl, ?_⟩) (by assumption) ?_
  rotate_left
  · intro w hSw; obtain ⟨q0', q1', q2', q3', q4', q5', q6', q7'⟩ := cells_8 hSw.2.h5; go_simp; try with_reducible rfl
  go_simp
  refine wpAnyH_ready (rs := [13]) (by kernel_rfl) (by simp) ?_
  refine AllReadyH.cons rfl (fun K hK => ?_) AllReadyH.nil
  go_simp
  go_wp2_with (go_at_call 14; (with_reducible refine (HSV.out _).mono ?_); rintro e' wN ⟨rfl, hk⟩; have S2 := Lib.hid (And.intro (Kp.trans hHeld.1 hk) (hHeld.2.kp hk)); clear hk)
  refine hK.out _ _ ?_ (fun hHeld => ?_)
  · exact S2.out
  clear hK K
  refine wpAnyH_take (i := 14) (v := ?_) rfl (by kernel_rfl) (by kernel_rfl) (by kernel_rfl) (fun _ _ _ h => h) (Or.inl ⟨by rfl, ?_⟩) (by assumption) ?_
  rotate_left
  · intro w hSw; go_simp; try with_reducible rfl
  go_simp
  refine wpAnyH_take (i := 15) (v := ?_) rfl (by kernel_rfl) (by kernel_rfl) (by kernel_rfl) (fun _ _ _ h => h) (Or.inl ⟨by rfl, ?_⟩) (by assumption) ?_
  rotate_left
  · intro w hSw; go_simp; try with_reducible rfl
  go_simp
  refine wpAnyH_take (i := 16) (v := ?_) rfl (by kernel_rfl) (by kernel_rfl) (by kernel_rfl) (fun _ _ _ h => h) (Or.inl ⟨by rfl, ?_⟩) (by assumption) ?_
  rotate_left
  · intro w hSw; go_simp; try with_reducible rfl
  go_simp
  refine wpAnyH_take (i := 17) (v := ?_) rfl (by kernel_rfl) (by kernel_rfl) (by kernel_rfl) (fun _ _ _ h => h) (Or.inl ⟨by rfl, ?_⟩) (by assumption) ?_
  rotate_left
  · intro w hSw; go_simp; try with_reducible rfl
  go_simp
  refine wpAnyH_take (i := 19) (v := ?_) rfl (by kernel_rfl) (by kernel_rfl) (by kernel_rfl) (fun _ _ _ h => h) (Or.inl ⟨by rfl, ?_⟩) (by assumption) ?_
  rotate_left
  · intro w hSw; go_simp; try with_reducible rfl
  go_simp
  refine wpAnyH_ready (rs := [18]) (by kernel_rfl) (by simp) ?_
  refine AllReadyH.cons rfl (fun K hK => ?_) AllReadyH.nil
  go_simp
  go_wp2_with (go_at_call 15; (with_reducible refine (HN2.out _ hHeld.1).mono ?_); rintro e' wN ⟨rfl, hk⟩; have S2 := Lib.hid (And.intro (Kp.trans hHeld.1 hk) (hHeld.2.kp hk)); clear hk)
  refine hK.out _ _ ?_ (fun hHeld => ?_)
  · exact S2.out
  clear hK K
  refine wpAnyH_take (i := 20) (v := ?_) rfl (by kernel_rfl) (by kernel_rfl) (by kernel_rfl) (fun _ _ _ h => h) (Or.inl ⟨by rfl, ?_⟩) (by assumption) ?_
  rotate_left
  · intro w hSw; go_simp; try with_reducible rfl
  go_simp
  refine wpAnyH_take (i := 21) (v := ?_) rfl (by kernel_rfl) (by kernel_rfl) (by kernel_rfl) (fun _ _ _ h => h) (Or.inl ⟨by rfl, ?_⟩) (by assumption) ?_
  rotate_left
  · intro w hSw; go_simp; try with_reducible rfl
  go_simp
  refine wpAnyH_take (i := 22) (v := ?_) rfl (by kernel_rfl) (by kernel_rfl) (by kernel_rfl) (fun _ _ _ h => h) (Or.inl ⟨by rfl, ?_⟩) (by assumption) ?_
  rotate_left
  · intro w hSw; go_simp; try with_reducible rfl
  go_simp
  refine wpAnyH_take (i := 23) (v := ?_) rfl (by kernel_rfl) (by kernel_rfl) (by kernel_rfl) (fun _ _ _ h => h) (Or.inl ⟨by rfl, ?_⟩) (by assumption) ?_
  rotate_left
  · intro w hSw; obtain ⟨q0', q1', q2', q3'⟩ := cells_4 hSw.2.h0; go_simp; try with_reducible rfl
  go_simp
  refine wpAnyH_take (i := 25) (v := ?_) rfl (by kernel_rfl) (by kernel_rfl) (by kernel_rfl) (fun _ _ _ h => h) (Or.inl ⟨by rfl, ?_⟩) (by assumption) ?_
  rotate_left
  · intro w hSw; obtain ⟨q0', q1', q2', q3'⟩ := cells_4 hSw.2.h1; go_simp; try with_reducible rfl
  go_simp
  refine wpAnyH_ready (rs := [24]) (by kernel_rfl) (by simp) ?_
  refine AllReadyH.cons rfl (fun K hK => ?_) AllReadyH.nil
  go_simp
  go_wp2_with (go_at_call 16; (with_reducible refine (HR.out _ hHeld.1).mono ?_); rintro e' wN ⟨rfl, hk⟩; have S2 := Lib.hid (And.intro (Kp.trans hHeld.1 hk) (hHeld.2.kp hk)); clear hk)
  refine hK.out _ _ ?_ (fun hHeld => ?_)
  · exact S2.out
  clear hK K
  refine wpAnyH_ready (rs := [26]) (by kernel_rfl) (by simp) ?_
  refine AllReadyH.cons rfl (fun K hK => ?_) AllReadyH.nil
  go_simp
  go_wp2_with (go_at_call 17; (with_reducible refine (HRR.out _).mono ?_); rintro e' wN ⟨rfl, hk⟩; have S2 := Lib.hid (And.intro (Kp.trans hHeld.1 hk) (hHeld.2.kp hk)); clear hk)
  refine hK.out _ _ ?_ (fun hHeld => ?_)
  · exact S2.out
  clear hK K
  refine wpAnyH_take (i := 27) (v := ?_) rfl (by kernel_rfl) (by kernel_rfl) (by kernel_rfl) (fun _ _ _ h => h) (Or.inl ⟨by rfl, ?_⟩) (by assumption) ?_
  rotate_left
  · intro w hSw; go_simp; try with_reducible rfl
  go_simp
  refine wpAnyH_take (i := 28) (v := ?_) rfl (by kernel_rfl) (by kernel_rfl) (by kernel_rfl) (fun _ _ _ h => h) (Or.inl ⟨by rfl, ?_⟩) (by assumption) ?_
  rotate_left
  · intro w hSw; go_simp; try with_reducible rfl
  go_simp
  refine wpAnyH_done (by kernel_rfl) ?_ _
  obtain ⟨X, hX⟩ : ∃ X : World, X = wN := ⟨_, rfl⟩
  have SX2 := Lib.hid hHeld
  clear hX
  obtain ⟨u0, u1, u2, u3⟩ := cells_4 SX2.out.2.h0
  obtain ⟨x0, x1, x2, x3⟩ := cells_4 SX2.out.2.h1
  go_wp2_with (go_at_call 17; (with_reducible refine (HRR.out _).mono ?_); rintro e' w7 ⟨rfl, hk⟩; have SX3 := Lib.hid (And.intro (Kp.trans SX2.out.1 hk) (SX2.out.2.kp hk)); clear hk)
  refine wp_region_held_drew (S := fun w' => Kp w w' ∧ SxB w.heap.size w1.heap.size w2.heap.size w3.heap.size w4.heap.size w5.heap.size (.cells #[.int .i64 p, .int .i64 e, .int .i64 s, .int .i64 h] 23) (.cells #[.int .i64 p, .int .i64 e, .int .i64 s, .int .i64 h] 25) (.cells #[.int .i64 y0, .int .i64 y1, .int .i64 y2, .int .i64 y3, .int .i64 y4, .int .i64 y5, .int .i64 y6, .bool y7] 27) (.cells #[.int .i64 y0, .int .i64 y1, .int .i64 y2, .int .i64 y3, .int .i64 y4, .int .i64 y5, .int .i64 y6, .bool y7] 33) (.cells #[.int .i64 v0, .int .i64 v1, .int .i64 v2, .int .i64 v3, .int .i64 v4, .int .i64 v5, .int .i64 v6, .bool v7] 27) (.cells #[.int .i64 v0, .int .i64 v1, .int .i64 v2, .int .i64 v3, .int .i64 v4, .int .i64 v5, .int .i64 v6, .bool v7] 33) w') (by kernel_rfl) ?_ (fun hHeld => ?_)
  · exact ⟨kp_drewM SX3.out.1, SX3.out.2.kp (kp_drewM (Kp.refl _))⟩
  refine wpAnyH_take (i := 0) (v := ?_) rfl (by kernel_rfl) (by kernel_rfl) (by kernel_rfl) (fun _ _ _ h => h) (Or.inl ⟨by rfl, ?_⟩) (by assumption) ?_
  rotate_left
  · intro w hSw; obtain ⟨q0', q1', q2', q3'⟩ := cells_4 hSw.2.h0; go_simp; try with_reducible rfl
  go_simp
  refine wpAnyH_take (i := 2) (v := ?_) rfl (by kernel_rfl) (by kernel_rfl) (by kernel_rfl) (fun _ _ _ h => h) (Or.inl ⟨by rfl, ?_⟩) (by assumption) ?_
  rotate_left
  · intro w hSw; obtain ⟨q0', q1', q2', q3'⟩ := cells_4 hSw.2.h1; go_simp; try with_reducible rfl
  go_simp
  refine wpAnyH_ready (rs := [1]) (by kernel_rfl) (by simp) ?_
  refine AllReadyH.cons rfl (fun K hK => ?_) AllReadyH.nil
  go_simp
  go_wp2_with (go_at_call 18; (with_reducible refine (HWK.out _ hHeld.1).mono ?_); rintro e' wN ⟨rfl, hk⟩; have S2 := Lib.hid (And.intro (Kp.trans hHeld.1 hk) (hHeld.2.kp hk)); clear hk)
  refine hK.out _ _ ?_ (fun hHeld => ?_)
  · exact S2.out
  clear hK K
  refine wpAnyH_ready (rs := [3]) (by kernel_rfl) (by simp) ?_
  refine AllReadyH.cons rfl (fun K hK => ?_) AllReadyH.nil
  go_simp
  go_wp2_with (go_at_call 20; (with_reducible refine (HRW.out _).mono ?_); rintro e' wN ⟨rfl, hk⟩; have S2 := Lib.hid (And.intro (Kp.trans hHeld.1 hk) (hHeld.2.kp hk)); clear hk)
  refine hK.out _ _ ?_ (fun hHeld => ?_)
  · exact S2.out
  clear hK K
  refine wpAnyH_take (i := 4) (v := ?_) rfl (by kernel_rfl) (by kernel_rfl) (by kernel_rfl) (fun _ _ _ h => h) (Or.inl ⟨by rfl, ?_⟩) (by assumption) ?_
  rotate_left
  · intro w hSw; go_simp; try with_reducible rfl
  go_simp
  refine wpAnyH_take (i := 5) (v := ?_) rfl (by kernel_rfl) (by kernel_rfl) (by kernel_rfl) (fun _ _ _ h => h) (Or.inl ⟨by rfl, ?_⟩) (by assumption) ?_
  rotate_left
  · intro w hSw; go_simp; try with_reducible rfl
  go_simp
  refine wpAnyH_done (by kernel_rfl) ?_ _
  go_wp2
  go_ret
  exact ⟨by first | rfl | (simp; done), hHeld.1⟩
set_option maxRecDepth 100000 in
set_option maxHeartbeats 2000000 in
theorem seats_false {ads : List Addr} {J : Nat → PairM → (Nat → Prop) → World → Prop} (p e s h k : Int) (hz : SeatM.ok ⟨p, e, s, h⟩) (ik : i64M k) (hr : SeatM.right ⟨p, e, s, h⟩ = false) (n1 n2 : Int) (y0 y1 y2 y3 y4 y5 y6 : Int) (y7 : Bool) (v0 v1 v2 v3 v4 v5 v6 : Int) (v7 : Bool) (hy : SeatM.tell ⟨p, e, s, h⟩ k = (n1, ⟨⟨y0, y1, y2, y3⟩, y4, y5, y6, y7⟩)) (hv : SeatM.act ⟨p, e, s, h⟩ k = (n2, ⟨⟨v0, v1, v2, v3⟩, v4, v5, v6, v7⟩)) (w : World) (V : St ads w) (C : MovC ads w J) :
    Calls Tryd.prog 3 #[.agg #[.int .i64 p, .int .i64 e, .int .i64 s, .int .i64 h], .int .i64 k] w fun r w' => r = .returned (.bool true) ∧ Kp w w' := by
  have ht := fun w1 (hk : Kp w w1) => C.tell w1 hk ⟨p, e, s, h⟩ k hz ik
  have ha := fun w1 (hk : Kp w w1) => C.act w1 hk ⟨p, e, s, h⟩ k hz ik
  have hrt := fun w1 => refTell_any ⟨p, e, s, h⟩ k w1
  have hra := fun w1 => refAct_any ⟨p, e, s, h⟩ k w1
  have hR := fun w1 (hk : Kp w w1) => C.right w1 hk ⟨p, e, s, h⟩ hz
  have hRR := fun w1 => refRight_any ⟨p, e, s, h⟩ w1
  have hW := fun w1 (hk : Kp w w1) => C.work w1 hk ⟨p, e, s, h⟩ hz
  have hWt := fun w1 (hk : Kp w w1) => C.waits w1 hk ⟨p, e, s, h⟩ hz
  have hRW := fun w1 => refWork_any ⟨p, e, s, h⟩ w1
  have m1 := tell_num ⟨p, e, s, h⟩ k
  have m2 := act_num ⟨p, e, s, h⟩ k
  rw [hy] at ht hrt m1
  rw [hv] at ha hra m2
  rw [hr] at hR hRR hW hWt
  dsimp only [seatV, effV] at ht ha hrt hra hR hRR hW hWt hRW m1 m2
  have hn1 := fun w1 (hk : Kp w w1) => num_errN ads w1 (V.below hk) n1 m1.1 m1.2
  have hn2 := fun w1 (hk : Kp w w1) => num_errN ads w1 (V.below hk) n2 m2.1 m2.2
  obtain ⟨d1, hd1⟩ : ∃ d, errI ads n1 = d := ⟨_, rfl⟩
  obtain ⟨d2, hd2⟩ : ∃ d, errI ads n2 = d := ⟨_, rfl⟩
  rw [hd1] at ht hn1
  rw [hd2] at ha hn2
  obtain ⟨wk, hwk⟩ : ∃ x, SeatM.work ⟨p, e, s, h⟩ = x := ⟨_, rfl⟩
  obtain ⟨wt, hwt⟩ : ∃ x, SeatM.waits ⟨p, e, s, h⟩ = x := ⟨_, rfl⟩
  rw [hwk] at hW hRW
  rw [hwt] at hWt
  rw [if_neg (by decide)] at hW hWt
  have HT := Lib.hid ht
  have HA := Lib.hid ha
  have HRT := Lib.hid hrt
  have HRA := Lib.hid hra
  have HR := Lib.hid hR
  have HRR := Lib.hid hRR
  have HWK := Lib.hid hW
  have HWT := Lib.hid hWt
  have HRW := Lib.hid hRW
  have HN1 := Lib.hid hn1
  have HN2 := Lib.hid hn2
  have HSY := Lib.hid (fun w => same_t y0 y1 y2 y3 y4 y5 y6 y7 w)
  have HSV := Lib.hid (fun w => same_t v0 v1 v2 v3 v4 v5 v6 v7 w)
  have HAL := Lib.hid (fun w1 hk => alive11_any C w1 hk)
  have K0 := Lib.hid (kp_alloc w (.cells #[.int .i64 p, .int .i64 e, .int .i64 s, .int .i64 h] 23))
  have R0 := Lib.hid (MapKept.heap_alloc w (.cells #[.int .i64 p, .int .i64 e, .int .i64 s, .int .i64 h] 23)).1
  clear ht ha hrt hra hR hRR hW hWt hRW hn1 hn2 hd1 hd2 hwk hwt hy hv hr m1 m2 V C hz ik
  go_enter Tryd.func3, Tryd.ntmps3
  go_wp2_with (first
    | (go_at_call 9; (with_reducible refine (HAL.out _ K0.out).mono ?_); rintro e' w1 ⟨rfl, hk⟩; have K1 := Lib.hid (Kp.trans K0.out hk); have a0 := kp_row hk R0.out; have hk1 := kp_alloc w1 (.cells #[.int .i64 p, .int .i64 e, .int .i64 s, .int .i64 h] 25); have T1 := Lib.hid (And.intro (Kp.trans K1.out hk1) (kp_row hk1 a0)); have B1 := Lib.hid (MapKept.heap_alloc w1 (.cells #[.int .i64 p, .int .i64 e, .int .i64 s, .int .i64 h] 25)).1; obtain ⟨i0, i1, i2, i3⟩ := cells_4 a0; obtain ⟨j0, j1, j2, j3⟩ := cells_4 T1.out.2; clear hk a0 hk1)
    | (go_at_call 10; (with_reducible refine (HT.out _ T1.out.1).mono ?_); rintro e' w2 ⟨rfl, hk⟩; have hk2 := Kp.trans hk (kp_alloc w2 (.cells #[.int .i64 y0, .int .i64 y1, .int .i64 y2, .int .i64 y3, .int .i64 y4, .int .i64 y5, .int .i64 y6, .bool y7] 27)); have T2 := Lib.hid (And.intro (Kp.trans T1.out.1 hk2) (And.intro (kp_row hk2 T1.out.2) (kp_row hk2 B1.out))); have B2 := Lib.hid (MapKept.heap_alloc w2 (.cells #[.int .i64 y0, .int .i64 y1, .int .i64 y2, .int .i64 y3, .int .i64 y4, .int .i64 y5, .int .i64 y6, .bool y7] 27)).1; obtain ⟨l0, l1, l2, l3⟩ := cells_4 T2.out.2.1; obtain ⟨r0, r1, r2, r3⟩ := cells_4 T2.out.2.2; clear hk hk2)
    | (go_at_call 11; (with_reducible refine (HRT.out _).mono ?_); rintro e' w3 ⟨rfl, hk⟩; have hk2 := Kp.trans hk (kp_alloc w3 (.cells #[.int .i64 y0, .int .i64 y1, .int .i64 y2, .int .i64 y3, .int .i64 y4, .int .i64 y5, .int .i64 y6, .bool y7] 33)); have T3 := Lib.hid (And.intro (Kp.trans T2.out.1 hk2) (And.intro (kp_row hk2 T2.out.2.1) (And.intro (kp_row hk2 T2.out.2.2) (kp_row hk2 B2.out)))); have B3 := Lib.hid (MapKept.heap_alloc w3 (.cells #[.int .i64 y0, .int .i64 y1, .int .i64 y2, .int .i64 y3, .int .i64 y4, .int .i64 y5, .int .i64 y6, .bool y7] 33)).1; obtain ⟨n0, n1, n2, n3⟩ := cells_4 T3.out.2.1; obtain ⟨o0, o1, o2, o3⟩ := cells_4 T3.out.2.2.1; clear hk hk2)
    | (go_at_call 12; (with_reducible refine (HA.out _ T3.out.1).mono ?_); rintro e' w4 ⟨rfl, hk⟩; have hk2 := Kp.trans hk (kp_alloc w4 (.cells #[.int .i64 v0, .int .i64 v1, .int .i64 v2, .int .i64 v3, .int .i64 v4, .int .i64 v5, .int .i64 v6, .bool v7] 27)); have T4 := Lib.hid (And.intro (Kp.trans T3.out.1 hk2) (And.intro (kp_row hk2 T3.out.2.1) (And.intro (kp_row hk2 T3.out.2.2.1) (And.intro (kp_row hk2 T3.out.2.2.2) (kp_row hk2 B3.out))))); have B4 := Lib.hid (MapKept.heap_alloc w4 (.cells #[.int .i64 v0, .int .i64 v1, .int .i64 v2, .int .i64 v3, .int .i64 v4, .int .i64 v5, .int .i64 v6, .bool v7] 27)).1; obtain ⟨s0, s1, s2, s3⟩ := cells_4 T4.out.2.1; obtain ⟨t0, t1, t2, t3⟩ := cells_4 T4.out.2.2.1; clear hk hk2)
    | (go_at_call 13; (with_reducible refine (HRA.out _).mono ?_); rintro e' w5 ⟨rfl, hk⟩; have hk2 := Kp.trans hk (kp_alloc w5 (.cells #[.int .i64 v0, .int .i64 v1, .int .i64 v2, .int .i64 v3, .int .i64 v4, .int .i64 v5, .int .i64 v6, .bool v7] 33)); have KB := Lib.hid (And.intro (Kp.trans T4.out.1 hk2) True.intro); have SB := Lib.hid (show SxB w.heap.size w1.heap.size w2.heap.size w3.heap.size w4.heap.size w5.heap.size (.cells #[.int .i64 p, .int .i64 e, .int .i64 s, .int .i64 h] 23) (.cells #[.int .i64 p, .int .i64 e, .int .i64 s, .int .i64 h] 25) (.cells #[.int .i64 y0, .int .i64 y1, .int .i64 y2, .int .i64 y3, .int .i64 y4, .int .i64 y5, .int .i64 y6, .bool y7] 27) (.cells #[.int .i64 y0, .int .i64 y1, .int .i64 y2, .int .i64 y3, .int .i64 y4, .int .i64 y5, .int .i64 y6, .bool y7] 33) (.cells #[.int .i64 v0, .int .i64 v1, .int .i64 v2, .int .i64 v3, .int .i64 v4, .int .i64 v5, .int .i64 v6, .bool v7] 27) (.cells #[.int .i64 v0, .int .i64 v1, .int .i64 v2, .int .i64 v3, .int .i64 v4, .int .i64 v5, .int .i64 v6, .bool v7] 33) (w5.alloc (.cells #[.int .i64 v0, .int .i64 v1, .int .i64 v2, .int .i64 v3, .int .i64 v4, .int .i64 v5, .int .i64 v6, .bool v7] 33)) from ⟨kp_row hk2 T4.out.2.1, kp_row hk2 T4.out.2.2.1, kp_row hk2 T4.out.2.2.2.1, kp_row hk2 T4.out.2.2.2.2, kp_row hk2 B4.out, (MapKept.heap_alloc w5 (.cells #[.int .i64 v0, .int .i64 v1, .int .i64 v2, .int .i64 v3, .int .i64 v4, .int .i64 v5, .int .i64 v6, .bool v7] 33)).1⟩); clear hk hk2))
  refine wp_region_held_drew (S := fun w' => Kp w w' ∧ SxB w.heap.size w1.heap.size w2.heap.size w3.heap.size w4.heap.size w5.heap.size (.cells #[.int .i64 p, .int .i64 e, .int .i64 s, .int .i64 h] 23) (.cells #[.int .i64 p, .int .i64 e, .int .i64 s, .int .i64 h] 25) (.cells #[.int .i64 y0, .int .i64 y1, .int .i64 y2, .int .i64 y3, .int .i64 y4, .int .i64 y5, .int .i64 y6, .bool y7] 27) (.cells #[.int .i64 y0, .int .i64 y1, .int .i64 y2, .int .i64 y3, .int .i64 y4, .int .i64 y5, .int .i64 y6, .bool y7] 33) (.cells #[.int .i64 v0, .int .i64 v1, .int .i64 v2, .int .i64 v3, .int .i64 v4, .int .i64 v5, .int .i64 v6, .bool v7] 27) (.cells #[.int .i64 v0, .int .i64 v1, .int .i64 v2, .int .i64 v3, .int .i64 v4, .int .i64 v5, .int .i64 v6, .bool v7] 33) w') (by kernel_rfl) ?_ (fun hHeld => ?_)
  · exact ⟨kp_drewM KB.out.1, SB.out.kp (kp_drewM (Kp.refl _))⟩
  refine wpAnyH_take (i := 0) (v := ?_) rfl (by kernel_rfl) (by kernel_rfl) (by kernel_rfl) (fun _ _ _ h => h) (Or.inl ⟨by rfl, ?_⟩) (by assumption) ?_
  rotate_left
  · intro w hSw; obtain ⟨q0', q1', q2', q3', q4', q5', q6', q7'⟩ := cells_8 hSw.2.h2; go_simp; try with_reducible rfl
  go_simp
  refine wpAnyH_take (i := 1) (v := ?_) rfl (by kernel_rfl) (by kernel_rfl) (by kernel_rfl) (fun _ _ _ h => h) (Or.inl ⟨by rfl, ?_⟩) (by assumption) ?_
  rotate_left
  · intro w hSw; obtain ⟨q0', q1', q2', q3', q4', q5', q6', q7'⟩ := cells_8 hSw.2.h3; go_simp; try with_reducible rfl
  go_simp
  refine wpAnyH_ready (rs := [2]) (by kernel_rfl) (by simp) ?_
  refine AllReadyH.cons rfl (fun K hK => ?_) AllReadyH.nil
  go_simp
  go_wp2_with (go_at_call 14; (with_reducible refine (HSY.out _).mono ?_); rintro e' wN ⟨rfl, hk⟩; have S2 := Lib.hid (And.intro (Kp.trans hHeld.1 hk) (hHeld.2.kp hk)); clear hk)
  refine hK.out _ _ ?_ (fun hHeld => ?_)
  · exact S2.out
  clear hK K
  refine wpAnyH_take (i := 3) (v := ?_) rfl (by kernel_rfl) (by kernel_rfl) (by kernel_rfl) (fun _ _ _ h => h) (Or.inl ⟨by rfl, ?_⟩) (by assumption) ?_
  rotate_left
  · intro w hSw; go_simp; try with_reducible rfl
  go_simp
  refine wpAnyH_take (i := 4) (v := ?_) rfl (by kernel_rfl) (by kernel_rfl) (by kernel_rfl) (fun _ _ _ h => h) (Or.inl ⟨by rfl, ?_⟩) (by assumption) ?_
  rotate_left
  · intro w hSw; go_simp; try with_reducible rfl
  go_simp
  refine wpAnyH_take (i := 5) (v := ?_) rfl (by kernel_rfl) (by kernel_rfl) (by kernel_rfl) (fun _ _ _ h => h) (Or.inl ⟨by rfl, ?_⟩) (by assumption) ?_
  rotate_left
  · intro w hSw; go_simp; try with_reducible rfl
  go_simp
  refine wpAnyH_take (i := 7) (v := ?_) rfl (by kernel_rfl) (by kernel_rfl) (by kernel_rfl) (fun _ _ _ h => h) (Or.inl ⟨by rfl, ?_⟩) (by assumption) ?_
  rotate_left
  · intro w hSw; go_simp; try with_reducible rfl
  go_simp
  refine wpAnyH_ready (rs := [6]) (by kernel_rfl) (by simp) ?_
  refine AllReadyH.cons rfl (fun K hK => ?_) AllReadyH.nil
  go_simp
  go_wp2_with (go_at_call 15; (with_reducible refine (HN1.out _ hHeld.1).mono ?_); rintro e' wN ⟨rfl, hk⟩; have S2 := Lib.hid (And.intro (Kp.trans hHeld.1 hk) (hHeld.2.kp hk)); clear hk)
  refine hK.out _ _ ?_ (fun hHeld => ?_)
  · exact S2.out
  clear hK K
  refine wpAnyH_take (i := 8) (v := ?_) rfl (by kernel_rfl) (by kernel_rfl) (by kernel_rfl) (fun _ _ _ h => h) (Or.inl ⟨by rfl, ?_⟩) (by assumption) ?_
  rotate_left
  · intro w hSw; go_simp; try with_reducible rfl
  go_simp
  refine wpAnyH_take (i := 9) (v := ?_) rfl (by kernel_rfl) (by kernel_rfl) (by kernel_rfl) (fun _ _ _ h => h) (Or.inl ⟨by rfl, ?_⟩) (by assumption) ?_
  rotate_left
  · intro w hSw; go_simp; try with_reducible rfl
  go_simp
  refine wpAnyH_take (i := 10) (v := ?_) rfl (by kernel_rfl) (by kernel_rfl) (by kernel_rfl) (fun _ _ _ h => h) (Or.inl ⟨by rfl, ?_⟩) (by assumption) ?_
  rotate_left
  · intro w hSw; go_simp; try with_reducible rfl
  go_simp
  refine wpAnyH_take (i := 11) (v := ?_) rfl (by kernel_rfl) (by kernel_rfl) (by kernel_rfl) (fun _ _ _ h => h) (Or.inl ⟨by rfl, ?_⟩) (by assumption) ?_
  rotate_left
  · intro w hSw; obtain ⟨q0', q1', q2', q3', q4', q5', q6', q7'⟩ := cells_8 hSw.2.h4; go_simp; try with_reducible rfl
  go_simp
  refine wpAnyH_take (i := 12) (v := ?_) rfl (by kernel_rfl) (by kernel_rfl) (by kernel_rfl) (fun _ _ _ h => h) (Or.inl ⟨by rfl, ?_⟩) (by assumption) ?_
  rotate_left
  · intro w hSw; obtain ⟨q0', q1', q2', q3', q4', q5', q6', q7'⟩ := cells_8 hSw.2.h5; go_simp; try with_reducible rfl
  go_simp
  refine wpAnyH_ready (rs := [13]) (by kernel_rfl) (by simp) ?_
  refine AllReadyH.cons rfl (fun K hK => ?_) AllReadyH.nil
  go_simp
  go_wp2_with (go_at_call 14; (with_reducible refine (HSV.out _).mono ?_); rintro e' wN ⟨rfl, hk⟩; have S2 := Lib.hid (And.intro (Kp.trans hHeld.1 hk) (hHeld.2.kp hk)); clear hk)
  refine hK.out _ _ ?_ (fun hHeld => ?_)
  · exact S2.out
  clear hK K
  refine wpAnyH_take (i := 14) (v := ?_) rfl (by kernel_rfl) (by kernel_rfl) (by kernel_rfl) (fun _ _ _ h => h) (Or.inl ⟨by rfl, ?_⟩) (by assumption) ?_
  rotate_left
  · intro w hSw; go_simp; try with_reducible rfl
  go_simp
  refine wpAnyH_take (i := 15) (v := ?_) rfl (by kernel_rfl) (by kernel_rfl) (by kernel_rfl) (fun _ _ _ h => h) (Or.inl ⟨by rfl, ?_⟩) (by assumption) ?_
  rotate_left
  · intro w hSw; go_simp; try with_reducible rfl
  go_simp
  refine wpAnyH_take (i := 16) (v := ?_) rfl (by kernel_rfl) (by kernel_rfl) (by kernel_rfl) (fun _ _ _ h => h) (Or.inl ⟨by rfl, ?_⟩) (by assumption) ?_
  rotate_left
  · intro w hSw; go_simp; try with_reducible rfl
  go_simp
  refine wpAnyH_take (i := 17) (v := ?_) rfl (by kernel_rfl) (by kernel_rfl) (by kernel_rfl) (fun _ _ _ h => h) (Or.inl ⟨by rfl, ?_⟩) (by assumption) ?_
  rotate_left
  · intro w hSw; go_simp; try with_reducible rfl
  go_simp
  refine wpAnyH_take (i := 19) (v := ?_) rfl (by kernel_rfl) (by kernel_rfl) (by kernel_rfl) (fun _ _ _ h => h) (Or.inl ⟨by rfl, ?_⟩) (by assumption) ?_
  rotate_left
  · intro w hSw; go_simp; try with_reducible rfl
  go_simp
  refine wpAnyH_ready (rs := [18]) (by kernel_rfl) (by simp) ?_
  refine AllReadyH.cons rfl (fun K hK => ?_) AllReadyH.nil
  go_simp
  go_wp2_with (go_at_call 15; (with_reducible refine (HN2.out _ hHeld.1).mono ?_); rintro e' wN ⟨rfl, hk⟩; have S2 := Lib.hid (And.intro (Kp.trans hHeld.1 hk) (hHeld.2.kp hk)); clear hk)
  refine hK.out _ _ ?_ (fun hHeld => ?_)
  · exact S2.out
  clear hK K
  refine wpAnyH_take (i := 20) (v := ?_) rfl (by kernel_rfl) (by kernel_rfl) (by kernel_rfl) (fun _ _ _ h => h) (Or.inl ⟨by rfl, ?_⟩) (by assumption) ?_
  rotate_left
  · intro w hSw; go_simp; try with_reducible rfl
  go_simp
  refine wpAnyH_take (i := 21) (v := ?_) rfl (by kernel_rfl) (by kernel_rfl) (by kernel_rfl) (fun _ _ _ h => h) (Or.inl ⟨by rfl, ?_⟩) (by assumption) ?_
  rotate_left
  · intro w hSw; go_simp; try with_reducible rfl
  go_simp
  refine wpAnyH_take (i := 22) (v := ?_) rfl (by kernel_rfl) (by kernel_rfl) (by kernel_rfl) (fun _ _ _ h => h) (Or.inl ⟨by rfl, ?_⟩) (by assumption) ?_
  rotate_left
  · intro w hSw; go_simp; try with_reducible rfl
  go_simp
  refine wpAnyH_take (i := 23) (v := ?_) rfl (by kernel_rfl) (by kernel_rfl) (by kernel_rfl) (fun _ _ _ h => h) (Or.inl ⟨by rfl, ?_⟩) (by assumption) ?_
  rotate_left
  · intro w hSw; obtain ⟨q0', q1', q2', q3'⟩ := cells_4 hSw.2.h0; go_simp; try with_reducible rfl
  go_simp
  refine wpAnyH_take (i := 25) (v := ?_) rfl (by kernel_rfl) (by kernel_rfl) (by kernel_rfl) (fun _ _ _ h => h) (Or.inl ⟨by rfl, ?_⟩) (by assumption) ?_
  rotate_left
  · intro w hSw; obtain ⟨q0', q1', q2', q3'⟩ := cells_4 hSw.2.h1; go_simp; try with_reducible rfl
  go_simp
  refine wpAnyH_ready (rs := [24]) (by kernel_rfl) (by simp) ?_
  refine AllReadyH.cons rfl (fun K hK => ?_) AllReadyH.nil
  go_simp
  go_wp2_with (go_at_call 16; (with_reducible refine (HR.out _ hHeld.1).mono ?_); rintro e' wN ⟨rfl, hk⟩; have S2 := Lib.hid (And.intro (Kp.trans hHeld.1 hk) (hHeld.2.kp hk)); clear hk)
  refine hK.out _ _ ?_ (fun hHeld => ?_)
  · exact S2.out
  clear hK K
  refine wpAnyH_ready (rs := [26]) (by kernel_rfl) (by simp) ?_
  refine AllReadyH.cons rfl (fun K hK => ?_) AllReadyH.nil
  go_simp
  go_wp2_with (go_at_call 17; (with_reducible refine (HRR.out _).mono ?_); rintro e' wN ⟨rfl, hk⟩; have S2 := Lib.hid (And.intro (Kp.trans hHeld.1 hk) (hHeld.2.kp hk)); clear hk)
  refine hK.out _ _ ?_ (fun hHeld => ?_)
  · exact S2.out
  clear hK K
  refine wpAnyH_take (i := 27) (v := ?_) rfl (by kernel_rfl) (by kernel_rfl) (by kernel_rfl) (fun _ _ _ h => h) (Or.inl ⟨by rfl, ?_⟩) (by assumption) ?_
  rotate_left
  · intro w hSw; go_simp; try with_reducible rfl
  go_simp
  refine wpAnyH_take (i := 28) (v := ?_) rfl (by kernel_rfl) (by kernel_rfl) (by kernel_rfl) (fun _ _ _ h => h) (Or.inl ⟨by rfl, ?_⟩) (by assumption) ?_
  rotate_left
  · intro w hSw; go_simp; try with_reducible rfl
  go_simp
  refine wpAnyH_done (by kernel_rfl) ?_ _
  obtain ⟨X, hX⟩ : ∃ X : World, X = wN := ⟨_, rfl⟩
  have SX2 := Lib.hid hHeld
  clear hX
  obtain ⟨u0, u1, u2, u3⟩ := cells_4 SX2.out.2.h0
  obtain ⟨x0, x1, x2, x3⟩ := cells_4 SX2.out.2.h1
  go_wp2_with (first
    | (go_at_call 17; (with_reducible refine (HRR.out _).mono ?_); rintro e' w7 ⟨rfl, hk⟩; have SX3 := Lib.hid (And.intro (Kp.trans SX2.out.1 hk) (SX2.out.2.kp hk)); obtain ⟨f0, f1, f2, f3⟩ := cells_4 SX3.out.2.h0; clear hk)
    | (go_at_call 18; (with_reducible refine (HWK.out _ SX3.out.1).mono ?_); rintro e' w8 ⟨rfl, hk⟩; have SX4 := Lib.hid (And.intro (Kp.trans SX3.out.1 hk) (SX3.out.2.kp hk)); obtain ⟨c0, c1, c2, c3⟩ := cells_4 SX4.out.2.h0; clear hk)
    | (go_at_call 19; (with_reducible refine (HWT.out _ SX4.out.1).mono ?_); rintro e' w9 ⟨rfl, hk⟩; have SX5 := Lib.hid (Kp.trans SX4.out.1 hk); clear hk))
  go_ret
  exact ⟨by first | rfl | (simp; done), SX5.out⟩
theorem seats_any {ads : List Addr} {J : Nat → PairM → (Nat → Prop) → World → Prop} (z : SeatM) (k : Int) (w : World) (hz : z.ok) (ik : i64M k) (V : St ads w) (C : MovC ads w J) :
    Calls Tryd.prog 3 #[.agg (seatV z), .int .i64 k] w fun r w' => r = .returned (.bool true) ∧ Kp w w' := by
  obtain ⟨p, e, s, h⟩ := z
  obtain ⟨⟨n1, ⟨⟨y0, y1, y2, y3⟩, y4, y5, y6, y7⟩⟩, hy⟩ : ∃ y, SeatM.tell ⟨p, e, s, h⟩ k = y := ⟨_, rfl⟩
  obtain ⟨⟨n2, ⟨⟨v0, v1, v2, v3⟩, v4, v5, v6, v7⟩⟩, hv⟩ : ∃ y, SeatM.act ⟨p, e, s, h⟩ k = y := ⟨_, rfl⟩
  cases hr : SeatM.right ⟨p, e, s, h⟩ with
  | true => exact seats_true p e s h k hz ik hr n1 n2 y0 y1 y2 y3 y4 y5 y6 y7 v0 v1 v2 v3 v4 v5 v6 v7 hy hv w V C
  | false => exact seats_false p e s h k hz ik hr n1 n2 y0 y1 y2 y3 y4 y5 y6 y7 v0 v1 v2 v3 v4 v5 v6 v7 hy hv w V C
end Go.Proofs.YtghjnhdepeiloaaDoor
