/-
  A PAIR's CALLS (own work): NewPair, Do, Again of package moves.
-/
import Derived.Test.YtghjnhdepeiloaaDoorMpB
import Derived.LoopN
namespace Go.Proofs.YtghjnhdepeiloaaDoor
open Go.RowKit Go.ChangeShapes Go.WideShapes

theorem right_ok {z : SeatM} (hr : z.right = true) : z.ok := by
  obtain ⟨h1, h2, h3⟩ := right_in hr
  have e1 : (z.p = 1 ∨ z.p = 2) ∧ (z.e = 1 ∨ z.e = 2) := by
    simp only [sidesM, List.mem_cons, List.not_mem_nil, or_false, Prod.mk.injEq] at h1
    omega
  have e2 : 1 ≤ z.s ∧ z.s ≤ 19 := by
    simp only [allT, List.mem_cons, List.not_mem_nil, or_false] at h2
    omega
  have e3 : 0 ≤ z.h ∧ z.h ≤ 8 := by
    simp only [howsM, List.mem_cons, List.not_mem_nil, or_false] at h3
    omega
  exact ⟨⟨by omega, by omega⟩, ⟨by omega, by omega⟩, ⟨by omega, by omega⟩, ⟨by omega, by omega⟩⟩
theorem pok_seat {m : PairM} (h : Pok m) {e : Int} (he : e = 1 ∨ e = 2) : (m.seat e).right = true := by
  obtain ⟨⟨p, r, hp, R⟩, _⟩ := h
  rw [seat_e R he]
  exact (closed_e hp R.mem he).1
theorem seatO_seat {m : PairM} {e : Int} (he : e = 1 ∨ e = 2) : seatO m e = m.seat e := by
  rcases he with rfl | rfl <;> rfl
set_option maxRecDepth 100000 in
theorem mpNew_no {ads : List Addr} (p : Int) (ip : i64M p) (hr : rightT p 1 = false) (w : World) (T : TabC ads w) (ce : w.cell? ⟨13, 0, none⟩ = some (errI ads 14)) : Calls Tryd.prog 21 #[.int .i64 p] w fun r w' => r = .returned (.tuple #[.pointer none, errI ads 14]) ∧ Kp w w' := by
  have k1 := kp_alloc w (.cells #[.int .i64 0, .int .i64 0, .int .i64 0, .int .i64 0, .int .i64 0, .int .i64 0, .int .i64 0, .int .i64 0, .slice none 0 0] 89)
  have hn := msNew_any p 1 ip (by decide) (w.alloc (.cells #[.int .i64 0, .int .i64 0, .int .i64 0, .int .i64 0, .int .i64 0, .int .i64 0, .int .i64 0, .int .i64 0, .slice none 0 0] 89)) (T.kp k1) (kp_cell k1 ce)
  rw [show newS p 1 = ⟨0, 0, 0, 0⟩ by simp [newS, hr], hr, if_neg (by decide)] at hn
  obtain ⟨q, hq⟩ := errI_ifaceM ads 14 (by decide)
  rw [hq] at hn ⊢
  dsimp only [seatV] at hn
  have HN := Lib.hid hn
  have K1 := Lib.hid k1
  clear hn k1 hr T ip hq ce
  go_enter Tryd.func21, Tryd.ntmps21
  go_wp2
  refine wp_loop_rounds 1 ?_
  rw [rounds_succ]
  go_wp2_with (go_at_call 31; (with_reducible refine HN.out.mono ?_); rintro e' w2 ⟨rfl, hk⟩; have K2 := Lib.hid (Kp.trans K1.out hk); clear hk)
  go_ret2
  exact ⟨rfl, Kp.trans K2.out (kp_alloc _ _)⟩
set_option maxRecDepth 100000 in
set_option maxHeartbeats 1000000 in
theorem mpNew_ok {ads : List Addr} (p : Int) (hp : p = 1 ∨ p = 2) (w : World) (T : TabC ads w) (ce : w.cell? ⟨13, 0, none⟩ = some (errI ads 14)) : Calls Tryd.prog 21 #[.int .i64 p] w fun r w' => r = .returned (.tuple #[.pointer (some ⟨w.heap.size, 0, none⟩), .nilIface]) ∧ w'.heap[w.heap.size]? = some (.cells (pairV (PairM.new p) (.slice none 0 0)) 89 (0, 0)) ∧ Kp w w' := by
  have ip : i64M p := by rcases hp with rfl | rfl <;> decide
  have h1 : rightT p 1 = true := by rcases hp with rfl | rfl <;> decide
  have h2 : rightT p 2 = true := by rcases hp with rfl | rfl <;> decide
  have hn1 := fun w1 (hk : Kp w w1) => msNew_any p 1 ip (by decide) w1 (T.kp hk) (kp_cell hk ce)
  have hn2 := fun w1 (hk : Kp w w1) => msNew_any p 2 ip (by decide) w1 (T.kp hk) (kp_cell hk ce)
  rw [show newS p 1 = ⟨p, 1, 1, 0⟩ by simp [newS, h1], h1, if_pos rfl, errI_nil] at hn1
  rw [show newS p 2 = ⟨p, 2, 1, 0⟩ by simp [newS, h2], h2, if_pos rfl, errI_nil] at hn2
  dsimp only [seatV] at hn1 hn2
  have HN1 := Lib.hid hn1
  have HN2 := Lib.hid hn2
  have K1 := Lib.hid (kp_alloc w (.cells #[.int .i64 0, .int .i64 0, .int .i64 0, .int .i64 0, .int .i64 0, .int .i64 0, .int .i64 0, .int .i64 0, .slice none 0 0] 89))
  have R1 := Lib.hid (MapKept.heap_alloc w (.cells #[.int .i64 0, .int .i64 0, .int .i64 0, .int .i64 0, .int .i64 0, .int .i64 0, .int .i64 0, .int .i64 0, .slice none 0 0] 89)).1
  clear hn1 hn2 h1 h2 ip T ce hp
  go_enter Tryd.func21, Tryd.ntmps21
  go_wp2
  refine wp_loop_rounds 3 ?_
  rw [rounds_succ]
  go_wp2_with (go_at_call 31; (with_reducible refine (HN1.out _ K1.out).mono ?_); rintro e' w2 ⟨rfl, hk⟩; have hk2 := Kp.trans hk (kp_alloc w2 (.cells #[.int .i64 p, .int .i64 1, .int .i64 1, .int .i64 0] 23)); have K2 := Lib.hid (Kp.trans K1.out hk2); have R2 := Lib.hid (kp_row hk2 R1.out); have B2 := Lib.hid (MapKept.heap_alloc w2 (.cells #[.int .i64 p, .int .i64 1, .int .i64 1, .int .i64 0] 23)).1; obtain ⟨c0, c1, c2, c3⟩ := cells_4 B2.out; obtain ⟨e0, e1, e2, e3, e4, e5, e6, e7, e8⟩ := cells_9 R2.out; have fz := frozN R2.out; clear hk hk2)
  go_region
  obtain ⟨X, hX⟩ : ∃ X, (((((w2.alloc (.cells #[.int .i64 p, .int .i64 1, .int .i64 1, .int .i64 0] 23)).setCell ⟨w.heap.size, 0, none⟩ (.int .i64 p)).setCell ⟨w.heap.size, 1, none⟩ (.int .i64 1)).setCell ⟨w.heap.size, 2, none⟩ (.int .i64 1)).setCell ⟨w.heap.size, 3, none⟩ (.int .i64 0)).drew = X := ⟨_, rfl⟩
  have RX := Lib.hid (show X.heap[w.heap.size]? = some (.cells #[.int .i64 p, .int .i64 1, .int .i64 1, .int .i64 0, .int .i64 0, .int .i64 0, .int .i64 0, .int .i64 0, .slice none 0 0] 89 (0, 0)) by
    rw [← hX, drewN_heapM]
    exact (Joins.block_setCell (Joins.block_setCell (Joins.block_setCell (Joins.block_setCell R2.out _) _) _) _).trans rfl)
  have KX := Lib.hid (show Kp w X by
    rw [← hX]
    exact kp_drewM (Below.setCell (Below.setCell (Below.setCell (Below.setCell K2.out (Nat.le_refl _) _) (Nat.le_refl _) _) (Nat.le_refl _) _) (Nat.le_refl _) _))
  rw [hX]
  clear hX e0 e1 e2 e3 e4 e5 e6 e7 e8 fz c0 c1 c2 c3 R2 B2
  go_wp2
  rw [rounds_succ]
  go_wp2_with (go_at_call 31; (with_reducible refine (HN2.out _ KX.out).mono ?_); rintro e' w3 ⟨rfl, hk⟩; have hk2 := Kp.trans hk (kp_alloc w3 (.cells #[.int .i64 p, .int .i64 2, .int .i64 1, .int .i64 0] 23)); have K3 := Lib.hid (Kp.trans KX.out hk2); have R3 := Lib.hid (kp_row hk2 RX.out); have B3 := Lib.hid (MapKept.heap_alloc w3 (.cells #[.int .i64 p, .int .i64 2, .int .i64 1, .int .i64 0] 23)).1; obtain ⟨d0, d1, d2, d3⟩ := cells_4 B3.out; obtain ⟨e0, e1, e2, e3, e4, e5, e6, e7, e8⟩ := cells_9 R3.out; have fz := frozN R3.out; clear hk hk2)
  go_region
  obtain ⟨Y, hY⟩ : ∃ Y, (((((w3.alloc (.cells #[.int .i64 p, .int .i64 2, .int .i64 1, .int .i64 0] 23)).setCell ⟨w.heap.size, 4, none⟩ (.int .i64 p)).setCell ⟨w.heap.size, 5, none⟩ (.int .i64 2)).setCell ⟨w.heap.size, 6, none⟩ (.int .i64 1)).setCell ⟨w.heap.size, 7, none⟩ (.int .i64 0)).drew = Y := ⟨_, rfl⟩
  have RY := Lib.hid (show Y.heap[w.heap.size]? = some (.cells (pairV (PairM.new p) (.slice none 0 0)) 89 (0, 0)) by
    rw [← hY, drewN_heapM]
    exact (Joins.block_setCell (Joins.block_setCell (Joins.block_setCell (Joins.block_setCell R3.out _) _) _) _).trans rfl)
  have KY := Lib.hid (show Kp w Y by
    rw [← hY]
    exact kp_drewM (Below.setCell (Below.setCell (Below.setCell (Below.setCell K3.out (Nat.le_refl _) _) (Nat.le_refl _) _) (Nat.le_refl _) _) (Nat.le_refl _) _))
  rw [hY]
  clear hY e0 e1 e2 e3 e4 e5 e6 e7 e8 fz d0 d1 d2 d3 R3 B3
  go_wp2
  rw [rounds_succ]
  go_wp2
  go_ret2
  exact ⟨rfl, RY.out, KY.out⟩
set_option maxRecDepth 100000 in
theorem mpDo_range {w : World} {ads : List Addr} {g : Nat} (e k : Int) (he : ¬ (e = 1 ∨ e = 2)) (ce : w.cell? ⟨1, 0, none⟩ = some (errI ads 1)) : Calls Tryd.prog 29 #[.pointer (some ⟨g, 0, none⟩), .int .i64 e, .int .i64 k] w fun r w' => r = .returned (errI ads 1) ∧ w = w' := by
  have HP := Lib.hid (fun w => (show Calls Tryd.prog 48 #[.pointer (some ⟨g, 0, none⟩), .int .i64 e] w fun r w' => r = .returned (.pointer none) ∧ w = w' from (show placeA g e = none by unfold placeA; rw [if_neg (fun q => he (.inl q)), if_neg (fun q => he (.inr q))]) ▸ place_any g e w))
  obtain ⟨q, hq⟩ : ∃ q, errI ads 1 = q := ⟨_, rfl⟩
  rw [hq] at ce ⊢
  clear hq he
  go_enter Tryd.func29, Tryd.ntmps29
  go_wp2_with (go_at_call 48; (with_reducible refine (HP.out _).mono ?_); rintro e' w4 ⟨rfl, rfl⟩)
  go_ret
  exact ⟨rfl, rfl⟩
set_option maxRecDepth 100000 in
theorem mpDo_full1 {w0 w : World} {ads : List Addr} {g : Nat} {m : PairM} {v : Value} (H : Pr w0 g m v w) (k : Int) (hf : 63 < m.f.length) (ce : w.cell? ⟨5, 0, none⟩ = some (errI ads 6)) : Calls Tryd.prog 29 #[.pointer (some ⟨g, 0, none⟩), .int .i64 1, .int .i64 k] w fun r w' => r = .returned (errI ads 6) ∧ w = w' := by
  have HP := Lib.hid (fun w => place_1 g w)
  have hrm := room_any H
  rw [decide_eq_false (by omega)] at hrm
  have HRM := Lib.hid hrm
  obtain ⟨q, hq⟩ : ∃ q, errI ads 6 = q := ⟨_, rfl⟩
  rw [hq] at ce ⊢
  clear hq hrm H hf
  go_enter Tryd.func29, Tryd.ntmps29
  go_wp2_with (first | (go_at_call 48; (with_reducible refine (HP.out _).mono ?_); rintro e' w4 ⟨rfl, rfl⟩) | (go_at_call 51; (with_reducible refine HRM.out.mono ?_); rintro e' w4 ⟨rfl, rfl⟩))
  go_ret
  exact ⟨rfl, rfl⟩
set_option maxRecDepth 100000 in
theorem mpDo_err1 {w0 w : World} {ads : List Addr} {g : Nat} {m : PairM} {v : Value} (H : Pr w0 g m v w) (k : Int) (ik : i64M k) (hf : ¬ 63 < m.f.length) (hz : m.c.ok) (n : Int) (hn : n ≠ 0) (y : EffM) (hy : m.c.act k = (n, y)) (T : TabC ads w) (S : TabS ads w) (ce : w.cell? ⟨0, 0, none⟩ = some (errI ads 4)) : Calls Tryd.prog 29 #[.pointer (some ⟨g, 0, none⟩), .int .i64 1, .int .i64 k] w fun r w' => r = .returned (errI ads n) ∧ Kp w w' := by
  have HP := Lib.hid (fun w => place_1 g w)
  have hrm := room_any H
  rw [decide_eq_true (by omega)] at hrm
  have HRM := Lib.hid hrm
  have ha := msAct_any m.c k hz ik w T S ce
  rw [hy] at ha
  obtain ⟨q, hq⟩ := errI_ifaceM ads n hn
  dsimp only [effV, seatV] at ha
  rw [hq] at ha ⊢
  have HA := Lib.hid ha
  have r1 := H.row
  unfold pairV at r1
  obtain ⟨e0, e1, e2, e3, e4, e5, e6, e7, e8⟩ := cells_9 r1
  clear hrm ha r1 H T S hy hq hn hz hf ce e8
  go_enter Tryd.func29, Tryd.ntmps29
  go_wp2_with (first | (go_at_call 48; (with_reducible refine (HP.out _).mono ?_); rintro e' w4 ⟨rfl, rfl⟩) | (go_at_call 51; (with_reducible refine HRM.out.mono ?_); rintro e' w4 ⟨rfl, rfl⟩) | (go_at_call 12; (with_reducible refine HA.out.mono ?_); rintro e' w5 ⟨rfl, hk⟩; have K5 := Lib.hid (Kp.trans hk (kp_alloc w5 (.cells #[.int .i64 y.z.p, .int .i64 y.z.e, .int .i64 y.z.s, .int .i64 y.z.h, .int .i64 y.send, .int .i64 y.fault, .int .i64 y.work, .bool y.changed] 27))); clear hk))
  go_ret
  exact ⟨rfl, K5.out⟩
set_option maxRecDepth 100000 in
theorem mpDo_ok1 {w0 w : World} {ads : List Addr} {g : Nat} {m : PairM} {v : Value} (H : Pr w0 g m v w) (k : Int) (ik : i64M k) (hf : ¬ 63 < m.f.length) (hz : m.c.ok) (y : EffM) (hy : m.c.act k = (0, y)) (T : TabC ads w) (S : TabS ads w) (ce : w.cell? ⟨0, 0, none⟩ = some (errI ads 4)) : Calls Tryd.prog 29 #[.pointer (some ⟨g, 0, none⟩), .int .i64 1, .int .i64 k] w fun r w' => r = .returned .nilIface ∧ ∃ v', Pr w0 g ⟨(m.set 1 y.z).c, (m.set 1 y.z).x, putF m.f 1 y.send⟩ v' w' ∧ Asd (Ob g v) (Ob g v') w w' := by
  have HP := Lib.hid (fun w => place_1 g w)
  have hrm := room_any H
  rw [decide_eq_true (by omega)] at hrm
  have HRM := Lib.hid hrm
  have ha := msAct_any m.c k hz ik w T S ce
  rw [hy] at ha
  dsimp only [effV, seatV] at ha
  rw [errI_nil] at ha
  have HA := Lib.hid ha
  have r1 := H.row
  unfold pairV at r1
  obtain ⟨e0, e1, e2, e3, e4, e5, e6, e7, e8⟩ := cells_9 r1
  have HH := Lib.hid H
  have HL := Lib.hid (show m.f.length ≤ 64 by omega)
  have HS := Lib.hid (fun w1 (hk : Kp w w1) => (show Calls Tryd.prog 53 #[.pointer (some ⟨g, 0, none⟩), .int .i64 1, .agg #[.int .i64 y.z.p, .int .i64 y.z.e, .int .i64 y.z.s, .int .i64 y.z.h, .int .i64 y.send, .int .i64 y.fault, .int .i64 y.work, .bool y.changed]] w1 fun r w' => r = .returned (.tuple #[]) ∧ ∃ v', Pr w0 g ⟨(m.set 1 y.z).c, (m.set 1 y.z).x, putF m.f 1 y.send⟩ v' w' ∧ Asd (Ob g v) (Ob g v') w1 w' from settle_any (HH.out.kp hk) 1 (by decide) y HL.out))
  clear hrm ha r1 H T S hy hz hf ce e8
  go_enter Tryd.func29, Tryd.ntmps29
  go_wp2_with (first | (go_at_call 48; (with_reducible refine (HP.out _).mono ?_); rintro e' w4 ⟨rfl, rfl⟩) | (go_at_call 51; (with_reducible refine HRM.out.mono ?_); rintro e' w4 ⟨rfl, rfl⟩) | (go_at_call 12; (with_reducible refine HA.out.mono ?_); rintro e' w5 ⟨rfl, hk⟩; have K5 := Lib.hid (Kp.trans hk (kp_alloc w5 (.cells #[.int .i64 y.z.p, .int .i64 y.z.e, .int .i64 y.z.s, .int .i64 y.z.h, .int .i64 y.send, .int .i64 y.fault, .int .i64 y.work, .bool y.changed] 27))); have B5 := Lib.hid (MapKept.heap_alloc w5 (.cells #[.int .i64 y.z.p, .int .i64 y.z.e, .int .i64 y.z.s, .int .i64 y.z.h, .int .i64 y.send, .int .i64 y.fault, .int .i64 y.work, .bool y.changed] 27)).1; obtain ⟨y0, y1, y2, y3, y4, y5, y6, y7⟩ := cells_8 B5.out; clear hk) | (go_at_call 53; (with_reducible refine (HS.out _ K5.out).mono ?_); rintro e' w6 ⟨rfl, v', hp, ha⟩; have R6 := Lib.hid (And.intro hp ((Asd.of_kp _ K5.out).trans ha)); clear hp ha))
  go_ret
  exact ⟨rfl, _, R6.out.1, R6.out.2⟩
set_option maxRecDepth 100000 in
theorem mpDo_full2 {w0 w : World} {ads : List Addr} {g : Nat} {m : PairM} {v : Value} (H : Pr w0 g m v w) (k : Int) (hf : 63 < m.f.length) (ce : w.cell? ⟨5, 0, none⟩ = some (errI ads 6)) : Calls Tryd.prog 29 #[.pointer (some ⟨g, 0, none⟩), .int .i64 2, .int .i64 k] w fun r w' => r = .returned (errI ads 6) ∧ w = w' := by
  have HP := Lib.hid (fun w => place_2 g w)
  have hrm := room_any H
  rw [decide_eq_false (by omega)] at hrm
  have HRM := Lib.hid hrm
  obtain ⟨q, hq⟩ : ∃ q, errI ads 6 = q := ⟨_, rfl⟩
  rw [hq] at ce ⊢
  clear hq hrm H hf
  go_enter Tryd.func29, Tryd.ntmps29
  go_wp2_with (first | (go_at_call 48; (with_reducible refine (HP.out _).mono ?_); rintro e' w4 ⟨rfl, rfl⟩) | (go_at_call 51; (with_reducible refine HRM.out.mono ?_); rintro e' w4 ⟨rfl, rfl⟩))
  go_ret
  exact ⟨rfl, rfl⟩
set_option maxRecDepth 100000 in
theorem mpDo_err2 {w0 w : World} {ads : List Addr} {g : Nat} {m : PairM} {v : Value} (H : Pr w0 g m v w) (k : Int) (ik : i64M k) (hf : ¬ 63 < m.f.length) (hz : m.x.ok) (n : Int) (hn : n ≠ 0) (y : EffM) (hy : m.x.act k = (n, y)) (T : TabC ads w) (S : TabS ads w) (ce : w.cell? ⟨0, 0, none⟩ = some (errI ads 4)) : Calls Tryd.prog 29 #[.pointer (some ⟨g, 0, none⟩), .int .i64 2, .int .i64 k] w fun r w' => r = .returned (errI ads n) ∧ Kp w w' := by
  have HP := Lib.hid (fun w => place_2 g w)
  have hrm := room_any H
  rw [decide_eq_true (by omega)] at hrm
  have HRM := Lib.hid hrm
  have ha := msAct_any m.x k hz ik w T S ce
  rw [hy] at ha
  obtain ⟨q, hq⟩ := errI_ifaceM ads n hn
  dsimp only [effV, seatV] at ha
  rw [hq] at ha ⊢
  have HA := Lib.hid ha
  have r1 := H.row
  unfold pairV at r1
  obtain ⟨e0, e1, e2, e3, e4, e5, e6, e7, e8⟩ := cells_9 r1
  clear hrm ha r1 H T S hy hq hn hz hf ce e8
  go_enter Tryd.func29, Tryd.ntmps29
  go_wp2_with (first | (go_at_call 48; (with_reducible refine (HP.out _).mono ?_); rintro e' w4 ⟨rfl, rfl⟩) | (go_at_call 51; (with_reducible refine HRM.out.mono ?_); rintro e' w4 ⟨rfl, rfl⟩) | (go_at_call 12; (with_reducible refine HA.out.mono ?_); rintro e' w5 ⟨rfl, hk⟩; have K5 := Lib.hid (Kp.trans hk (kp_alloc w5 (.cells #[.int .i64 y.z.p, .int .i64 y.z.e, .int .i64 y.z.s, .int .i64 y.z.h, .int .i64 y.send, .int .i64 y.fault, .int .i64 y.work, .bool y.changed] 27))); clear hk))
  go_ret
  exact ⟨rfl, K5.out⟩
set_option maxRecDepth 100000 in
theorem mpDo_ok2 {w0 w : World} {ads : List Addr} {g : Nat} {m : PairM} {v : Value} (H : Pr w0 g m v w) (k : Int) (ik : i64M k) (hf : ¬ 63 < m.f.length) (hz : m.x.ok) (y : EffM) (hy : m.x.act k = (0, y)) (T : TabC ads w) (S : TabS ads w) (ce : w.cell? ⟨0, 0, none⟩ = some (errI ads 4)) : Calls Tryd.prog 29 #[.pointer (some ⟨g, 0, none⟩), .int .i64 2, .int .i64 k] w fun r w' => r = .returned .nilIface ∧ ∃ v', Pr w0 g ⟨(m.set 2 y.z).c, (m.set 2 y.z).x, putF m.f 2 y.send⟩ v' w' ∧ Asd (Ob g v) (Ob g v') w w' := by
  have HP := Lib.hid (fun w => place_2 g w)
  have hrm := room_any H
  rw [decide_eq_true (by omega)] at hrm
  have HRM := Lib.hid hrm
  have ha := msAct_any m.x k hz ik w T S ce
  rw [hy] at ha
  dsimp only [effV, seatV] at ha
  rw [errI_nil] at ha
  have HA := Lib.hid ha
  have r1 := H.row
  unfold pairV at r1
  obtain ⟨e0, e1, e2, e3, e4, e5, e6, e7, e8⟩ := cells_9 r1
  have HH := Lib.hid H
  have HL := Lib.hid (show m.f.length ≤ 64 by omega)
  have HS := Lib.hid (fun w1 (hk : Kp w w1) => (show Calls Tryd.prog 53 #[.pointer (some ⟨g, 0, none⟩), .int .i64 2, .agg #[.int .i64 y.z.p, .int .i64 y.z.e, .int .i64 y.z.s, .int .i64 y.z.h, .int .i64 y.send, .int .i64 y.fault, .int .i64 y.work, .bool y.changed]] w1 fun r w' => r = .returned (.tuple #[]) ∧ ∃ v', Pr w0 g ⟨(m.set 2 y.z).c, (m.set 2 y.z).x, putF m.f 2 y.send⟩ v' w' ∧ Asd (Ob g v) (Ob g v') w1 w' from settle_any (HH.out.kp hk) 2 (by decide) y HL.out))
  clear hrm ha r1 H T S hy hz hf ce e8
  go_enter Tryd.func29, Tryd.ntmps29
  go_wp2_with (first | (go_at_call 48; (with_reducible refine (HP.out _).mono ?_); rintro e' w4 ⟨rfl, rfl⟩) | (go_at_call 51; (with_reducible refine HRM.out.mono ?_); rintro e' w4 ⟨rfl, rfl⟩) | (go_at_call 12; (with_reducible refine HA.out.mono ?_); rintro e' w5 ⟨rfl, hk⟩; have K5 := Lib.hid (Kp.trans hk (kp_alloc w5 (.cells #[.int .i64 y.z.p, .int .i64 y.z.e, .int .i64 y.z.s, .int .i64 y.z.h, .int .i64 y.send, .int .i64 y.fault, .int .i64 y.work, .bool y.changed] 27))); have B5 := Lib.hid (MapKept.heap_alloc w5 (.cells #[.int .i64 y.z.p, .int .i64 y.z.e, .int .i64 y.z.s, .int .i64 y.z.h, .int .i64 y.send, .int .i64 y.fault, .int .i64 y.work, .bool y.changed] 27)).1; obtain ⟨y0, y1, y2, y3, y4, y5, y6, y7⟩ := cells_8 B5.out; clear hk) | (go_at_call 53; (with_reducible refine (HS.out _ K5.out).mono ?_); rintro e' w6 ⟨rfl, v', hp, ha⟩; have R6 := Lib.hid (And.intro hp ((Asd.of_kp _ K5.out).trans ha)); clear hp ha))
  go_ret
  exact ⟨rfl, _, R6.out.1, R6.out.2⟩
theorem mpDo_any {w0 w : World} {ads : List Addr} {g : Nat} {m : PairM} {v : Value} (H : Pr w0 g m v w) (hm : Pok m) (e k : Int) (ik : i64M k) (T : TabC ads w) (S : TabS ads w) (cr : w.cell? ⟨1, 0, none⟩ = some (errI ads 1)) (cf : w.cell? ⟨5, 0, none⟩ = some (errI ads 6)) (ce : w.cell? ⟨0, 0, none⟩ = some (errI ads 4)) :
    Calls Tryd.prog 29 #[.pointer (some ⟨g, 0, none⟩), .int .i64 e, .int .i64 k] w fun r w' => r = .returned (errI ads (m.act e k).1) ∧ ∃ v', Pr w0 g (m.act e k).2 v' w' ∧ Asd (Ob g v) (Ob g v') w w' := by
  unfold PairM.act
  by_cases he : e = 1 ∨ e = 2
  · rw [if_neg (by omega)]
    have hz := right_ok (pok_seat hm he)
    by_cases hf : 63 < m.f.length
    · rw [if_pos hf]
      dsimp only
      rcases he with rfl | rfl
      · exact (mpDo_full1 H k hf cf).mono fun r w' ⟨q1, q2⟩ => ⟨q1, v, q2 ▸ H, q2 ▸ Asd.refl _ _⟩
      · exact (mpDo_full2 H k hf cf).mono fun r w' ⟨q1, q2⟩ => ⟨q1, v, q2 ▸ H, q2 ▸ Asd.refl _ _⟩
    · rw [if_neg hf]
      obtain ⟨⟨n, y⟩, hy⟩ : ∃ x, (m.seat e).act k = x := ⟨_, rfl⟩
      rw [hy]
      dsimp only
      by_cases hn : n ≠ 0
      · rw [if_pos hn]
        dsimp only
        rcases he with rfl | rfl
        · exact (mpDo_err1 H k ik hf hz n hn y hy T S ce).mono fun r w' ⟨q1, q2⟩ => ⟨q1, v, H.kp q2, Asd.of_kp _ q2⟩
        · exact (mpDo_err2 H k ik hf hz n hn y hy T S ce).mono fun r w' ⟨q1, q2⟩ => ⟨q1, v, H.kp q2, Asd.of_kp _ q2⟩
      · rw [if_neg hn]
        have hn : n = 0 := by omega
        subst hn
        dsimp only
        rw [errI_nil]
        rcases he with rfl | rfl
        · exact mpDo_ok1 H k ik hf hz y hy T S ce
        · exact mpDo_ok2 H k ik hf hz y hy T S ce
  · rw [if_pos (by omega)]
    dsimp only
    exact (mpDo_range e k he cr).mono fun r w' ⟨q1, q2⟩ => ⟨q1, v, q2 ▸ H, q2 ▸ Asd.refl _ _⟩
set_option maxRecDepth 100000 in
theorem mpAgain_any {w0 w : World} {ads : List Addr} {g : Nat} {m : PairM} {v : Value} (H : Pr w0 g m v w) (hm : Pok m) (e : Int) (T : TabC ads w) :
    Calls Tryd.prog 30 #[.pointer (some ⟨g, 0, none⟩), .int .i64 e] w fun r w' => r = .returned (.bool (m.again e).1) ∧ ∃ v', Pr w0 g (m.again e).2 v' w' ∧ Asd (Ob g v) (Ob g v') w w' := by
  obtain ⟨z, hz⟩ : ∃ z, seatO m e = z := ⟨_, rfl⟩
  have ho : z.ok := by
    rw [← hz]
    by_cases he : e = 1 ∨ e = 2
    · rw [seatO_seat he]; exact right_ok (pok_seat hm he)
    · unfold seatO; rw [if_neg (fun q => he (.inl q)), if_neg (fun q => he (.inr q))]; exact ⟨by decide, by decide, by decide, by decide⟩
  obtain ⟨k, hk⟩ : ∃ k, (if z.right = true then z.waits else 0) = k := ⟨_, rfl⟩
  have hs := mpSeat_any H e
  have hw := fun w1 (hk : Kp w w1) => msWaits_any z ho w1 (T.kp hk)
  rw [hz] at hs
  rw [hk] at hw
  dsimp only [seatV] at hs hw
  have HS := Lib.hid hs
  have HW := Lib.hid hw
  have HH := Lib.hid H
  have HRM := Lib.hid (fun w1 (hk : Kp w w1) => room_any (H.kp hk))
  have key : m.again e = if k = 0 ∨ ¬ m.f.length < 64 then (false, m) else (true, ⟨m.c, m.x, m.f ++ [(3 - e, k)]⟩) := by
    unfold PairM.again
    by_cases he : e = 1 ∨ e = 2
    · have hr := pok_seat hm he
      rw [← seatO_seat he, hz] at hr ⊢
      rw [if_pos hr] at hk
      rw [hk]
      by_cases hl : 63 < m.f.length
      · rw [if_pos (show (e ≠ 1 ∧ e ≠ 2) ∨ 63 < m.f.length from .inr hl), if_pos (show k = 0 ∨ ¬ m.f.length < 64 from .inr (by omega))]
      · rw [if_neg (show ¬ ((e ≠ 1 ∧ e ≠ 2) ∨ 63 < m.f.length) by omega)]
        unfold putF
        by_cases h0 : k = 0
        · rw [if_pos (show k = 0 ∨ ¬ m.f.length < 64 from .inl h0), if_pos h0, decide_eq_false (by omega)]
        · rw [if_neg (show ¬ (k = 0 ∨ ¬ m.f.length < 64) by omega), if_neg h0, decide_eq_true h0]
    · have z0 : z = ⟨0, 0, 0, 0⟩ := by rw [← hz]; unfold seatO; rw [if_neg (fun q => he (.inl q)), if_neg (fun q => he (.inr q))]
      have k0 : k = 0 := by rw [← hk, z0]; decide
      rw [if_pos (show (e ≠ 1 ∧ e ≠ 2) ∨ 63 < m.f.length from .inl (by omega)), if_pos (show k = 0 ∨ ¬ m.f.length < 64 from .inl k0)]
  rw [key]
  have HE := Lib.hid (show k ≠ 0 → e = 1 ∨ e = 2 from fun h0 => Classical.byContradiction fun he => h0 (by
    have z0 : z = ⟨0, 0, 0, 0⟩ := by rw [← hz]; unfold seatO; rw [if_neg (fun q => he (.inl q)), if_neg (fun q => he (.inr q))]
    rw [← hk, z0]
    decide))
  clear hs hw hk hz ho hm T key
  by_cases h0 : k = 0
  · subst h0
    rw [if_pos (.inl rfl)]
    clear H
    go_enter Tryd.func30, Tryd.ntmps30
    go_wp2_with (first | (go_at_call 24; (with_reducible refine HS.out.mono ?_); rintro e' w1 ⟨rfl, hk⟩; have K1 := Lib.hid hk; clear hk) | (go_at_call 19; (with_reducible refine (HW.out _ K1.out).mono ?_); rintro e' w2 ⟨rfl, hk⟩; have K2 := Lib.hid (Kp.trans K1.out hk); clear hk))
    go_ret
    exact ⟨rfl, _, HH.out.kp K2.out, Asd.of_kp _ K2.out⟩
  · have b0 : (k == 0) = false := by simpa using h0
    by_cases hl : m.f.length < 64
    · rw [if_neg (by omega)]
      have hd : decide (m.f.length < 64) = true := decide_eq_true hl
      rw [hd] at HRM
      have HSN := Lib.hid (fun w1 (hk : Kp w w1) => send_any (H.kp hk) e k (HE.out h0) (by omega))
      clear hd h0 H hl
      go_enter Tryd.func30, Tryd.ntmps30
      go_wp2_with (first | (go_at_call 24; (with_reducible refine HS.out.mono ?_); rintro e' w1 ⟨rfl, hk⟩; have K1 := Lib.hid hk; clear hk) | (go_at_call 19; (with_reducible refine (HW.out _ K1.out).mono ?_); rintro e' w2 ⟨rfl, hk⟩; have K2 := Lib.hid (Kp.trans K1.out hk); clear hk) | (go_at_call 51; (with_reducible refine (HRM.out _ K2.out).mono ?_); rintro e' w4 ⟨rfl, rfl⟩) | (go_at_call 54; (with_reducible refine (HSN.out _ K2.out).mono ?_); rintro e' w6 ⟨rfl, v', hp, ha⟩; have R6 := Lib.hid (And.intro hp ((Asd.of_kp _ K2.out).trans ha)); clear hp ha))
      go_ret
      exact ⟨rfl, _, R6.out.1, R6.out.2⟩
    · rw [if_pos (.inr hl)]
      have hd : decide (m.f.length < 64) = false := decide_eq_false hl
      rw [hd] at HRM
      clear hd h0 H hl
      go_enter Tryd.func30, Tryd.ntmps30
      go_wp2_with (first | (go_at_call 24; (with_reducible refine HS.out.mono ?_); rintro e' w1 ⟨rfl, hk⟩; have K1 := Lib.hid hk; clear hk) | (go_at_call 19; (with_reducible refine (HW.out _ K1.out).mono ?_); rintro e' w2 ⟨rfl, hk⟩; have K2 := Lib.hid (Kp.trans K1.out hk); clear hk) | (go_at_call 51; (with_reducible refine (HRM.out _ K2.out).mono ?_); rintro e' w4 ⟨rfl, rfl⟩))
      go_ret
      exact ⟨rfl, _, HH.out.kp K2.out, Asd.of_kp _ K2.out⟩
end Go.Proofs.YtghjnhdepeiloaaDoor
