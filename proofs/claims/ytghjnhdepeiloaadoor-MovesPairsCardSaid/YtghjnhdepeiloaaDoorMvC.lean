/-
  liaisonref11: Tell, Do (own work).
-/
import Derived.Test.YtghjnhdepeiloaaDoorMvB
import Derived.Test.YtghjnhdepeiloaaDoorRefL
namespace Go.Proofs.YtghjnhdepeiloaaDoor
open Go.RowKit Go.ChangeShapes Go.WideShapes

set_option maxRecDepth 100000 in
theorem refTell_bad (p e s h k : Int) (hr : SeatM.right ⟨p, e, s, h⟩ = false) (w : World) : Calls Tryd.prog 11 #[.agg #[.int .i64 p, .int .i64 e, .int .i64 s, .int .i64 h], .int .i64 k] w fun r w' => r = .returned (.tuple #[.agg #[.int .i64 0, .int .i64 0, .int .i64 0, .int .i64 0, .int .i64 0, .int .i64 0, .int .i64 0, .bool false], .int .i64 4]) ∧ Kp w w' := by
  have HRt := fun w => hr ▸ refRight_any ⟨p, e, s, h⟩ w
  dsimp only [seatV] at HRt
  replace HRt := Lib.hid HRt
  have k0 := Kp.trans (kp_alloc w (.cells #[.int .i64 p, .int .i64 e, .int .i64 s, .int .i64 h] 25)) (kp_alloc (w.alloc (.cells #[.int .i64 p, .int .i64 e, .int .i64 s, .int .i64 h] 25)) (.cells #[.int .i64 0, .int .i64 0, .int .i64 0, .int .i64 0, .int .i64 0, .int .i64 0, .int .i64 0, .bool false] 33))
  have hr0 : ((w.alloc (.cells #[.int .i64 p, .int .i64 e, .int .i64 s, .int .i64 h] 25)).alloc (.cells #[.int .i64 0, .int .i64 0, .int .i64 0, .int .i64 0, .int .i64 0, .int .i64 0, .int .i64 0, .bool false] 33)).heap[w.heap.size]? = some (.cells #[.int .i64 p, .int .i64 e, .int .i64 s, .int .i64 h] 25) := kp_row (kp_alloc _ _) (MapKept.heap_alloc w (.cells #[.int .i64 p, .int .i64 e, .int .i64 s, .int .i64 h] 25)).1
  have hz0 : ((w.alloc (.cells #[.int .i64 p, .int .i64 e, .int .i64 s, .int .i64 h] 25)).alloc (.cells #[.int .i64 0, .int .i64 0, .int .i64 0, .int .i64 0, .int .i64 0, .int .i64 0, .int .i64 0, .bool false] 33)).heap[w.heap.size + 1]? = some (.cells #[.int .i64 0, .int .i64 0, .int .i64 0, .int .i64 0, .int .i64 0, .int .i64 0, .int .i64 0, .bool false] 33) := by have := (MapKept.heap_alloc (w.alloc (.cells #[.int .i64 p, .int .i64 e, .int .i64 s, .int .i64 h] 25)) (.cells #[.int .i64 0, .int .i64 0, .int .i64 0, .int .i64 0, .int .i64 0, .int .i64 0, .int .i64 0, .bool false] 33)).1; simpa using this
  have K1 := Lib.hid k0
  have R1 := Lib.hid hr0
  have Z1 := Lib.hid hz0
  obtain ⟨g0, g1, g2, g3⟩ := cells_4 R1.out
  clear k0 hr0 hz0
  clear hr
  go_enter Tryd.func11, Tryd.ntmps11
  go_wp2_with (go_at_call 17; (with_reducible refine (HRt.out _).mono ?_); rintro e' w2 ⟨rfl, hk⟩; have K2 := Lib.hid (Kp.trans K1.out hk); have R2 := Lib.hid (kp_row hk R1.out); have Z2 := Lib.hid (kp_row hk Z1.out); obtain ⟨j0, j1, j2, j3⟩ := cells_4 R2.out; obtain ⟨z0, z1, z2, z3, z4, z5, z6, z7⟩ := cells_8 Z2.out; have fz := frozN Z2.out; clear hk)
  refine bodyPost_ret (results_row_tmpT (p := 4) (u := 5) rfl _ _ (w.heap.size + 1) 33 _ (0, 0) _ rfl (set_8 _ _ _ _ _ _ _ _ Z2.out) Tryd.underlying33 rfl (by kernel_rfl)) rfl ?_; exact ⟨rfl, set_8_kp K2.out (Nat.le_succ _) _ _ _ _ _ _ _ _⟩
set_option maxRecDepth 100000 in
theorem refTell_look (p e s h k : Int) (hr : SeatM.right ⟨p, e, s, h⟩ = true) (n c0 c1 c2 : Int) (hm : lookT p e k s = (n, c0, c1, c2)) (hn : (n == 0) = false) (w : World) : Calls Tryd.prog 11 #[.agg #[.int .i64 p, .int .i64 e, .int .i64 s, .int .i64 h], .int .i64 k] w fun r w' => r = .returned (.tuple #[.agg #[.int .i64 p, .int .i64 e, .int .i64 s, .int .i64 h, .int .i64 0, .int .i64 2, .int .i64 0, .bool false], .int .i64 0]) ∧ Kp w w' := by
  have HRt := fun w => hr ▸ refRight_any ⟨p, e, s, h⟩ w
  dsimp only [seatV] at HRt
  replace HRt := Lib.hid HRt
  have HL := fun w => refLook_any p e k s w
  rw [hm] at HL
  dsimp only [cellV] at HL
  replace HL := Lib.hid HL
  have k0 := Kp.trans (kp_alloc w (.cells #[.int .i64 p, .int .i64 e, .int .i64 s, .int .i64 h] 25)) (kp_alloc (w.alloc (.cells #[.int .i64 p, .int .i64 e, .int .i64 s, .int .i64 h] 25)) (.cells #[.int .i64 0, .int .i64 0, .int .i64 0, .int .i64 0, .int .i64 0, .int .i64 0, .int .i64 0, .bool false] 33))
  have hr0 : ((w.alloc (.cells #[.int .i64 p, .int .i64 e, .int .i64 s, .int .i64 h] 25)).alloc (.cells #[.int .i64 0, .int .i64 0, .int .i64 0, .int .i64 0, .int .i64 0, .int .i64 0, .int .i64 0, .bool false] 33)).heap[w.heap.size]? = some (.cells #[.int .i64 p, .int .i64 e, .int .i64 s, .int .i64 h] 25) := kp_row (kp_alloc _ _) (MapKept.heap_alloc w (.cells #[.int .i64 p, .int .i64 e, .int .i64 s, .int .i64 h] 25)).1
  have hz0 : ((w.alloc (.cells #[.int .i64 p, .int .i64 e, .int .i64 s, .int .i64 h] 25)).alloc (.cells #[.int .i64 0, .int .i64 0, .int .i64 0, .int .i64 0, .int .i64 0, .int .i64 0, .int .i64 0, .bool false] 33)).heap[w.heap.size + 1]? = some (.cells #[.int .i64 0, .int .i64 0, .int .i64 0, .int .i64 0, .int .i64 0, .int .i64 0, .int .i64 0, .bool false] 33) := by have := (MapKept.heap_alloc (w.alloc (.cells #[.int .i64 p, .int .i64 e, .int .i64 s, .int .i64 h] 25)) (.cells #[.int .i64 0, .int .i64 0, .int .i64 0, .int .i64 0, .int .i64 0, .int .i64 0, .int .i64 0, .bool false] 33)).1; simpa using this
  have K1 := Lib.hid k0
  have R1 := Lib.hid hr0
  have Z1 := Lib.hid hz0
  obtain ⟨g0, g1, g2, g3⟩ := cells_4 R1.out
  clear k0 hr0 hz0
  clear hr hm
  go_enter Tryd.func11, Tryd.ntmps11
  go_wp2_with (first | (go_at_call 17; (with_reducible refine (HRt.out _).mono ?_); rintro e' w2 ⟨rfl, hk⟩; have K2 := Lib.hid (Kp.trans K1.out hk); have R2 := Lib.hid (kp_row hk R1.out); have Z2 := Lib.hid (kp_row hk Z1.out); obtain ⟨j0, j1, j2, j3⟩ := cells_4 R2.out; obtain ⟨z0, z1, z2, z3, z4, z5, z6, z7⟩ := cells_8 Z2.out; have fz := frozN Z2.out; clear hk) | (go_at_call 34; (with_reducible refine (HL.out _).mono ?_); rintro e' w3 ⟨rfl, hk⟩; have hk3 := Kp.trans hk (kp_alloc w3 (.cells #[.int .i64 c0, .int .i64 c1, .int .i64 c2] 74)); have K3 := Lib.hid (Kp.trans K2.out hk3); have R3 := Lib.hid (kp_row hk3 R2.out); have Z3 := Lib.hid (kp_row hk3 Z2.out); have B3 := Lib.hid (MapKept.heap_alloc w3 (.cells #[.int .i64 c0, .int .i64 c1, .int .i64 c2] 74)).1; obtain ⟨l0, l1, l2⟩ := cells3 B3.out; obtain ⟨m0, m1, m2, m3⟩ := cells_4 R3.out; obtain ⟨y0, y1, y2, y3, y4, y5, y6, y7⟩ := cells_8 Z3.out; have fy := frozN Z3.out; clear hk hk3))
  refine bodyPost_ret (results_row_tmpT (p := 4) (u := 5) rfl _ _ (w.heap.size + 1) 33 _ (0, 0) _ rfl (set_8 _ _ _ _ _ _ _ _ Z3.out) Tryd.underlying33 rfl (by kernel_rfl)) rfl ?_; exact ⟨rfl, set_8_kp K3.out (Nat.le_succ _) _ _ _ _ _ _ _ _⟩
set_option maxRecDepth 100000 in
theorem refTell_2 (p e s h k : Int) (hr : SeatM.right ⟨p, e, s, h⟩ = true) (n c0 c1 c2 : Int) (hm : lookT p e k s = (n, c0, c1, c2)) (h0 : n = 0) (hd : c0 = 2) (w : World) : Calls Tryd.prog 11 #[.agg #[.int .i64 p, .int .i64 e, .int .i64 s, .int .i64 h], .int .i64 k] w fun r w' => r = .returned (.tuple #[.agg #[.int .i64 p, .int .i64 e, .int .i64 s, .int .i64 h, .int .i64 0, .int .i64 0, .int .i64 0, .bool false], .int .i64 0]) ∧ Kp w w' := by
  have HRt := fun w => hr ▸ refRight_any ⟨p, e, s, h⟩ w
  dsimp only [seatV] at HRt
  replace HRt := Lib.hid HRt
  have HL := fun w => refLook_any p e k s w
  rw [hm] at HL
  dsimp only [cellV] at HL
  replace HL := Lib.hid HL
  have k0 := Kp.trans (kp_alloc w (.cells #[.int .i64 p, .int .i64 e, .int .i64 s, .int .i64 h] 25)) (kp_alloc (w.alloc (.cells #[.int .i64 p, .int .i64 e, .int .i64 s, .int .i64 h] 25)) (.cells #[.int .i64 0, .int .i64 0, .int .i64 0, .int .i64 0, .int .i64 0, .int .i64 0, .int .i64 0, .bool false] 33))
  have hr0 : ((w.alloc (.cells #[.int .i64 p, .int .i64 e, .int .i64 s, .int .i64 h] 25)).alloc (.cells #[.int .i64 0, .int .i64 0, .int .i64 0, .int .i64 0, .int .i64 0, .int .i64 0, .int .i64 0, .bool false] 33)).heap[w.heap.size]? = some (.cells #[.int .i64 p, .int .i64 e, .int .i64 s, .int .i64 h] 25) := kp_row (kp_alloc _ _) (MapKept.heap_alloc w (.cells #[.int .i64 p, .int .i64 e, .int .i64 s, .int .i64 h] 25)).1
  have hz0 : ((w.alloc (.cells #[.int .i64 p, .int .i64 e, .int .i64 s, .int .i64 h] 25)).alloc (.cells #[.int .i64 0, .int .i64 0, .int .i64 0, .int .i64 0, .int .i64 0, .int .i64 0, .int .i64 0, .bool false] 33)).heap[w.heap.size + 1]? = some (.cells #[.int .i64 0, .int .i64 0, .int .i64 0, .int .i64 0, .int .i64 0, .int .i64 0, .int .i64 0, .bool false] 33) := by have := (MapKept.heap_alloc (w.alloc (.cells #[.int .i64 p, .int .i64 e, .int .i64 s, .int .i64 h] 25)) (.cells #[.int .i64 0, .int .i64 0, .int .i64 0, .int .i64 0, .int .i64 0, .int .i64 0, .int .i64 0, .bool false] 33)).1; simpa using this
  have K1 := Lib.hid k0
  have R1 := Lib.hid hr0
  have Z1 := Lib.hid hz0
  obtain ⟨g0, g1, g2, g3⟩ := cells_4 R1.out
  clear k0 hr0 hz0
  clear hr hm
  subst h0 hd
  go_enter Tryd.func11, Tryd.ntmps11
  go_wp2_with (first | (go_at_call 17; (with_reducible refine (HRt.out _).mono ?_); rintro e' w2 ⟨rfl, hk⟩; have K2 := Lib.hid (Kp.trans K1.out hk); have R2 := Lib.hid (kp_row hk R1.out); have Z2 := Lib.hid (kp_row hk Z1.out); obtain ⟨j0, j1, j2, j3⟩ := cells_4 R2.out; obtain ⟨z0, z1, z2, z3, z4, z5, z6, z7⟩ := cells_8 Z2.out; have fz := frozN Z2.out; clear hk) | (go_at_call 34; (with_reducible refine (HL.out _).mono ?_); rintro e' w3 ⟨rfl, hk⟩; have hk3 := Kp.trans hk (kp_alloc w3 (.cells #[.int .i64 2, .int .i64 c1, .int .i64 c2] 74)); have K3 := Lib.hid (Kp.trans K2.out hk3); have R3 := Lib.hid (kp_row hk3 R2.out); have Z3 := Lib.hid (kp_row hk3 Z2.out); have B3 := Lib.hid (MapKept.heap_alloc w3 (.cells #[.int .i64 2, .int .i64 c1, .int .i64 c2] 74)).1; obtain ⟨l0, l1, l2⟩ := cells3 B3.out; obtain ⟨m0, m1, m2, m3⟩ := cells_4 R3.out; obtain ⟨y0, y1, y2, y3, y4, y5, y6, y7⟩ := cells_8 Z3.out; have fy := frozN Z3.out; clear hk hk3))
  refine bodyPost_ret (results_row_tmpT (p := 4) (u := 5) rfl _ _ (w.heap.size + 1) 33 _ (0, 0) _ rfl (set_8 _ _ _ _ _ _ _ _ Z3.out) Tryd.underlying33 rfl (by kernel_rfl)) rfl ?_; exact ⟨rfl, set_8_kp K3.out (Nat.le_succ _) _ _ _ _ _ _ _ _⟩
set_option maxRecDepth 100000 in
theorem refTell_3 (p e s h k : Int) (hr : SeatM.right ⟨p, e, s, h⟩ = true) (n c0 c1 c2 : Int) (hm : lookT p e k s = (n, c0, c1, c2)) (h0 : n = 0) (hd : c0 = 3) (w : World) : Calls Tryd.prog 11 #[.agg #[.int .i64 p, .int .i64 e, .int .i64 s, .int .i64 h], .int .i64 k] w fun r w' => r = .returned (.tuple #[.agg #[.int .i64 p, .int .i64 e, .int .i64 s, .int .i64 h, .int .i64 c2, .int .i64 0, .int .i64 0, .bool false], .int .i64 0]) ∧ Kp w w' := by
  have HRt := fun w => hr ▸ refRight_any ⟨p, e, s, h⟩ w
  dsimp only [seatV] at HRt
  replace HRt := Lib.hid HRt
  have HL := fun w => refLook_any p e k s w
  rw [hm] at HL
  dsimp only [cellV] at HL
  replace HL := Lib.hid HL
  have k0 := Kp.trans (kp_alloc w (.cells #[.int .i64 p, .int .i64 e, .int .i64 s, .int .i64 h] 25)) (kp_alloc (w.alloc (.cells #[.int .i64 p, .int .i64 e, .int .i64 s, .int .i64 h] 25)) (.cells #[.int .i64 0, .int .i64 0, .int .i64 0, .int .i64 0, .int .i64 0, .int .i64 0, .int .i64 0, .bool false] 33))
  have hr0 : ((w.alloc (.cells #[.int .i64 p, .int .i64 e, .int .i64 s, .int .i64 h] 25)).alloc (.cells #[.int .i64 0, .int .i64 0, .int .i64 0, .int .i64 0, .int .i64 0, .int .i64 0, .int .i64 0, .bool false] 33)).heap[w.heap.size]? = some (.cells #[.int .i64 p, .int .i64 e, .int .i64 s, .int .i64 h] 25) := kp_row (kp_alloc _ _) (MapKept.heap_alloc w (.cells #[.int .i64 p, .int .i64 e, .int .i64 s, .int .i64 h] 25)).1
  have hz0 : ((w.alloc (.cells #[.int .i64 p, .int .i64 e, .int .i64 s, .int .i64 h] 25)).alloc (.cells #[.int .i64 0, .int .i64 0, .int .i64 0, .int .i64 0, .int .i64 0, .int .i64 0, .int .i64 0, .bool false] 33)).heap[w.heap.size + 1]? = some (.cells #[.int .i64 0, .int .i64 0, .int .i64 0, .int .i64 0, .int .i64 0, .int .i64 0, .int .i64 0, .bool false] 33) := by have := (MapKept.heap_alloc (w.alloc (.cells #[.int .i64 p, .int .i64 e, .int .i64 s, .int .i64 h] 25)) (.cells #[.int .i64 0, .int .i64 0, .int .i64 0, .int .i64 0, .int .i64 0, .int .i64 0, .int .i64 0, .bool false] 33)).1; simpa using this
  have K1 := Lib.hid k0
  have R1 := Lib.hid hr0
  have Z1 := Lib.hid hz0
  obtain ⟨g0, g1, g2, g3⟩ := cells_4 R1.out
  clear k0 hr0 hz0
  clear hr hm
  subst h0 hd
  go_enter Tryd.func11, Tryd.ntmps11
  go_wp2_with (first | (go_at_call 17; (with_reducible refine (HRt.out _).mono ?_); rintro e' w2 ⟨rfl, hk⟩; have K2 := Lib.hid (Kp.trans K1.out hk); have R2 := Lib.hid (kp_row hk R1.out); have Z2 := Lib.hid (kp_row hk Z1.out); obtain ⟨j0, j1, j2, j3⟩ := cells_4 R2.out; obtain ⟨z0, z1, z2, z3, z4, z5, z6, z7⟩ := cells_8 Z2.out; have fz := frozN Z2.out; clear hk) | (go_at_call 34; (with_reducible refine (HL.out _).mono ?_); rintro e' w3 ⟨rfl, hk⟩; have hk3 := Kp.trans hk (kp_alloc w3 (.cells #[.int .i64 3, .int .i64 c1, .int .i64 c2] 74)); have K3 := Lib.hid (Kp.trans K2.out hk3); have R3 := Lib.hid (kp_row hk3 R2.out); have Z3 := Lib.hid (kp_row hk3 Z2.out); have B3 := Lib.hid (MapKept.heap_alloc w3 (.cells #[.int .i64 3, .int .i64 c1, .int .i64 c2] 74)).1; obtain ⟨l0, l1, l2⟩ := cells3 B3.out; obtain ⟨m0, m1, m2, m3⟩ := cells_4 R3.out; obtain ⟨y0, y1, y2, y3, y4, y5, y6, y7⟩ := cells_8 Z3.out; have fy := frozN Z3.out; clear hk hk3))
  refine bodyPost_ret (results_row_tmpT (p := 4) (u := 5) rfl _ _ (w.heap.size + 1) 33 _ (0, 0) _ rfl (set_8 _ _ _ _ _ _ _ _ Z3.out) Tryd.underlying33 rfl (by kernel_rfl)) rfl ?_; exact ⟨rfl, set_8_kp K3.out (Nat.le_succ _) _ _ _ _ _ _ _ _⟩
set_option maxRecDepth 100000 in
theorem refTell_4 (p e s h k : Int) (hr : SeatM.right ⟨p, e, s, h⟩ = true) (n c0 c1 c2 : Int) (hm : lookT p e k s = (n, c0, c1, c2)) (h0 : n = 0) (hd : c0 = 4) (w : World) : Calls Tryd.prog 11 #[.agg #[.int .i64 p, .int .i64 e, .int .i64 s, .int .i64 h], .int .i64 k] w fun r w' => r = .returned (.tuple #[.agg #[.int .i64 p, .int .i64 e, .int .i64 s, .int .i64 h, .int .i64 0, .int .i64 1, .int .i64 0, .bool false], .int .i64 0]) ∧ Kp w w' := by
  have HRt := fun w => hr ▸ refRight_any ⟨p, e, s, h⟩ w
  dsimp only [seatV] at HRt
  replace HRt := Lib.hid HRt
  have HL := fun w => refLook_any p e k s w
  rw [hm] at HL
  dsimp only [cellV] at HL
  replace HL := Lib.hid HL
  have k0 := Kp.trans (kp_alloc w (.cells #[.int .i64 p, .int .i64 e, .int .i64 s, .int .i64 h] 25)) (kp_alloc (w.alloc (.cells #[.int .i64 p, .int .i64 e, .int .i64 s, .int .i64 h] 25)) (.cells #[.int .i64 0, .int .i64 0, .int .i64 0, .int .i64 0, .int .i64 0, .int .i64 0, .int .i64 0, .bool false] 33))
  have hr0 : ((w.alloc (.cells #[.int .i64 p, .int .i64 e, .int .i64 s, .int .i64 h] 25)).alloc (.cells #[.int .i64 0, .int .i64 0, .int .i64 0, .int .i64 0, .int .i64 0, .int .i64 0, .int .i64 0, .bool false] 33)).heap[w.heap.size]? = some (.cells #[.int .i64 p, .int .i64 e, .int .i64 s, .int .i64 h] 25) := kp_row (kp_alloc _ _) (MapKept.heap_alloc w (.cells #[.int .i64 p, .int .i64 e, .int .i64 s, .int .i64 h] 25)).1
  have hz0 : ((w.alloc (.cells #[.int .i64 p, .int .i64 e, .int .i64 s, .int .i64 h] 25)).alloc (.cells #[.int .i64 0, .int .i64 0, .int .i64 0, .int .i64 0, .int .i64 0, .int .i64 0, .int .i64 0, .bool false] 33)).heap[w.heap.size + 1]? = some (.cells #[.int .i64 0, .int .i64 0, .int .i64 0, .int .i64 0, .int .i64 0, .int .i64 0, .int .i64 0, .bool false] 33) := by have := (MapKept.heap_alloc (w.alloc (.cells #[.int .i64 p, .int .i64 e, .int .i64 s, .int .i64 h] 25)) (.cells #[.int .i64 0, .int .i64 0, .int .i64 0, .int .i64 0, .int .i64 0, .int .i64 0, .int .i64 0, .bool false] 33)).1; simpa using this
  have K1 := Lib.hid k0
  have R1 := Lib.hid hr0
  have Z1 := Lib.hid hz0
  obtain ⟨g0, g1, g2, g3⟩ := cells_4 R1.out
  clear k0 hr0 hz0
  clear hr hm
  subst h0 hd
  go_enter Tryd.func11, Tryd.ntmps11
  go_wp2_with (first | (go_at_call 17; (with_reducible refine (HRt.out _).mono ?_); rintro e' w2 ⟨rfl, hk⟩; have K2 := Lib.hid (Kp.trans K1.out hk); have R2 := Lib.hid (kp_row hk R1.out); have Z2 := Lib.hid (kp_row hk Z1.out); obtain ⟨j0, j1, j2, j3⟩ := cells_4 R2.out; obtain ⟨z0, z1, z2, z3, z4, z5, z6, z7⟩ := cells_8 Z2.out; have fz := frozN Z2.out; clear hk) | (go_at_call 34; (with_reducible refine (HL.out _).mono ?_); rintro e' w3 ⟨rfl, hk⟩; have hk3 := Kp.trans hk (kp_alloc w3 (.cells #[.int .i64 4, .int .i64 c1, .int .i64 c2] 74)); have K3 := Lib.hid (Kp.trans K2.out hk3); have R3 := Lib.hid (kp_row hk3 R2.out); have Z3 := Lib.hid (kp_row hk3 Z2.out); have B3 := Lib.hid (MapKept.heap_alloc w3 (.cells #[.int .i64 4, .int .i64 c1, .int .i64 c2] 74)).1; obtain ⟨l0, l1, l2⟩ := cells3 B3.out; obtain ⟨m0, m1, m2, m3⟩ := cells_4 R3.out; obtain ⟨y0, y1, y2, y3, y4, y5, y6, y7⟩ := cells_8 Z3.out; have fy := frozN Z3.out; clear hk hk3))
  refine bodyPost_ret (results_row_tmpT (p := 4) (u := 5) rfl _ _ (w.heap.size + 1) 33 _ (0, 0) _ rfl (set_8 _ _ _ _ _ _ _ _ Z3.out) Tryd.underlying33 rfl (by kernel_rfl)) rfl ?_; exact ⟨rfl, set_8_kp K3.out (Nat.le_succ _) _ _ _ _ _ _ _ _⟩
set_option maxRecDepth 100000 in
theorem refTell_13 (p e s h k : Int) (hr : SeatM.right ⟨p, e, s, h⟩ = true) (n c0 c1 c2 : Int) (hm : lookT p e k s = (n, c0, c1, c2)) (y : EffM) (hy : SeatM.moved ⟨p, e, s, h⟩ 14 1 13 = y) (h0 : n = 0) (b2 : (c0 == 2) = false) (b3 : (c0 == 3) = false) (b4 : (c0 == 4) = false) (he : e = 1) (hx : c1 = 13) (w : World) : Calls Tryd.prog 11 #[.agg #[.int .i64 p, .int .i64 e, .int .i64 s, .int .i64 h], .int .i64 k] w fun r w' => r = .returned (.tuple #[.agg (effV y), .int .i64 0]) ∧ Kp w w' := by
  have HRt := fun w => hr ▸ refRight_any ⟨p, e, s, h⟩ w
  dsimp only [seatV] at HRt
  replace HRt := Lib.hid HRt
  have HL := fun w => refLook_any p e k s w
  rw [hm] at HL
  dsimp only [cellV] at HL
  replace HL := Lib.hid HL
  have HM := fun w => refMoved_any ⟨p, e, s, h⟩ 14 1 13 y hy w
  dsimp only [seatV, effV] at HM ⊢
  replace HM := Lib.hid HM
  have k0 := Kp.trans (kp_alloc w (.cells #[.int .i64 p, .int .i64 e, .int .i64 s, .int .i64 h] 25)) (kp_alloc (w.alloc (.cells #[.int .i64 p, .int .i64 e, .int .i64 s, .int .i64 h] 25)) (.cells #[.int .i64 0, .int .i64 0, .int .i64 0, .int .i64 0, .int .i64 0, .int .i64 0, .int .i64 0, .bool false] 33))
  have hr0 : ((w.alloc (.cells #[.int .i64 p, .int .i64 e, .int .i64 s, .int .i64 h] 25)).alloc (.cells #[.int .i64 0, .int .i64 0, .int .i64 0, .int .i64 0, .int .i64 0, .int .i64 0, .int .i64 0, .bool false] 33)).heap[w.heap.size]? = some (.cells #[.int .i64 p, .int .i64 e, .int .i64 s, .int .i64 h] 25) := kp_row (kp_alloc _ _) (MapKept.heap_alloc w (.cells #[.int .i64 p, .int .i64 e, .int .i64 s, .int .i64 h] 25)).1
  have hz0 : ((w.alloc (.cells #[.int .i64 p, .int .i64 e, .int .i64 s, .int .i64 h] 25)).alloc (.cells #[.int .i64 0, .int .i64 0, .int .i64 0, .int .i64 0, .int .i64 0, .int .i64 0, .int .i64 0, .bool false] 33)).heap[w.heap.size + 1]? = some (.cells #[.int .i64 0, .int .i64 0, .int .i64 0, .int .i64 0, .int .i64 0, .int .i64 0, .int .i64 0, .bool false] 33) := by have := (MapKept.heap_alloc (w.alloc (.cells #[.int .i64 p, .int .i64 e, .int .i64 s, .int .i64 h] 25)) (.cells #[.int .i64 0, .int .i64 0, .int .i64 0, .int .i64 0, .int .i64 0, .int .i64 0, .int .i64 0, .bool false] 33)).1; simpa using this
  have K1 := Lib.hid k0
  have R1 := Lib.hid hr0
  have Z1 := Lib.hid hz0
  obtain ⟨g0, g1, g2, g3⟩ := cells_4 R1.out
  clear k0 hr0 hz0
  clear hr hm hy
  subst h0 he hx
  go_enter Tryd.func11, Tryd.ntmps11
  go_wp2_with (first | (go_at_call 17; (with_reducible refine (HRt.out _).mono ?_); rintro e' w2 ⟨rfl, hk⟩; have K2 := Lib.hid (Kp.trans K1.out hk); have R2 := Lib.hid (kp_row hk R1.out); have Z2 := Lib.hid (kp_row hk Z1.out); obtain ⟨j0, j1, j2, j3⟩ := cells_4 R2.out; obtain ⟨z0, z1, z2, z3, z4, z5, z6, z7⟩ := cells_8 Z2.out; have fz := frozN Z2.out; clear hk) | (go_at_call 34; (with_reducible refine (HL.out _).mono ?_); rintro e' w3 ⟨rfl, hk⟩; have hk3 := Kp.trans hk (kp_alloc w3 (.cells #[.int .i64 c0, .int .i64 13, .int .i64 c2] 74)); have K3 := Lib.hid (Kp.trans K2.out hk3); have R3 := Lib.hid (kp_row hk3 R2.out); have Z3 := Lib.hid (kp_row hk3 Z2.out); have B3 := Lib.hid (MapKept.heap_alloc w3 (.cells #[.int .i64 c0, .int .i64 13, .int .i64 c2] 74)).1; obtain ⟨l0, l1, l2⟩ := cells3 B3.out; obtain ⟨m0, m1, m2, m3⟩ := cells_4 R3.out; obtain ⟨y0, y1, y2, y3, y4, y5, y6, y7⟩ := cells_8 Z3.out; have fy := frozN Z3.out; clear hk hk3) | (go_at_call 35; (with_reducible refine (HM.out _).mono ?_); rintro e' w4 ⟨rfl, hk⟩; have K4 := Lib.hid (Kp.trans K3.out hk); have Z4 := Lib.hid (kp_row hk Z3.out); obtain ⟨x0, x1, x2, x3, x4, x5, x6, x7⟩ := cells_8 Z4.out; have fx := frozN Z4.out; clear hk))
  refine bodyPost_ret (results_row_tmpT (p := 4) (u := 5) rfl _ _ (w.heap.size + 1) 33 _ (0, 0) _ rfl (set_8 _ _ _ _ _ _ _ _ Z4.out) Tryd.underlying33 rfl (by kernel_rfl)) rfl ?_; exact ⟨rfl, set_8_kp K4.out (Nat.le_succ _) _ _ _ _ _ _ _ _⟩
set_option maxRecDepth 100000 in
theorem refTell_12 (p e s h k : Int) (hr : SeatM.right ⟨p, e, s, h⟩ = true) (n c0 c1 c2 : Int) (hm : lookT p e k s = (n, c0, c1, c2)) (y : EffM) (hy : SeatM.moved ⟨p, e, s, h⟩ 14 5 14 = y) (h0 : n = 0) (b2 : (c0 == 2) = false) (b3 : (c0 == 3) = false) (b4 : (c0 == 4) = false) (he : e = 1) (hx : c1 = 12) (w : World) : Calls Tryd.prog 11 #[.agg #[.int .i64 p, .int .i64 e, .int .i64 s, .int .i64 h], .int .i64 k] w fun r w' => r = .returned (.tuple #[.agg (effV y), .int .i64 0]) ∧ Kp w w' := by
  have HRt := fun w => hr ▸ refRight_any ⟨p, e, s, h⟩ w
  dsimp only [seatV] at HRt
  replace HRt := Lib.hid HRt
  have HL := fun w => refLook_any p e k s w
  rw [hm] at HL
  dsimp only [cellV] at HL
  replace HL := Lib.hid HL
  have HM := fun w => refMoved_any ⟨p, e, s, h⟩ 14 5 14 y hy w
  dsimp only [seatV, effV] at HM ⊢
  replace HM := Lib.hid HM
  have k0 := Kp.trans (kp_alloc w (.cells #[.int .i64 p, .int .i64 e, .int .i64 s, .int .i64 h] 25)) (kp_alloc (w.alloc (.cells #[.int .i64 p, .int .i64 e, .int .i64 s, .int .i64 h] 25)) (.cells #[.int .i64 0, .int .i64 0, .int .i64 0, .int .i64 0, .int .i64 0, .int .i64 0, .int .i64 0, .bool false] 33))
  have hr0 : ((w.alloc (.cells #[.int .i64 p, .int .i64 e, .int .i64 s, .int .i64 h] 25)).alloc (.cells #[.int .i64 0, .int .i64 0, .int .i64 0, .int .i64 0, .int .i64 0, .int .i64 0, .int .i64 0, .bool false] 33)).heap[w.heap.size]? = some (.cells #[.int .i64 p, .int .i64 e, .int .i64 s, .int .i64 h] 25) := kp_row (kp_alloc _ _) (MapKept.heap_alloc w (.cells #[.int .i64 p, .int .i64 e, .int .i64 s, .int .i64 h] 25)).1
  have hz0 : ((w.alloc (.cells #[.int .i64 p, .int .i64 e, .int .i64 s, .int .i64 h] 25)).alloc (.cells #[.int .i64 0, .int .i64 0, .int .i64 0, .int .i64 0, .int .i64 0, .int .i64 0, .int .i64 0, .bool false] 33)).heap[w.heap.size + 1]? = some (.cells #[.int .i64 0, .int .i64 0, .int .i64 0, .int .i64 0, .int .i64 0, .int .i64 0, .int .i64 0, .bool false] 33) := by have := (MapKept.heap_alloc (w.alloc (.cells #[.int .i64 p, .int .i64 e, .int .i64 s, .int .i64 h] 25)) (.cells #[.int .i64 0, .int .i64 0, .int .i64 0, .int .i64 0, .int .i64 0, .int .i64 0, .int .i64 0, .bool false] 33)).1; simpa using this
  have K1 := Lib.hid k0
  have R1 := Lib.hid hr0
  have Z1 := Lib.hid hz0
  obtain ⟨g0, g1, g2, g3⟩ := cells_4 R1.out
  clear k0 hr0 hz0
  clear hr hm hy
  subst h0 he hx
  go_enter Tryd.func11, Tryd.ntmps11
  go_wp2_with (first | (go_at_call 17; (with_reducible refine (HRt.out _).mono ?_); rintro e' w2 ⟨rfl, hk⟩; have K2 := Lib.hid (Kp.trans K1.out hk); have R2 := Lib.hid (kp_row hk R1.out); have Z2 := Lib.hid (kp_row hk Z1.out); obtain ⟨j0, j1, j2, j3⟩ := cells_4 R2.out; obtain ⟨z0, z1, z2, z3, z4, z5, z6, z7⟩ := cells_8 Z2.out; have fz := frozN Z2.out; clear hk) | (go_at_call 34; (with_reducible refine (HL.out _).mono ?_); rintro e' w3 ⟨rfl, hk⟩; have hk3 := Kp.trans hk (kp_alloc w3 (.cells #[.int .i64 c0, .int .i64 12, .int .i64 c2] 74)); have K3 := Lib.hid (Kp.trans K2.out hk3); have R3 := Lib.hid (kp_row hk3 R2.out); have Z3 := Lib.hid (kp_row hk3 Z2.out); have B3 := Lib.hid (MapKept.heap_alloc w3 (.cells #[.int .i64 c0, .int .i64 12, .int .i64 c2] 74)).1; obtain ⟨l0, l1, l2⟩ := cells3 B3.out; obtain ⟨m0, m1, m2, m3⟩ := cells_4 R3.out; obtain ⟨y0, y1, y2, y3, y4, y5, y6, y7⟩ := cells_8 Z3.out; have fy := frozN Z3.out; clear hk hk3) | (go_at_call 35; (with_reducible refine (HM.out _).mono ?_); rintro e' w4 ⟨rfl, hk⟩; have K4 := Lib.hid (Kp.trans K3.out hk); have Z4 := Lib.hid (kp_row hk Z3.out); obtain ⟨x0, x1, x2, x3, x4, x5, x6, x7⟩ := cells_8 Z4.out; have fx := frozN Z4.out; clear hk))
  refine bodyPost_ret (results_row_tmpT (p := 4) (u := 5) rfl _ _ (w.heap.size + 1) 33 _ (0, 0) _ rfl (set_8 _ _ _ _ _ _ _ _ Z4.out) Tryd.underlying33 rfl (by kernel_rfl)) rfl ?_; exact ⟨rfl, set_8_kp K4.out (Nat.le_succ _) _ _ _ _ _ _ _ _⟩
set_option maxRecDepth 100000 in
theorem refTell_8 (p e s h k : Int) (hr : SeatM.right ⟨p, e, s, h⟩ = true) (n c0 c1 c2 : Int) (hm : lookT p e k s = (n, c0, c1, c2)) (y : EffM) (hy : SeatM.moved ⟨p, e, s, h⟩ 14 4 12 = y) (h0 : n = 0) (b2 : (c0 == 2) = false) (b3 : (c0 == 3) = false) (b4 : (c0 == 4) = false) (he : e = 1) (x1 : (c1 == 13) = false) (x2 : (c1 == 12) = false) (x3 : decide (c1 ≥ 8) = true) (x4 : decide (c1 ≤ 11) = true) (w : World) : Calls Tryd.prog 11 #[.agg #[.int .i64 p, .int .i64 e, .int .i64 s, .int .i64 h], .int .i64 k] w fun r w' => r = .returned (.tuple #[.agg (effV y), .int .i64 0]) ∧ Kp w w' := by
  have HRt := fun w => hr ▸ refRight_any ⟨p, e, s, h⟩ w
  dsimp only [seatV] at HRt
  replace HRt := Lib.hid HRt
  have HL := fun w => refLook_any p e k s w
  rw [hm] at HL
  dsimp only [cellV] at HL
  replace HL := Lib.hid HL
  have HM := fun w => refMoved_any ⟨p, e, s, h⟩ 14 4 12 y hy w
  dsimp only [seatV, effV] at HM ⊢
  replace HM := Lib.hid HM
  have k0 := Kp.trans (kp_alloc w (.cells #[.int .i64 p, .int .i64 e, .int .i64 s, .int .i64 h] 25)) (kp_alloc (w.alloc (.cells #[.int .i64 p, .int .i64 e, .int .i64 s, .int .i64 h] 25)) (.cells #[.int .i64 0, .int .i64 0, .int .i64 0, .int .i64 0, .int .i64 0, .int .i64 0, .int .i64 0, .bool false] 33))
  have hr0 : ((w.alloc (.cells #[.int .i64 p, .int .i64 e, .int .i64 s, .int .i64 h] 25)).alloc (.cells #[.int .i64 0, .int .i64 0, .int .i64 0, .int .i64 0, .int .i64 0, .int .i64 0, .int .i64 0, .bool false] 33)).heap[w.heap.size]? = some (.cells #[.int .i64 p, .int .i64 e, .int .i64 s, .int .i64 h] 25) := kp_row (kp_alloc _ _) (MapKept.heap_alloc w (.cells #[.int .i64 p, .int .i64 e, .int .i64 s, .int .i64 h] 25)).1
  have hz0 : ((w.alloc (.cells #[.int .i64 p, .int .i64 e, .int .i64 s, .int .i64 h] 25)).alloc (.cells #[.int .i64 0, .int .i64 0, .int .i64 0, .int .i64 0, .int .i64 0, .int .i64 0, .int .i64 0, .bool false] 33)).heap[w.heap.size + 1]? = some (.cells #[.int .i64 0, .int .i64 0, .int .i64 0, .int .i64 0, .int .i64 0, .int .i64 0, .int .i64 0, .bool false] 33) := by have := (MapKept.heap_alloc (w.alloc (.cells #[.int .i64 p, .int .i64 e, .int .i64 s, .int .i64 h] 25)) (.cells #[.int .i64 0, .int .i64 0, .int .i64 0, .int .i64 0, .int .i64 0, .int .i64 0, .int .i64 0, .bool false] 33)).1; simpa using this
  have K1 := Lib.hid k0
  have R1 := Lib.hid hr0
  have Z1 := Lib.hid hz0
  obtain ⟨g0, g1, g2, g3⟩ := cells_4 R1.out
  clear k0 hr0 hz0
  clear hr hm hy
  subst h0 he
  go_enter Tryd.func11, Tryd.ntmps11
  go_wp2_with (first | (go_at_call 17; (with_reducible refine (HRt.out _).mono ?_); rintro e' w2 ⟨rfl, hk⟩; have K2 := Lib.hid (Kp.trans K1.out hk); have R2 := Lib.hid (kp_row hk R1.out); have Z2 := Lib.hid (kp_row hk Z1.out); obtain ⟨j0, j1, j2, j3⟩ := cells_4 R2.out; obtain ⟨z0, z1, z2, z3, z4, z5, z6, z7⟩ := cells_8 Z2.out; have fz := frozN Z2.out; clear hk) | (go_at_call 34; (with_reducible refine (HL.out _).mono ?_); rintro e' w3 ⟨rfl, hk⟩; have hk3 := Kp.trans hk (kp_alloc w3 (.cells #[.int .i64 c0, .int .i64 c1, .int .i64 c2] 74)); have K3 := Lib.hid (Kp.trans K2.out hk3); have R3 := Lib.hid (kp_row hk3 R2.out); have Z3 := Lib.hid (kp_row hk3 Z2.out); have B3 := Lib.hid (MapKept.heap_alloc w3 (.cells #[.int .i64 c0, .int .i64 c1, .int .i64 c2] 74)).1; obtain ⟨l0, l1, l2⟩ := cells3 B3.out; obtain ⟨m0, m1, m2, m3⟩ := cells_4 R3.out; obtain ⟨y0, y1, y2, y3, y4, y5, y6, y7⟩ := cells_8 Z3.out; have fy := frozN Z3.out; clear hk hk3) | (go_at_call 35; (with_reducible refine (HM.out _).mono ?_); rintro e' w4 ⟨rfl, hk⟩; have K4 := Lib.hid (Kp.trans K3.out hk); have Z4 := Lib.hid (kp_row hk Z3.out); obtain ⟨x0, x1, x2, x3, x4, x5, x6, x7⟩ := cells_8 Z4.out; have fx := frozN Z4.out; clear hk))
  refine bodyPost_ret (results_row_tmpT (p := 4) (u := 5) rfl _ _ (w.heap.size + 1) 33 _ (0, 0) _ rfl (set_8 _ _ _ _ _ _ _ _ Z4.out) Tryd.underlying33 rfl (by kernel_rfl)) rfl ?_; exact ⟨rfl, set_8_kp K4.out (Nat.le_succ _) _ _ _ _ _ _ _ _⟩
set_option maxRecDepth 100000 in
theorem refTell_c1 (p e s h k : Int) (hr : SeatM.right ⟨p, e, s, h⟩ = true) (n c0 c1 c2 : Int) (hm : lookT p e k s = (n, c0, c1, c2)) (y : EffM) (hy : SeatM.moved ⟨p, e, s, h⟩ c1 k 0 = y) (h0 : n = 0) (b2 : (c0 == 2) = false) (b3 : (c0 == 3) = false) (b4 : (c0 == 4) = false) (he : e = 1) (x1 : (c1 == 13) = false) (x2 : (c1 == 12) = false) (x3 : decide (c1 ≥ 8) = false) (w : World) : Calls Tryd.prog 11 #[.agg #[.int .i64 p, .int .i64 e, .int .i64 s, .int .i64 h], .int .i64 k] w fun r w' => r = .returned (.tuple #[.agg (effV y), .int .i64 0]) ∧ Kp w w' := by
  have HRt := fun w => hr ▸ refRight_any ⟨p, e, s, h⟩ w
  dsimp only [seatV] at HRt
  replace HRt := Lib.hid HRt
  have HL := fun w => refLook_any p e k s w
  rw [hm] at HL
  dsimp only [cellV] at HL
  replace HL := Lib.hid HL
  have HM := fun w => refMoved_any ⟨p, e, s, h⟩ c1 k 0 y hy w
  dsimp only [seatV, effV] at HM ⊢
  replace HM := Lib.hid HM
  have k0 := Kp.trans (kp_alloc w (.cells #[.int .i64 p, .int .i64 e, .int .i64 s, .int .i64 h] 25)) (kp_alloc (w.alloc (.cells #[.int .i64 p, .int .i64 e, .int .i64 s, .int .i64 h] 25)) (.cells #[.int .i64 0, .int .i64 0, .int .i64 0, .int .i64 0, .int .i64 0, .int .i64 0, .int .i64 0, .bool false] 33))
  have hr0 : ((w.alloc (.cells #[.int .i64 p, .int .i64 e, .int .i64 s, .int .i64 h] 25)).alloc (.cells #[.int .i64 0, .int .i64 0, .int .i64 0, .int .i64 0, .int .i64 0, .int .i64 0, .int .i64 0, .bool false] 33)).heap[w.heap.size]? = some (.cells #[.int .i64 p, .int .i64 e, .int .i64 s, .int .i64 h] 25) := kp_row (kp_alloc _ _) (MapKept.heap_alloc w (.cells #[.int .i64 p, .int .i64 e, .int .i64 s, .int .i64 h] 25)).1
  have hz0 : ((w.alloc (.cells #[.int .i64 p, .int .i64 e, .int .i64 s, .int .i64 h] 25)).alloc (.cells #[.int .i64 0, .int .i64 0, .int .i64 0, .int .i64 0, .int .i64 0, .int .i64 0, .int .i64 0, .bool false] 33)).heap[w.heap.size + 1]? = some (.cells #[.int .i64 0, .int .i64 0, .int .i64 0, .int .i64 0, .int .i64 0, .int .i64 0, .int .i64 0, .bool false] 33) := by have := (MapKept.heap_alloc (w.alloc (.cells #[.int .i64 p, .int .i64 e, .int .i64 s, .int .i64 h] 25)) (.cells #[.int .i64 0, .int .i64 0, .int .i64 0, .int .i64 0, .int .i64 0, .int .i64 0, .int .i64 0, .bool false] 33)).1; simpa using this
  have K1 := Lib.hid k0
  have R1 := Lib.hid hr0
  have Z1 := Lib.hid hz0
  obtain ⟨g0, g1, g2, g3⟩ := cells_4 R1.out
  clear k0 hr0 hz0
  clear hr hm hy
  subst h0 he
  go_enter Tryd.func11, Tryd.ntmps11
  go_wp2_with (first | (go_at_call 17; (with_reducible refine (HRt.out _).mono ?_); rintro e' w2 ⟨rfl, hk⟩; have K2 := Lib.hid (Kp.trans K1.out hk); have R2 := Lib.hid (kp_row hk R1.out); have Z2 := Lib.hid (kp_row hk Z1.out); obtain ⟨j0, j1, j2, j3⟩ := cells_4 R2.out; obtain ⟨z0, z1, z2, z3, z4, z5, z6, z7⟩ := cells_8 Z2.out; have fz := frozN Z2.out; clear hk) | (go_at_call 34; (with_reducible refine (HL.out _).mono ?_); rintro e' w3 ⟨rfl, hk⟩; have hk3 := Kp.trans hk (kp_alloc w3 (.cells #[.int .i64 c0, .int .i64 c1, .int .i64 c2] 74)); have K3 := Lib.hid (Kp.trans K2.out hk3); have R3 := Lib.hid (kp_row hk3 R2.out); have Z3 := Lib.hid (kp_row hk3 Z2.out); have B3 := Lib.hid (MapKept.heap_alloc w3 (.cells #[.int .i64 c0, .int .i64 c1, .int .i64 c2] 74)).1; obtain ⟨l0, l1, l2⟩ := cells3 B3.out; obtain ⟨m0, m1, m2, m3⟩ := cells_4 R3.out; obtain ⟨y0, y1, y2, y3, y4, y5, y6, y7⟩ := cells_8 Z3.out; have fy := frozN Z3.out; clear hk hk3) | (go_at_call 35; (with_reducible refine (HM.out _).mono ?_); rintro e' w4 ⟨rfl, hk⟩; have K4 := Lib.hid (Kp.trans K3.out hk); have Z4 := Lib.hid (kp_row hk Z3.out); obtain ⟨x0, x1, x2, x3, x4, x5, x6, x7⟩ := cells_8 Z4.out; have fx := frozN Z4.out; clear hk))
  refine bodyPost_ret (results_row_tmpT (p := 4) (u := 5) rfl _ _ (w.heap.size + 1) 33 _ (0, 0) _ rfl (set_8 _ _ _ _ _ _ _ _ Z4.out) Tryd.underlying33 rfl (by kernel_rfl)) rfl ?_; exact ⟨rfl, set_8_kp K4.out (Nat.le_succ _) _ _ _ _ _ _ _ _⟩
set_option maxRecDepth 100000 in
theorem refTell_c2 (p e s h k : Int) (hr : SeatM.right ⟨p, e, s, h⟩ = true) (n c0 c1 c2 : Int) (hm : lookT p e k s = (n, c0, c1, c2)) (y : EffM) (hy : SeatM.moved ⟨p, e, s, h⟩ c1 k 0 = y) (h0 : n = 0) (b2 : (c0 == 2) = false) (b3 : (c0 == 3) = false) (b4 : (c0 == 4) = false) (he : e = 1) (x1 : (c1 == 13) = false) (x2 : (c1 == 12) = false) (x3 : decide (c1 ≥ 8) = true) (x4 : decide (c1 ≤ 11) = false) (w : World) : Calls Tryd.prog 11 #[.agg #[.int .i64 p, .int .i64 e, .int .i64 s, .int .i64 h], .int .i64 k] w fun r w' => r = .returned (.tuple #[.agg (effV y), .int .i64 0]) ∧ Kp w w' := by
  have HRt := fun w => hr ▸ refRight_any ⟨p, e, s, h⟩ w
  dsimp only [seatV] at HRt
  replace HRt := Lib.hid HRt
  have HL := fun w => refLook_any p e k s w
  rw [hm] at HL
  dsimp only [cellV] at HL
  replace HL := Lib.hid HL
  have HM := fun w => refMoved_any ⟨p, e, s, h⟩ c1 k 0 y hy w
  dsimp only [seatV, effV] at HM ⊢
  replace HM := Lib.hid HM
  have k0 := Kp.trans (kp_alloc w (.cells #[.int .i64 p, .int .i64 e, .int .i64 s, .int .i64 h] 25)) (kp_alloc (w.alloc (.cells #[.int .i64 p, .int .i64 e, .int .i64 s, .int .i64 h] 25)) (.cells #[.int .i64 0, .int .i64 0, .int .i64 0, .int .i64 0, .int .i64 0, .int .i64 0, .int .i64 0, .bool false] 33))
  have hr0 : ((w.alloc (.cells #[.int .i64 p, .int .i64 e, .int .i64 s, .int .i64 h] 25)).alloc (.cells #[.int .i64 0, .int .i64 0, .int .i64 0, .int .i64 0, .int .i64 0, .int .i64 0, .int .i64 0, .bool false] 33)).heap[w.heap.size]? = some (.cells #[.int .i64 p, .int .i64 e, .int .i64 s, .int .i64 h] 25) := kp_row (kp_alloc _ _) (MapKept.heap_alloc w (.cells #[.int .i64 p, .int .i64 e, .int .i64 s, .int .i64 h] 25)).1
  have hz0 : ((w.alloc (.cells #[.int .i64 p, .int .i64 e, .int .i64 s, .int .i64 h] 25)).alloc (.cells #[.int .i64 0, .int .i64 0, .int .i64 0, .int .i64 0, .int .i64 0, .int .i64 0, .int .i64 0, .bool false] 33)).heap[w.heap.size + 1]? = some (.cells #[.int .i64 0, .int .i64 0, .int .i64 0, .int .i64 0, .int .i64 0, .int .i64 0, .int .i64 0, .bool false] 33) := by have := (MapKept.heap_alloc (w.alloc (.cells #[.int .i64 p, .int .i64 e, .int .i64 s, .int .i64 h] 25)) (.cells #[.int .i64 0, .int .i64 0, .int .i64 0, .int .i64 0, .int .i64 0, .int .i64 0, .int .i64 0, .bool false] 33)).1; simpa using this
  have K1 := Lib.hid k0
  have R1 := Lib.hid hr0
  have Z1 := Lib.hid hz0
  obtain ⟨g0, g1, g2, g3⟩ := cells_4 R1.out
  clear k0 hr0 hz0
  clear hr hm hy
  subst h0 he
  go_enter Tryd.func11, Tryd.ntmps11
  go_wp2_with (first | (go_at_call 17; (with_reducible refine (HRt.out _).mono ?_); rintro e' w2 ⟨rfl, hk⟩; have K2 := Lib.hid (Kp.trans K1.out hk); have R2 := Lib.hid (kp_row hk R1.out); have Z2 := Lib.hid (kp_row hk Z1.out); obtain ⟨j0, j1, j2, j3⟩ := cells_4 R2.out; obtain ⟨z0, z1, z2, z3, z4, z5, z6, z7⟩ := cells_8 Z2.out; have fz := frozN Z2.out; clear hk) | (go_at_call 34; (with_reducible refine (HL.out _).mono ?_); rintro e' w3 ⟨rfl, hk⟩; have hk3 := Kp.trans hk (kp_alloc w3 (.cells #[.int .i64 c0, .int .i64 c1, .int .i64 c2] 74)); have K3 := Lib.hid (Kp.trans K2.out hk3); have R3 := Lib.hid (kp_row hk3 R2.out); have Z3 := Lib.hid (kp_row hk3 Z2.out); have B3 := Lib.hid (MapKept.heap_alloc w3 (.cells #[.int .i64 c0, .int .i64 c1, .int .i64 c2] 74)).1; obtain ⟨l0, l1, l2⟩ := cells3 B3.out; obtain ⟨m0, m1, m2, m3⟩ := cells_4 R3.out; obtain ⟨y0, y1, y2, y3, y4, y5, y6, y7⟩ := cells_8 Z3.out; have fy := frozN Z3.out; clear hk hk3) | (go_at_call 35; (with_reducible refine (HM.out _).mono ?_); rintro e' w4 ⟨rfl, hk⟩; have K4 := Lib.hid (Kp.trans K3.out hk); have Z4 := Lib.hid (kp_row hk Z3.out); obtain ⟨x0, x1, x2, x3, x4, x5, x6, x7⟩ := cells_8 Z4.out; have fx := frozN Z4.out; clear hk))
  refine bodyPost_ret (results_row_tmpT (p := 4) (u := 5) rfl _ _ (w.heap.size + 1) 33 _ (0, 0) _ rfl (set_8 _ _ _ _ _ _ _ _ Z4.out) Tryd.underlying33 rfl (by kernel_rfl)) rfl ?_; exact ⟨rfl, set_8_kp K4.out (Nat.le_succ _) _ _ _ _ _ _ _ _⟩
set_option maxRecDepth 100000 in
theorem refTell_x12 (p e s h k : Int) (hr : SeatM.right ⟨p, e, s, h⟩ = true) (n c0 c1 c2 : Int) (hm : lookT p e k s = (n, c0, c1, c2)) (y : EffM) (hy : SeatM.moved ⟨p, e, s, h⟩ c1 4 0 = y) (h0 : n = 0) (b2 : (c0 == 2) = false) (b3 : (c0 == 3) = false) (b4 : (c0 == 4) = false) (he : (e == 1) = false) (hk : k = 12) (w : World) : Calls Tryd.prog 11 #[.agg #[.int .i64 p, .int .i64 e, .int .i64 s, .int .i64 h], .int .i64 k] w fun r w' => r = .returned (.tuple #[.agg (effV y), .int .i64 0]) ∧ Kp w w' := by
  have HRt := fun w => hr ▸ refRight_any ⟨p, e, s, h⟩ w
  dsimp only [seatV] at HRt
  replace HRt := Lib.hid HRt
  have HL := fun w => refLook_any p e k s w
  rw [hm] at HL
  dsimp only [cellV] at HL
  replace HL := Lib.hid HL
  have HM := fun w => refMoved_any ⟨p, e, s, h⟩ c1 4 0 y hy w
  dsimp only [seatV, effV] at HM ⊢
  replace HM := Lib.hid HM
  have k0 := Kp.trans (kp_alloc w (.cells #[.int .i64 p, .int .i64 e, .int .i64 s, .int .i64 h] 25)) (kp_alloc (w.alloc (.cells #[.int .i64 p, .int .i64 e, .int .i64 s, .int .i64 h] 25)) (.cells #[.int .i64 0, .int .i64 0, .int .i64 0, .int .i64 0, .int .i64 0, .int .i64 0, .int .i64 0, .bool false] 33))
  have hr0 : ((w.alloc (.cells #[.int .i64 p, .int .i64 e, .int .i64 s, .int .i64 h] 25)).alloc (.cells #[.int .i64 0, .int .i64 0, .int .i64 0, .int .i64 0, .int .i64 0, .int .i64 0, .int .i64 0, .bool false] 33)).heap[w.heap.size]? = some (.cells #[.int .i64 p, .int .i64 e, .int .i64 s, .int .i64 h] 25) := kp_row (kp_alloc _ _) (MapKept.heap_alloc w (.cells #[.int .i64 p, .int .i64 e, .int .i64 s, .int .i64 h] 25)).1
  have hz0 : ((w.alloc (.cells #[.int .i64 p, .int .i64 e, .int .i64 s, .int .i64 h] 25)).alloc (.cells #[.int .i64 0, .int .i64 0, .int .i64 0, .int .i64 0, .int .i64 0, .int .i64 0, .int .i64 0, .bool false] 33)).heap[w.heap.size + 1]? = some (.cells #[.int .i64 0, .int .i64 0, .int .i64 0, .int .i64 0, .int .i64 0, .int .i64 0, .int .i64 0, .bool false] 33) := by have := (MapKept.heap_alloc (w.alloc (.cells #[.int .i64 p, .int .i64 e, .int .i64 s, .int .i64 h] 25)) (.cells #[.int .i64 0, .int .i64 0, .int .i64 0, .int .i64 0, .int .i64 0, .int .i64 0, .int .i64 0, .bool false] 33)).1; simpa using this
  have K1 := Lib.hid k0
  have R1 := Lib.hid hr0
  have Z1 := Lib.hid hz0
  obtain ⟨g0, g1, g2, g3⟩ := cells_4 R1.out
  clear k0 hr0 hz0
  clear hr hm hy
  subst h0 hk
  go_enter Tryd.func11, Tryd.ntmps11
  go_wp2_with (first | (go_at_call 17; (with_reducible refine (HRt.out _).mono ?_); rintro e' w2 ⟨rfl, hk⟩; have K2 := Lib.hid (Kp.trans K1.out hk); have R2 := Lib.hid (kp_row hk R1.out); have Z2 := Lib.hid (kp_row hk Z1.out); obtain ⟨j0, j1, j2, j3⟩ := cells_4 R2.out; obtain ⟨z0, z1, z2, z3, z4, z5, z6, z7⟩ := cells_8 Z2.out; have fz := frozN Z2.out; clear hk) | (go_at_call 34; (with_reducible refine (HL.out _).mono ?_); rintro e' w3 ⟨rfl, hk⟩; have hk3 := Kp.trans hk (kp_alloc w3 (.cells #[.int .i64 c0, .int .i64 c1, .int .i64 c2] 74)); have K3 := Lib.hid (Kp.trans K2.out hk3); have R3 := Lib.hid (kp_row hk3 R2.out); have Z3 := Lib.hid (kp_row hk3 Z2.out); have B3 := Lib.hid (MapKept.heap_alloc w3 (.cells #[.int .i64 c0, .int .i64 c1, .int .i64 c2] 74)).1; obtain ⟨l0, l1, l2⟩ := cells3 B3.out; obtain ⟨m0, m1, m2, m3⟩ := cells_4 R3.out; obtain ⟨y0, y1, y2, y3, y4, y5, y6, y7⟩ := cells_8 Z3.out; have fy := frozN Z3.out; clear hk hk3) | (go_at_call 35; (with_reducible refine (HM.out _).mono ?_); rintro e' w4 ⟨rfl, hk⟩; have K4 := Lib.hid (Kp.trans K3.out hk); have Z4 := Lib.hid (kp_row hk Z3.out); obtain ⟨x0, x1, x2, x3, x4, x5, x6, x7⟩ := cells_8 Z4.out; have fx := frozN Z4.out; clear hk))
  refine bodyPost_ret (results_row_tmpT (p := 4) (u := 5) rfl _ _ (w.heap.size + 1) 33 _ (0, 0) _ rfl (set_8 _ _ _ _ _ _ _ _ Z4.out) Tryd.underlying33 rfl (by kernel_rfl)) rfl ?_; exact ⟨rfl, set_8_kp K4.out (Nat.le_succ _) _ _ _ _ _ _ _ _⟩
set_option maxRecDepth 100000 in
theorem refTell_x13 (p e s h k : Int) (hr : SeatM.right ⟨p, e, s, h⟩ = true) (n c0 c1 c2 : Int) (hm : lookT p e k s = (n, c0, c1, c2)) (y : EffM) (hy : SeatM.moved ⟨p, e, s, h⟩ c1 1 0 = y) (h0 : n = 0) (b2 : (c0 == 2) = false) (b3 : (c0 == 3) = false) (b4 : (c0 == 4) = false) (he : (e == 1) = false) (hk : k = 13) (w : World) : Calls Tryd.prog 11 #[.agg #[.int .i64 p, .int .i64 e, .int .i64 s, .int .i64 h], .int .i64 k] w fun r w' => r = .returned (.tuple #[.agg (effV y), .int .i64 0]) ∧ Kp w w' := by
  have HRt := fun w => hr ▸ refRight_any ⟨p, e, s, h⟩ w
  dsimp only [seatV] at HRt
  replace HRt := Lib.hid HRt
  have HL := fun w => refLook_any p e k s w
  rw [hm] at HL
  dsimp only [cellV] at HL
  replace HL := Lib.hid HL
  have HM := fun w => refMoved_any ⟨p, e, s, h⟩ c1 1 0 y hy w
  dsimp only [seatV, effV] at HM ⊢
  replace HM := Lib.hid HM
  have k0 := Kp.trans (kp_alloc w (.cells #[.int .i64 p, .int .i64 e, .int .i64 s, .int .i64 h] 25)) (kp_alloc (w.alloc (.cells #[.int .i64 p, .int .i64 e, .int .i64 s, .int .i64 h] 25)) (.cells #[.int .i64 0, .int .i64 0, .int .i64 0, .int .i64 0, .int .i64 0, .int .i64 0, .int .i64 0, .bool false] 33))
  have hr0 : ((w.alloc (.cells #[.int .i64 p, .int .i64 e, .int .i64 s, .int .i64 h] 25)).alloc (.cells #[.int .i64 0, .int .i64 0, .int .i64 0, .int .i64 0, .int .i64 0, .int .i64 0, .int .i64 0, .bool false] 33)).heap[w.heap.size]? = some (.cells #[.int .i64 p, .int .i64 e, .int .i64 s, .int .i64 h] 25) := kp_row (kp_alloc _ _) (MapKept.heap_alloc w (.cells #[.int .i64 p, .int .i64 e, .int .i64 s, .int .i64 h] 25)).1
  have hz0 : ((w.alloc (.cells #[.int .i64 p, .int .i64 e, .int .i64 s, .int .i64 h] 25)).alloc (.cells #[.int .i64 0, .int .i64 0, .int .i64 0, .int .i64 0, .int .i64 0, .int .i64 0, .int .i64 0, .bool false] 33)).heap[w.heap.size + 1]? = some (.cells #[.int .i64 0, .int .i64 0, .int .i64 0, .int .i64 0, .int .i64 0, .int .i64 0, .int .i64 0, .bool false] 33) := by have := (MapKept.heap_alloc (w.alloc (.cells #[.int .i64 p, .int .i64 e, .int .i64 s, .int .i64 h] 25)) (.cells #[.int .i64 0, .int .i64 0, .int .i64 0, .int .i64 0, .int .i64 0, .int .i64 0, .int .i64 0, .bool false] 33)).1; simpa using this
  have K1 := Lib.hid k0
  have R1 := Lib.hid hr0
  have Z1 := Lib.hid hz0
  obtain ⟨g0, g1, g2, g3⟩ := cells_4 R1.out
  clear k0 hr0 hz0
  clear hr hm hy
  subst h0 hk
  go_enter Tryd.func11, Tryd.ntmps11
  go_wp2_with (first | (go_at_call 17; (with_reducible refine (HRt.out _).mono ?_); rintro e' w2 ⟨rfl, hk⟩; have K2 := Lib.hid (Kp.trans K1.out hk); have R2 := Lib.hid (kp_row hk R1.out); have Z2 := Lib.hid (kp_row hk Z1.out); obtain ⟨j0, j1, j2, j3⟩ := cells_4 R2.out; obtain ⟨z0, z1, z2, z3, z4, z5, z6, z7⟩ := cells_8 Z2.out; have fz := frozN Z2.out; clear hk) | (go_at_call 34; (with_reducible refine (HL.out _).mono ?_); rintro e' w3 ⟨rfl, hk⟩; have hk3 := Kp.trans hk (kp_alloc w3 (.cells #[.int .i64 c0, .int .i64 c1, .int .i64 c2] 74)); have K3 := Lib.hid (Kp.trans K2.out hk3); have R3 := Lib.hid (kp_row hk3 R2.out); have Z3 := Lib.hid (kp_row hk3 Z2.out); have B3 := Lib.hid (MapKept.heap_alloc w3 (.cells #[.int .i64 c0, .int .i64 c1, .int .i64 c2] 74)).1; obtain ⟨l0, l1, l2⟩ := cells3 B3.out; obtain ⟨m0, m1, m2, m3⟩ := cells_4 R3.out; obtain ⟨y0, y1, y2, y3, y4, y5, y6, y7⟩ := cells_8 Z3.out; have fy := frozN Z3.out; clear hk hk3) | (go_at_call 35; (with_reducible refine (HM.out _).mono ?_); rintro e' w4 ⟨rfl, hk⟩; have K4 := Lib.hid (Kp.trans K3.out hk); have Z4 := Lib.hid (kp_row hk Z3.out); obtain ⟨x0, x1, x2, x3, x4, x5, x6, x7⟩ := cells_8 Z4.out; have fx := frozN Z4.out; clear hk))
  refine bodyPost_ret (results_row_tmpT (p := 4) (u := 5) rfl _ _ (w.heap.size + 1) 33 _ (0, 0) _ rfl (set_8 _ _ _ _ _ _ _ _ Z4.out) Tryd.underlying33 rfl (by kernel_rfl)) rfl ?_; exact ⟨rfl, set_8_kp K4.out (Nat.le_succ _) _ _ _ _ _ _ _ _⟩
set_option maxRecDepth 100000 in
theorem refTell_x14 (p e s h k : Int) (hr : SeatM.right ⟨p, e, s, h⟩ = true) (n c0 c1 c2 : Int) (hm : lookT p e k s = (n, c0, c1, c2)) (y : EffM) (hy : SeatM.moved ⟨p, e, s, h⟩ c1 5 0 = y) (h0 : n = 0) (b2 : (c0 == 2) = false) (b3 : (c0 == 3) = false) (b4 : (c0 == 4) = false) (he : (e == 1) = false) (hk : k = 14) (w : World) : Calls Tryd.prog 11 #[.agg #[.int .i64 p, .int .i64 e, .int .i64 s, .int .i64 h], .int .i64 k] w fun r w' => r = .returned (.tuple #[.agg (effV y), .int .i64 0]) ∧ Kp w w' := by
  have HRt := fun w => hr ▸ refRight_any ⟨p, e, s, h⟩ w
  dsimp only [seatV] at HRt
  replace HRt := Lib.hid HRt
  have HL := fun w => refLook_any p e k s w
  rw [hm] at HL
  dsimp only [cellV] at HL
  replace HL := Lib.hid HL
  have HM := fun w => refMoved_any ⟨p, e, s, h⟩ c1 5 0 y hy w
  dsimp only [seatV, effV] at HM ⊢
  replace HM := Lib.hid HM
  have k0 := Kp.trans (kp_alloc w (.cells #[.int .i64 p, .int .i64 e, .int .i64 s, .int .i64 h] 25)) (kp_alloc (w.alloc (.cells #[.int .i64 p, .int .i64 e, .int .i64 s, .int .i64 h] 25)) (.cells #[.int .i64 0, .int .i64 0, .int .i64 0, .int .i64 0, .int .i64 0, .int .i64 0, .int .i64 0, .bool false] 33))
  have hr0 : ((w.alloc (.cells #[.int .i64 p, .int .i64 e, .int .i64 s, .int .i64 h] 25)).alloc (.cells #[.int .i64 0, .int .i64 0, .int .i64 0, .int .i64 0, .int .i64 0, .int .i64 0, .int .i64 0, .bool false] 33)).heap[w.heap.size]? = some (.cells #[.int .i64 p, .int .i64 e, .int .i64 s, .int .i64 h] 25) := kp_row (kp_alloc _ _) (MapKept.heap_alloc w (.cells #[.int .i64 p, .int .i64 e, .int .i64 s, .int .i64 h] 25)).1
  have hz0 : ((w.alloc (.cells #[.int .i64 p, .int .i64 e, .int .i64 s, .int .i64 h] 25)).alloc (.cells #[.int .i64 0, .int .i64 0, .int .i64 0, .int .i64 0, .int .i64 0, .int .i64 0, .int .i64 0, .bool false] 33)).heap[w.heap.size + 1]? = some (.cells #[.int .i64 0, .int .i64 0, .int .i64 0, .int .i64 0, .int .i64 0, .int .i64 0, .int .i64 0, .bool false] 33) := by have := (MapKept.heap_alloc (w.alloc (.cells #[.int .i64 p, .int .i64 e, .int .i64 s, .int .i64 h] 25)) (.cells #[.int .i64 0, .int .i64 0, .int .i64 0, .int .i64 0, .int .i64 0, .int .i64 0, .int .i64 0, .bool false] 33)).1; simpa using this
  have K1 := Lib.hid k0
  have R1 := Lib.hid hr0
  have Z1 := Lib.hid hz0
  obtain ⟨g0, g1, g2, g3⟩ := cells_4 R1.out
  clear k0 hr0 hz0
  clear hr hm hy
  subst h0 hk
  go_enter Tryd.func11, Tryd.ntmps11
  go_wp2_with (first | (go_at_call 17; (with_reducible refine (HRt.out _).mono ?_); rintro e' w2 ⟨rfl, hk⟩; have K2 := Lib.hid (Kp.trans K1.out hk); have R2 := Lib.hid (kp_row hk R1.out); have Z2 := Lib.hid (kp_row hk Z1.out); obtain ⟨j0, j1, j2, j3⟩ := cells_4 R2.out; obtain ⟨z0, z1, z2, z3, z4, z5, z6, z7⟩ := cells_8 Z2.out; have fz := frozN Z2.out; clear hk) | (go_at_call 34; (with_reducible refine (HL.out _).mono ?_); rintro e' w3 ⟨rfl, hk⟩; have hk3 := Kp.trans hk (kp_alloc w3 (.cells #[.int .i64 c0, .int .i64 c1, .int .i64 c2] 74)); have K3 := Lib.hid (Kp.trans K2.out hk3); have R3 := Lib.hid (kp_row hk3 R2.out); have Z3 := Lib.hid (kp_row hk3 Z2.out); have B3 := Lib.hid (MapKept.heap_alloc w3 (.cells #[.int .i64 c0, .int .i64 c1, .int .i64 c2] 74)).1; obtain ⟨l0, l1, l2⟩ := cells3 B3.out; obtain ⟨m0, m1, m2, m3⟩ := cells_4 R3.out; obtain ⟨y0, y1, y2, y3, y4, y5, y6, y7⟩ := cells_8 Z3.out; have fy := frozN Z3.out; clear hk hk3) | (go_at_call 35; (with_reducible refine (HM.out _).mono ?_); rintro e' w4 ⟨rfl, hk⟩; have K4 := Lib.hid (Kp.trans K3.out hk); have Z4 := Lib.hid (kp_row hk Z3.out); obtain ⟨x0, x1, x2, x3, x4, x5, x6, x7⟩ := cells_8 Z4.out; have fx := frozN Z4.out; clear hk))
  refine bodyPost_ret (results_row_tmpT (p := 4) (u := 5) rfl _ _ (w.heap.size + 1) 33 _ (0, 0) _ rfl (set_8 _ _ _ _ _ _ _ _ Z4.out) Tryd.underlying33 rfl (by kernel_rfl)) rfl ?_; exact ⟨rfl, set_8_kp K4.out (Nat.le_succ _) _ _ _ _ _ _ _ _⟩
set_option maxRecDepth 100000 in
theorem refTell_x (p e s h k : Int) (hr : SeatM.right ⟨p, e, s, h⟩ = true) (n c0 c1 c2 : Int) (hm : lookT p e k s = (n, c0, c1, c2)) (y : EffM) (hy : SeatM.moved ⟨p, e, s, h⟩ c1 0 0 = y) (h0 : n = 0) (b2 : (c0 == 2) = false) (b3 : (c0 == 3) = false) (b4 : (c0 == 4) = false) (he : (e == 1) = false) (k1 : (k == 12) = false) (k2 : (k == 13) = false) (k3 : (k == 14) = false) (w : World) : Calls Tryd.prog 11 #[.agg #[.int .i64 p, .int .i64 e, .int .i64 s, .int .i64 h], .int .i64 k] w fun r w' => r = .returned (.tuple #[.agg (effV y), .int .i64 0]) ∧ Kp w w' := by
  have HRt := fun w => hr ▸ refRight_any ⟨p, e, s, h⟩ w
  dsimp only [seatV] at HRt
  replace HRt := Lib.hid HRt
  have HL := fun w => refLook_any p e k s w
  rw [hm] at HL
  dsimp only [cellV] at HL
  replace HL := Lib.hid HL
  have HM := fun w => refMoved_any ⟨p, e, s, h⟩ c1 0 0 y hy w
  dsimp only [seatV, effV] at HM ⊢
  replace HM := Lib.hid HM
  have k0 := Kp.trans (kp_alloc w (.cells #[.int .i64 p, .int .i64 e, .int .i64 s, .int .i64 h] 25)) (kp_alloc (w.alloc (.cells #[.int .i64 p, .int .i64 e, .int .i64 s, .int .i64 h] 25)) (.cells #[.int .i64 0, .int .i64 0, .int .i64 0, .int .i64 0, .int .i64 0, .int .i64 0, .int .i64 0, .bool false] 33))
  have hr0 : ((w.alloc (.cells #[.int .i64 p, .int .i64 e, .int .i64 s, .int .i64 h] 25)).alloc (.cells #[.int .i64 0, .int .i64 0, .int .i64 0, .int .i64 0, .int .i64 0, .int .i64 0, .int .i64 0, .bool false] 33)).heap[w.heap.size]? = some (.cells #[.int .i64 p, .int .i64 e, .int .i64 s, .int .i64 h] 25) := kp_row (kp_alloc _ _) (MapKept.heap_alloc w (.cells #[.int .i64 p, .int .i64 e, .int .i64 s, .int .i64 h] 25)).1
  have hz0 : ((w.alloc (.cells #[.int .i64 p, .int .i64 e, .int .i64 s, .int .i64 h] 25)).alloc (.cells #[.int .i64 0, .int .i64 0, .int .i64 0, .int .i64 0, .int .i64 0, .int .i64 0, .int .i64 0, .bool false] 33)).heap[w.heap.size + 1]? = some (.cells #[.int .i64 0, .int .i64 0, .int .i64 0, .int .i64 0, .int .i64 0, .int .i64 0, .int .i64 0, .bool false] 33) := by have := (MapKept.heap_alloc (w.alloc (.cells #[.int .i64 p, .int .i64 e, .int .i64 s, .int .i64 h] 25)) (.cells #[.int .i64 0, .int .i64 0, .int .i64 0, .int .i64 0, .int .i64 0, .int .i64 0, .int .i64 0, .bool false] 33)).1; simpa using this
  have K1 := Lib.hid k0
  have R1 := Lib.hid hr0
  have Z1 := Lib.hid hz0
  obtain ⟨g0, g1, g2, g3⟩ := cells_4 R1.out
  clear k0 hr0 hz0
  clear hr hm hy
  subst h0
  go_enter Tryd.func11, Tryd.ntmps11
  go_wp2_with (first | (go_at_call 17; (with_reducible refine (HRt.out _).mono ?_); rintro e' w2 ⟨rfl, hk⟩; have K2 := Lib.hid (Kp.trans K1.out hk); have R2 := Lib.hid (kp_row hk R1.out); have Z2 := Lib.hid (kp_row hk Z1.out); obtain ⟨j0, j1, j2, j3⟩ := cells_4 R2.out; obtain ⟨z0, z1, z2, z3, z4, z5, z6, z7⟩ := cells_8 Z2.out; have fz := frozN Z2.out; clear hk) | (go_at_call 34; (with_reducible refine (HL.out _).mono ?_); rintro e' w3 ⟨rfl, hk⟩; have hk3 := Kp.trans hk (kp_alloc w3 (.cells #[.int .i64 c0, .int .i64 c1, .int .i64 c2] 74)); have K3 := Lib.hid (Kp.trans K2.out hk3); have R3 := Lib.hid (kp_row hk3 R2.out); have Z3 := Lib.hid (kp_row hk3 Z2.out); have B3 := Lib.hid (MapKept.heap_alloc w3 (.cells #[.int .i64 c0, .int .i64 c1, .int .i64 c2] 74)).1; obtain ⟨l0, l1, l2⟩ := cells3 B3.out; obtain ⟨m0, m1, m2, m3⟩ := cells_4 R3.out; obtain ⟨y0, y1, y2, y3, y4, y5, y6, y7⟩ := cells_8 Z3.out; have fy := frozN Z3.out; clear hk hk3) | (go_at_call 35; (with_reducible refine (HM.out _).mono ?_); rintro e' w4 ⟨rfl, hk⟩; have K4 := Lib.hid (Kp.trans K3.out hk); have Z4 := Lib.hid (kp_row hk Z3.out); obtain ⟨x0, x1, x2, x3, x4, x5, x6, x7⟩ := cells_8 Z4.out; have fx := frozN Z4.out; clear hk))
  refine bodyPost_ret (results_row_tmpT (p := 4) (u := 5) rfl _ _ (w.heap.size + 1) 33 _ (0, 0) _ rfl (set_8 _ _ _ _ _ _ _ _ Z4.out) Tryd.underlying33 rfl (by kernel_rfl)) rfl ?_; exact ⟨rfl, set_8_kp K4.out (Nat.le_succ _) _ _ _ _ _ _ _ _⟩
theorem refTell_any (z : SeatM) (k : Int) (w : World) : Calls Tryd.prog 11 #[.agg (seatV z), .int .i64 k] w fun r w' => r = .returned (.tuple #[.agg (effV (z.tell k).2), .int .i64 (z.tell k).1]) ∧ Kp w w' := by
  obtain ⟨p, e, s, h⟩ := z
  unfold SeatM.tell
  cases hr : SeatM.right ⟨p, e, s, h⟩ with
  | false => rw [if_pos rfl]; exact refTell_bad p e s h k hr w
  | true =>
    rw [if_neg (by decide)]
    obtain ⟨⟨n, c0, c1, c2⟩, hm⟩ : ∃ y, lookT p e k s = y := ⟨_, rfl⟩
    dsimp only
    rw [hm]
    dsimp only
    by_cases h0 : n = 0
    · rw [if_neg (by simpa using h0)]
      unfold SeatM.tellC
      dsimp only
      by_cases d2 : c0 = 2
      · rw [if_pos d2]; exact refTell_2 p e s h k hr n c0 c1 c2 hm h0 d2 w
      rw [if_neg d2]
      by_cases d3 : c0 = 3
      · rw [if_pos d3]; exact refTell_3 p e s h k hr n c0 c1 c2 hm h0 d3 w
      rw [if_neg d3]
      by_cases d4 : c0 = 4
      · rw [if_pos d4]; exact refTell_4 p e s h k hr n c0 c1 c2 hm h0 d4 w
      rw [if_neg d4]
      have b2 : (c0 == 2) = false := by simpa using d2
      have b3 : (c0 == 3) = false := by simpa using d3
      have b4 : (c0 == 4) = false := by simpa using d4
      by_cases he : e = 1
      · rw [if_pos he]
        by_cases x1 : c1 = 13
        · rw [if_pos x1]; exact refTell_13 p e s h k hr n c0 c1 c2 hm _ rfl h0 b2 b3 b4 he x1 w
        rw [if_neg x1]
        by_cases x2 : c1 = 12
        · rw [if_pos x2]; exact refTell_12 p e s h k hr n c0 c1 c2 hm _ rfl h0 b2 b3 b4 he x2 w
        rw [if_neg x2]
        have y1 : (c1 == 13) = false := by simpa using x1
        have y2 : (c1 == 12) = false := by simpa using x2
        by_cases x3 : 8 ≤ c1
        · by_cases x4 : c1 ≤ 11
          · rw [if_pos ⟨x3, x4⟩]; exact refTell_8 p e s h k hr n c0 c1 c2 hm _ rfl h0 b2 b3 b4 he y1 y2 (decide_eq_true x3) (decide_eq_true x4) w
          · rw [if_neg (fun q => x4 q.2)]; exact refTell_c2 p e s h k hr n c0 c1 c2 hm _ rfl h0 b2 b3 b4 he y1 y2 (decide_eq_true x3) (decide_eq_false x4) w
        · rw [if_neg (fun q => x3 q.1)]; exact refTell_c1 p e s h k hr n c0 c1 c2 hm _ rfl h0 b2 b3 b4 he y1 y2 (decide_eq_false x3) w
      · rw [if_neg he]
        have be : (e == 1) = false := by simpa using he
        by_cases k1 : k = 12
        · rw [show howT k = 4 by rw [k1]; rfl]; exact refTell_x12 p e s h k hr n c0 c1 c2 hm _ rfl h0 b2 b3 b4 be k1 w
        by_cases k2 : k = 13
        · rw [show howT k = 1 by rw [k2]; rfl]; exact refTell_x13 p e s h k hr n c0 c1 c2 hm _ rfl h0 b2 b3 b4 be k2 w
        by_cases k3 : k = 14
        · rw [show howT k = 5 by rw [k3]; rfl]; exact refTell_x14 p e s h k hr n c0 c1 c2 hm _ rfl h0 b2 b3 b4 be k3 w
        rw [show howT k = 0 by simp [howT, k1, k2, k3]]
        exact refTell_x p e s h k hr n c0 c1 c2 hm _ rfl h0 b2 b3 b4 be (by simpa using k1) (by simpa using k2) (by simpa using k3) w
    · rw [if_pos h0]; exact refTell_look p e s h k hr n c0 c1 c2 hm (by simpa using h0) w
set_option maxRecDepth 100000 in
theorem refAct_bad (p e s h k : Int) (hr : SeatM.right ⟨p, e, s, h⟩ = false) (w : World) : Calls Tryd.prog 13 #[.agg #[.int .i64 p, .int .i64 e, .int .i64 s, .int .i64 h], .int .i64 k] w fun r w' => r = .returned (.tuple #[.agg #[.int .i64 0, .int .i64 0, .int .i64 0, .int .i64 0, .int .i64 0, .int .i64 0, .int .i64 0, .bool false], .int .i64 4]) ∧ Kp w w' := by
  have HRt := fun w => hr ▸ refRight_any ⟨p, e, s, h⟩ w
  dsimp only [seatV] at HRt
  replace HRt := Lib.hid HRt
  have k0 := Kp.trans (kp_alloc w (.cells #[.int .i64 p, .int .i64 e, .int .i64 s, .int .i64 h] 25)) (kp_alloc (w.alloc (.cells #[.int .i64 p, .int .i64 e, .int .i64 s, .int .i64 h] 25)) (.cells #[.int .i64 0, .int .i64 0, .int .i64 0, .int .i64 0, .int .i64 0, .int .i64 0, .int .i64 0, .bool false] 33))
  have hr0 : ((w.alloc (.cells #[.int .i64 p, .int .i64 e, .int .i64 s, .int .i64 h] 25)).alloc (.cells #[.int .i64 0, .int .i64 0, .int .i64 0, .int .i64 0, .int .i64 0, .int .i64 0, .int .i64 0, .bool false] 33)).heap[w.heap.size]? = some (.cells #[.int .i64 p, .int .i64 e, .int .i64 s, .int .i64 h] 25) := kp_row (kp_alloc _ _) (MapKept.heap_alloc w (.cells #[.int .i64 p, .int .i64 e, .int .i64 s, .int .i64 h] 25)).1
  have hz0 : ((w.alloc (.cells #[.int .i64 p, .int .i64 e, .int .i64 s, .int .i64 h] 25)).alloc (.cells #[.int .i64 0, .int .i64 0, .int .i64 0, .int .i64 0, .int .i64 0, .int .i64 0, .int .i64 0, .bool false] 33)).heap[w.heap.size + 1]? = some (.cells #[.int .i64 0, .int .i64 0, .int .i64 0, .int .i64 0, .int .i64 0, .int .i64 0, .int .i64 0, .bool false] 33) := by have := (MapKept.heap_alloc (w.alloc (.cells #[.int .i64 p, .int .i64 e, .int .i64 s, .int .i64 h] 25)) (.cells #[.int .i64 0, .int .i64 0, .int .i64 0, .int .i64 0, .int .i64 0, .int .i64 0, .int .i64 0, .bool false] 33)).1; simpa using this
  have K1 := Lib.hid k0
  have R1 := Lib.hid hr0
  have Z1 := Lib.hid hz0
  obtain ⟨g0, g1, g2, g3⟩ := cells_4 R1.out
  clear k0 hr0 hz0
  clear hr
  go_enter Tryd.func13, Tryd.ntmps13
  go_wp2_with (go_at_call 17; (with_reducible refine (HRt.out _).mono ?_); rintro e' w2 ⟨rfl, hk⟩; have K2 := Lib.hid (Kp.trans K1.out hk); have R2 := Lib.hid (kp_row hk R1.out); have Z2 := Lib.hid (kp_row hk Z1.out); obtain ⟨j0, j1, j2, j3⟩ := cells_4 R2.out; obtain ⟨z0, z1, z2, z3, z4, z5, z6, z7⟩ := cells_8 Z2.out; have fz := frozN Z2.out; clear hk)
  refine bodyPost_ret (results_row_tmpT (p := 4) (u := 5) rfl _ _ (w.heap.size + 1) 33 _ (0, 0) _ rfl (set_8 _ _ _ _ _ _ _ _ Z2.out) Tryd.underlying33 rfl (by kernel_rfl)) rfl ?_; exact ⟨rfl, set_8_kp K2.out (Nat.le_succ _) _ _ _ _ _ _ _ _⟩
set_option maxRecDepth 100000 in
theorem refAct_step (p e s h k : Int) (hr : SeatM.right ⟨p, e, s, h⟩ = true) (n m : Int) (hm : stepT p e k s = (n, m)) (hn : (n == 0) = false) (w : World) : Calls Tryd.prog 13 #[.agg #[.int .i64 p, .int .i64 e, .int .i64 s, .int .i64 h], .int .i64 k] w fun r w' => r = .returned (.tuple #[.agg #[.int .i64 0, .int .i64 0, .int .i64 0, .int .i64 0, .int .i64 0, .int .i64 0, .int .i64 0, .bool false], .int .i64 n]) ∧ Kp w w' := by
  have HRt := fun w => hr ▸ refRight_any ⟨p, e, s, h⟩ w
  dsimp only [seatV] at HRt
  replace HRt := Lib.hid HRt
  have HL := fun w => refStep_any p e k s w
  rw [hm] at HL
  dsimp only at HL
  replace HL := Lib.hid HL
  have k0 := Kp.trans (kp_alloc w (.cells #[.int .i64 p, .int .i64 e, .int .i64 s, .int .i64 h] 25)) (kp_alloc (w.alloc (.cells #[.int .i64 p, .int .i64 e, .int .i64 s, .int .i64 h] 25)) (.cells #[.int .i64 0, .int .i64 0, .int .i64 0, .int .i64 0, .int .i64 0, .int .i64 0, .int .i64 0, .bool false] 33))
  have hr0 : ((w.alloc (.cells #[.int .i64 p, .int .i64 e, .int .i64 s, .int .i64 h] 25)).alloc (.cells #[.int .i64 0, .int .i64 0, .int .i64 0, .int .i64 0, .int .i64 0, .int .i64 0, .int .i64 0, .bool false] 33)).heap[w.heap.size]? = some (.cells #[.int .i64 p, .int .i64 e, .int .i64 s, .int .i64 h] 25) := kp_row (kp_alloc _ _) (MapKept.heap_alloc w (.cells #[.int .i64 p, .int .i64 e, .int .i64 s, .int .i64 h] 25)).1
  have hz0 : ((w.alloc (.cells #[.int .i64 p, .int .i64 e, .int .i64 s, .int .i64 h] 25)).alloc (.cells #[.int .i64 0, .int .i64 0, .int .i64 0, .int .i64 0, .int .i64 0, .int .i64 0, .int .i64 0, .bool false] 33)).heap[w.heap.size + 1]? = some (.cells #[.int .i64 0, .int .i64 0, .int .i64 0, .int .i64 0, .int .i64 0, .int .i64 0, .int .i64 0, .bool false] 33) := by have := (MapKept.heap_alloc (w.alloc (.cells #[.int .i64 p, .int .i64 e, .int .i64 s, .int .i64 h] 25)) (.cells #[.int .i64 0, .int .i64 0, .int .i64 0, .int .i64 0, .int .i64 0, .int .i64 0, .int .i64 0, .bool false] 33)).1; simpa using this
  have K1 := Lib.hid k0
  have R1 := Lib.hid hr0
  have Z1 := Lib.hid hz0
  obtain ⟨g0, g1, g2, g3⟩ := cells_4 R1.out
  clear k0 hr0 hz0
  clear hr hm
  go_enter Tryd.func13, Tryd.ntmps13
  go_wp2_with (first | (go_at_call 17; (with_reducible refine (HRt.out _).mono ?_); rintro e' w2 ⟨rfl, hk⟩; have K2 := Lib.hid (Kp.trans K1.out hk); have R2 := Lib.hid (kp_row hk R1.out); have Z2 := Lib.hid (kp_row hk Z1.out); obtain ⟨j0, j1, j2, j3⟩ := cells_4 R2.out; obtain ⟨z0, z1, z2, z3, z4, z5, z6, z7⟩ := cells_8 Z2.out; have fz := frozN Z2.out; clear hk) | (go_at_call 38; (with_reducible refine (HL.out _).mono ?_); rintro e' w3 ⟨rfl, rfl⟩))
  refine bodyPost_ret (results_row_tmpT (p := 4) (u := 5) rfl _ _ (w.heap.size + 1) 33 _ (0, 0) _ rfl (set_8 _ _ _ _ _ _ _ _ Z2.out) Tryd.underlying33 rfl (by kernel_rfl)) rfl ?_; exact ⟨rfl, set_8_kp K2.out (Nat.le_succ _) _ _ _ _ _ _ _ _⟩
set_option maxRecDepth 100000 in
theorem refAct_12 (p e s h k : Int) (hr : SeatM.right ⟨p, e, s, h⟩ = true) (n m : Int) (hm : stepT p e k s = (n, m)) (y : EffM) (hy : SeatM.moved ⟨p, e, s, h⟩ m 4 12 = y) (h0 : n = 0) (hk : k = 12) (w : World) : Calls Tryd.prog 13 #[.agg #[.int .i64 p, .int .i64 e, .int .i64 s, .int .i64 h], .int .i64 k] w fun r w' => r = .returned (.tuple #[.agg (effV y), .int .i64 0]) ∧ Kp w w' := by
  have HRt := fun w => hr ▸ refRight_any ⟨p, e, s, h⟩ w
  dsimp only [seatV] at HRt
  replace HRt := Lib.hid HRt
  have HL := fun w => refStep_any p e k s w
  rw [hm] at HL
  dsimp only at HL
  replace HL := Lib.hid HL
  have HM := fun w => refMoved_any ⟨p, e, s, h⟩ m 4 12 y hy w
  dsimp only [seatV, effV] at HM ⊢
  replace HM := Lib.hid HM
  have k0 := Kp.trans (kp_alloc w (.cells #[.int .i64 p, .int .i64 e, .int .i64 s, .int .i64 h] 25)) (kp_alloc (w.alloc (.cells #[.int .i64 p, .int .i64 e, .int .i64 s, .int .i64 h] 25)) (.cells #[.int .i64 0, .int .i64 0, .int .i64 0, .int .i64 0, .int .i64 0, .int .i64 0, .int .i64 0, .bool false] 33))
  have hr0 : ((w.alloc (.cells #[.int .i64 p, .int .i64 e, .int .i64 s, .int .i64 h] 25)).alloc (.cells #[.int .i64 0, .int .i64 0, .int .i64 0, .int .i64 0, .int .i64 0, .int .i64 0, .int .i64 0, .bool false] 33)).heap[w.heap.size]? = some (.cells #[.int .i64 p, .int .i64 e, .int .i64 s, .int .i64 h] 25) := kp_row (kp_alloc _ _) (MapKept.heap_alloc w (.cells #[.int .i64 p, .int .i64 e, .int .i64 s, .int .i64 h] 25)).1
  have hz0 : ((w.alloc (.cells #[.int .i64 p, .int .i64 e, .int .i64 s, .int .i64 h] 25)).alloc (.cells #[.int .i64 0, .int .i64 0, .int .i64 0, .int .i64 0, .int .i64 0, .int .i64 0, .int .i64 0, .bool false] 33)).heap[w.heap.size + 1]? = some (.cells #[.int .i64 0, .int .i64 0, .int .i64 0, .int .i64 0, .int .i64 0, .int .i64 0, .int .i64 0, .bool false] 33) := by have := (MapKept.heap_alloc (w.alloc (.cells #[.int .i64 p, .int .i64 e, .int .i64 s, .int .i64 h] 25)) (.cells #[.int .i64 0, .int .i64 0, .int .i64 0, .int .i64 0, .int .i64 0, .int .i64 0, .int .i64 0, .bool false] 33)).1; simpa using this
  have K1 := Lib.hid k0
  have R1 := Lib.hid hr0
  have Z1 := Lib.hid hz0
  obtain ⟨g0, g1, g2, g3⟩ := cells_4 R1.out
  clear k0 hr0 hz0
  clear hr hm hy
  subst h0 hk
  go_enter Tryd.func13, Tryd.ntmps13
  go_wp2_with (first | (go_at_call 17; (with_reducible refine (HRt.out _).mono ?_); rintro e' w2 ⟨rfl, hk⟩; have K2 := Lib.hid (Kp.trans K1.out hk); have R2 := Lib.hid (kp_row hk R1.out); have Z2 := Lib.hid (kp_row hk Z1.out); obtain ⟨j0, j1, j2, j3⟩ := cells_4 R2.out; obtain ⟨z0, z1, z2, z3, z4, z5, z6, z7⟩ := cells_8 Z2.out; have fz := frozN Z2.out; clear hk) | (go_at_call 38; (with_reducible refine (HL.out _).mono ?_); rintro e' w3 ⟨rfl, rfl⟩) | (go_at_call 35; (with_reducible refine (HM.out _).mono ?_); rintro e' w4 ⟨rfl, hk⟩; have K4 := Lib.hid (Kp.trans K2.out hk); have Z4 := Lib.hid (kp_row hk Z2.out); obtain ⟨x0, x1, x2, x3, x4, x5, x6, x7⟩ := cells_8 Z4.out; have fx := frozN Z4.out; clear hk))
  refine bodyPost_ret (results_row_tmpT (p := 4) (u := 5) rfl _ _ (w.heap.size + 1) 33 _ (0, 0) _ rfl (set_8 _ _ _ _ _ _ _ _ Z4.out) Tryd.underlying33 rfl (by kernel_rfl)) rfl ?_; exact ⟨rfl, set_8_kp K4.out (Nat.le_succ _) _ _ _ _ _ _ _ _⟩
set_option maxRecDepth 100000 in
theorem refAct_13 (p e s h k : Int) (hr : SeatM.right ⟨p, e, s, h⟩ = true) (n m : Int) (hm : stepT p e k s = (n, m)) (y : EffM) (hy : SeatM.moved ⟨p, e, s, h⟩ m 1 13 = y) (h0 : n = 0) (hk : k = 13) (w : World) : Calls Tryd.prog 13 #[.agg #[.int .i64 p, .int .i64 e, .int .i64 s, .int .i64 h], .int .i64 k] w fun r w' => r = .returned (.tuple #[.agg (effV y), .int .i64 0]) ∧ Kp w w' := by
  have HRt := fun w => hr ▸ refRight_any ⟨p, e, s, h⟩ w
  dsimp only [seatV] at HRt
  replace HRt := Lib.hid HRt
  have HL := fun w => refStep_any p e k s w
  rw [hm] at HL
  dsimp only at HL
  replace HL := Lib.hid HL
  have HM := fun w => refMoved_any ⟨p, e, s, h⟩ m 1 13 y hy w
  dsimp only [seatV, effV] at HM ⊢
  replace HM := Lib.hid HM
  have k0 := Kp.trans (kp_alloc w (.cells #[.int .i64 p, .int .i64 e, .int .i64 s, .int .i64 h] 25)) (kp_alloc (w.alloc (.cells #[.int .i64 p, .int .i64 e, .int .i64 s, .int .i64 h] 25)) (.cells #[.int .i64 0, .int .i64 0, .int .i64 0, .int .i64 0, .int .i64 0, .int .i64 0, .int .i64 0, .bool false] 33))
  have hr0 : ((w.alloc (.cells #[.int .i64 p, .int .i64 e, .int .i64 s, .int .i64 h] 25)).alloc (.cells #[.int .i64 0, .int .i64 0, .int .i64 0, .int .i64 0, .int .i64 0, .int .i64 0, .int .i64 0, .bool false] 33)).heap[w.heap.size]? = some (.cells #[.int .i64 p, .int .i64 e, .int .i64 s, .int .i64 h] 25) := kp_row (kp_alloc _ _) (MapKept.heap_alloc w (.cells #[.int .i64 p, .int .i64 e, .int .i64 s, .int .i64 h] 25)).1
  have hz0 : ((w.alloc (.cells #[.int .i64 p, .int .i64 e, .int .i64 s, .int .i64 h] 25)).alloc (.cells #[.int .i64 0, .int .i64 0, .int .i64 0, .int .i64 0, .int .i64 0, .int .i64 0, .int .i64 0, .bool false] 33)).heap[w.heap.size + 1]? = some (.cells #[.int .i64 0, .int .i64 0, .int .i64 0, .int .i64 0, .int .i64 0, .int .i64 0, .int .i64 0, .bool false] 33) := by have := (MapKept.heap_alloc (w.alloc (.cells #[.int .i64 p, .int .i64 e, .int .i64 s, .int .i64 h] 25)) (.cells #[.int .i64 0, .int .i64 0, .int .i64 0, .int .i64 0, .int .i64 0, .int .i64 0, .int .i64 0, .bool false] 33)).1; simpa using this
  have K1 := Lib.hid k0
  have R1 := Lib.hid hr0
  have Z1 := Lib.hid hz0
  obtain ⟨g0, g1, g2, g3⟩ := cells_4 R1.out
  clear k0 hr0 hz0
  clear hr hm hy
  subst h0 hk
  go_enter Tryd.func13, Tryd.ntmps13
  go_wp2_with (first | (go_at_call 17; (with_reducible refine (HRt.out _).mono ?_); rintro e' w2 ⟨rfl, hk⟩; have K2 := Lib.hid (Kp.trans K1.out hk); have R2 := Lib.hid (kp_row hk R1.out); have Z2 := Lib.hid (kp_row hk Z1.out); obtain ⟨j0, j1, j2, j3⟩ := cells_4 R2.out; obtain ⟨z0, z1, z2, z3, z4, z5, z6, z7⟩ := cells_8 Z2.out; have fz := frozN Z2.out; clear hk) | (go_at_call 38; (with_reducible refine (HL.out _).mono ?_); rintro e' w3 ⟨rfl, rfl⟩) | (go_at_call 35; (with_reducible refine (HM.out _).mono ?_); rintro e' w4 ⟨rfl, hk⟩; have K4 := Lib.hid (Kp.trans K2.out hk); have Z4 := Lib.hid (kp_row hk Z2.out); obtain ⟨x0, x1, x2, x3, x4, x5, x6, x7⟩ := cells_8 Z4.out; have fx := frozN Z4.out; clear hk))
  refine bodyPost_ret (results_row_tmpT (p := 4) (u := 5) rfl _ _ (w.heap.size + 1) 33 _ (0, 0) _ rfl (set_8 _ _ _ _ _ _ _ _ Z4.out) Tryd.underlying33 rfl (by kernel_rfl)) rfl ?_; exact ⟨rfl, set_8_kp K4.out (Nat.le_succ _) _ _ _ _ _ _ _ _⟩
set_option maxRecDepth 100000 in
theorem refAct_14 (p e s h k : Int) (hr : SeatM.right ⟨p, e, s, h⟩ = true) (n m : Int) (hm : stepT p e k s = (n, m)) (y : EffM) (hy : SeatM.moved ⟨p, e, s, h⟩ m 5 14 = y) (h0 : n = 0) (hk : k = 14) (w : World) : Calls Tryd.prog 13 #[.agg #[.int .i64 p, .int .i64 e, .int .i64 s, .int .i64 h], .int .i64 k] w fun r w' => r = .returned (.tuple #[.agg (effV y), .int .i64 0]) ∧ Kp w w' := by
  have HRt := fun w => hr ▸ refRight_any ⟨p, e, s, h⟩ w
  dsimp only [seatV] at HRt
  replace HRt := Lib.hid HRt
  have HL := fun w => refStep_any p e k s w
  rw [hm] at HL
  dsimp only at HL
  replace HL := Lib.hid HL
  have HM := fun w => refMoved_any ⟨p, e, s, h⟩ m 5 14 y hy w
  dsimp only [seatV, effV] at HM ⊢
  replace HM := Lib.hid HM
  have k0 := Kp.trans (kp_alloc w (.cells #[.int .i64 p, .int .i64 e, .int .i64 s, .int .i64 h] 25)) (kp_alloc (w.alloc (.cells #[.int .i64 p, .int .i64 e, .int .i64 s, .int .i64 h] 25)) (.cells #[.int .i64 0, .int .i64 0, .int .i64 0, .int .i64 0, .int .i64 0, .int .i64 0, .int .i64 0, .bool false] 33))
  have hr0 : ((w.alloc (.cells #[.int .i64 p, .int .i64 e, .int .i64 s, .int .i64 h] 25)).alloc (.cells #[.int .i64 0, .int .i64 0, .int .i64 0, .int .i64 0, .int .i64 0, .int .i64 0, .int .i64 0, .bool false] 33)).heap[w.heap.size]? = some (.cells #[.int .i64 p, .int .i64 e, .int .i64 s, .int .i64 h] 25) := kp_row (kp_alloc _ _) (MapKept.heap_alloc w (.cells #[.int .i64 p, .int .i64 e, .int .i64 s, .int .i64 h] 25)).1
  have hz0 : ((w.alloc (.cells #[.int .i64 p, .int .i64 e, .int .i64 s, .int .i64 h] 25)).alloc (.cells #[.int .i64 0, .int .i64 0, .int .i64 0, .int .i64 0, .int .i64 0, .int .i64 0, .int .i64 0, .bool false] 33)).heap[w.heap.size + 1]? = some (.cells #[.int .i64 0, .int .i64 0, .int .i64 0, .int .i64 0, .int .i64 0, .int .i64 0, .int .i64 0, .bool false] 33) := by have := (MapKept.heap_alloc (w.alloc (.cells #[.int .i64 p, .int .i64 e, .int .i64 s, .int .i64 h] 25)) (.cells #[.int .i64 0, .int .i64 0, .int .i64 0, .int .i64 0, .int .i64 0, .int .i64 0, .int .i64 0, .bool false] 33)).1; simpa using this
  have K1 := Lib.hid k0
  have R1 := Lib.hid hr0
  have Z1 := Lib.hid hz0
  obtain ⟨g0, g1, g2, g3⟩ := cells_4 R1.out
  clear k0 hr0 hz0
  clear hr hm hy
  subst h0 hk
  go_enter Tryd.func13, Tryd.ntmps13
  go_wp2_with (first | (go_at_call 17; (with_reducible refine (HRt.out _).mono ?_); rintro e' w2 ⟨rfl, hk⟩; have K2 := Lib.hid (Kp.trans K1.out hk); have R2 := Lib.hid (kp_row hk R1.out); have Z2 := Lib.hid (kp_row hk Z1.out); obtain ⟨j0, j1, j2, j3⟩ := cells_4 R2.out; obtain ⟨z0, z1, z2, z3, z4, z5, z6, z7⟩ := cells_8 Z2.out; have fz := frozN Z2.out; clear hk) | (go_at_call 38; (with_reducible refine (HL.out _).mono ?_); rintro e' w3 ⟨rfl, rfl⟩) | (go_at_call 35; (with_reducible refine (HM.out _).mono ?_); rintro e' w4 ⟨rfl, hk⟩; have K4 := Lib.hid (Kp.trans K2.out hk); have Z4 := Lib.hid (kp_row hk Z2.out); obtain ⟨x0, x1, x2, x3, x4, x5, x6, x7⟩ := cells_8 Z4.out; have fx := frozN Z4.out; clear hk))
  refine bodyPost_ret (results_row_tmpT (p := 4) (u := 5) rfl _ _ (w.heap.size + 1) 33 _ (0, 0) _ rfl (set_8 _ _ _ _ _ _ _ _ Z4.out) Tryd.underlying33 rfl (by kernel_rfl)) rfl ?_; exact ⟨rfl, set_8_kp K4.out (Nat.le_succ _) _ _ _ _ _ _ _ _⟩
set_option maxRecDepth 100000 in
theorem refAct_k (p e s h k : Int) (hr : SeatM.right ⟨p, e, s, h⟩ = true) (n m : Int) (hm : stepT p e k s = (n, m)) (y : EffM) (hy : SeatM.moved ⟨p, e, s, h⟩ m k k = y) (h0 : n = 0) (k1 : (k == 12) = false) (k2 : (k == 13) = false) (k3 : (k == 14) = false) (w : World) : Calls Tryd.prog 13 #[.agg #[.int .i64 p, .int .i64 e, .int .i64 s, .int .i64 h], .int .i64 k] w fun r w' => r = .returned (.tuple #[.agg (effV y), .int .i64 0]) ∧ Kp w w' := by
  have HRt := fun w => hr ▸ refRight_any ⟨p, e, s, h⟩ w
  dsimp only [seatV] at HRt
  replace HRt := Lib.hid HRt
  have HL := fun w => refStep_any p e k s w
  rw [hm] at HL
  dsimp only at HL
  replace HL := Lib.hid HL
  have HM := fun w => refMoved_any ⟨p, e, s, h⟩ m k k y hy w
  dsimp only [seatV, effV] at HM ⊢
  replace HM := Lib.hid HM
  have k0 := Kp.trans (kp_alloc w (.cells #[.int .i64 p, .int .i64 e, .int .i64 s, .int .i64 h] 25)) (kp_alloc (w.alloc (.cells #[.int .i64 p, .int .i64 e, .int .i64 s, .int .i64 h] 25)) (.cells #[.int .i64 0, .int .i64 0, .int .i64 0, .int .i64 0, .int .i64 0, .int .i64 0, .int .i64 0, .bool false] 33))
  have hr0 : ((w.alloc (.cells #[.int .i64 p, .int .i64 e, .int .i64 s, .int .i64 h] 25)).alloc (.cells #[.int .i64 0, .int .i64 0, .int .i64 0, .int .i64 0, .int .i64 0, .int .i64 0, .int .i64 0, .bool false] 33)).heap[w.heap.size]? = some (.cells #[.int .i64 p, .int .i64 e, .int .i64 s, .int .i64 h] 25) := kp_row (kp_alloc _ _) (MapKept.heap_alloc w (.cells #[.int .i64 p, .int .i64 e, .int .i64 s, .int .i64 h] 25)).1
  have hz0 : ((w.alloc (.cells #[.int .i64 p, .int .i64 e, .int .i64 s, .int .i64 h] 25)).alloc (.cells #[.int .i64 0, .int .i64 0, .int .i64 0, .int .i64 0, .int .i64 0, .int .i64 0, .int .i64 0, .bool false] 33)).heap[w.heap.size + 1]? = some (.cells #[.int .i64 0, .int .i64 0, .int .i64 0, .int .i64 0, .int .i64 0, .int .i64 0, .int .i64 0, .bool false] 33) := by have := (MapKept.heap_alloc (w.alloc (.cells #[.int .i64 p, .int .i64 e, .int .i64 s, .int .i64 h] 25)) (.cells #[.int .i64 0, .int .i64 0, .int .i64 0, .int .i64 0, .int .i64 0, .int .i64 0, .int .i64 0, .bool false] 33)).1; simpa using this
  have K1 := Lib.hid k0
  have R1 := Lib.hid hr0
  have Z1 := Lib.hid hz0
  obtain ⟨g0, g1, g2, g3⟩ := cells_4 R1.out
  clear k0 hr0 hz0
  clear hr hm hy
  subst h0
  go_enter Tryd.func13, Tryd.ntmps13
  go_wp2_with (first | (go_at_call 17; (with_reducible refine (HRt.out _).mono ?_); rintro e' w2 ⟨rfl, hk⟩; have K2 := Lib.hid (Kp.trans K1.out hk); have R2 := Lib.hid (kp_row hk R1.out); have Z2 := Lib.hid (kp_row hk Z1.out); obtain ⟨j0, j1, j2, j3⟩ := cells_4 R2.out; obtain ⟨z0, z1, z2, z3, z4, z5, z6, z7⟩ := cells_8 Z2.out; have fz := frozN Z2.out; clear hk) | (go_at_call 38; (with_reducible refine (HL.out _).mono ?_); rintro e' w3 ⟨rfl, rfl⟩) | (go_at_call 35; (with_reducible refine (HM.out _).mono ?_); rintro e' w4 ⟨rfl, hk⟩; have K4 := Lib.hid (Kp.trans K2.out hk); have Z4 := Lib.hid (kp_row hk Z2.out); obtain ⟨x0, x1, x2, x3, x4, x5, x6, x7⟩ := cells_8 Z4.out; have fx := frozN Z4.out; clear hk))
  refine bodyPost_ret (results_row_tmpT (p := 4) (u := 5) rfl _ _ (w.heap.size + 1) 33 _ (0, 0) _ rfl (set_8 _ _ _ _ _ _ _ _ Z4.out) Tryd.underlying33 rfl (by kernel_rfl)) rfl ?_; exact ⟨rfl, set_8_kp K4.out (Nat.le_succ _) _ _ _ _ _ _ _ _⟩
theorem refAct_any (z : SeatM) (k : Int) (w : World) : Calls Tryd.prog 13 #[.agg (seatV z), .int .i64 k] w fun r w' => r = .returned (.tuple #[.agg (effV (z.act k).2), .int .i64 (z.act k).1]) ∧ Kp w w' := by
  obtain ⟨p, e, s, h⟩ := z
  unfold SeatM.act
  cases hr : SeatM.right ⟨p, e, s, h⟩ with
  | false => rw [if_pos rfl]; exact refAct_bad p e s h k hr w
  | true =>
    rw [if_neg (by decide)]
    obtain ⟨⟨n, m⟩, hm⟩ : ∃ y, stepT p e k s = y := ⟨_, rfl⟩
    dsimp only
    rw [hm]
    dsimp only
    by_cases h0 : n = 0
    · rw [if_neg (by simpa using h0)]
      by_cases k1 : k = 12
      · rw [show howD k = 4 by rw [k1]; rfl]; subst k1; exact refAct_12 p e s h 12 hr n m hm _ rfl h0 rfl w
      by_cases k2 : k = 13
      · rw [show howD k = 1 by rw [k2]; rfl]; subst k2; exact refAct_13 p e s h 13 hr n m hm _ rfl h0 rfl w
      by_cases k3 : k = 14
      · rw [show howD k = 5 by rw [k3]; rfl]; subst k3; exact refAct_14 p e s h 14 hr n m hm _ rfl h0 rfl w
      rw [show howD k = k by simp [howD, k1, k2, k3]]
      exact refAct_k p e s h k hr n m hm _ rfl h0 (by simpa using k1) (by simpa using k2) (by simpa using k3) w
    · rw [if_pos h0]; exact refAct_step p e s h k hr n m hm (by simpa using h0) w
end Go.Proofs.YtghjnhdepeiloaaDoor
