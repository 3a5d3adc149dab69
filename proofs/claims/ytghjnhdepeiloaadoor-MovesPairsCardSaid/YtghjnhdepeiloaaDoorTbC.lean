/-
  PACKAGE tables (own work): participantTold, some kinds.
-/
import Derived.Test.YtghjnhdepeiloaaDoorTbA
namespace Go.Proofs.YtghjnhdepeiloaaDoor
open Go.RowKit Go.ChangeShapes Go.WideShapes

set_option maxRecDepth 100000 in
set_option maxHeartbeats 16000000 in
theorem tpart_2 (s : Int) (hs : s = 1 ∨ s = 2 ∨ s = 4 ∨ s = 5 ∨ s = 6 ∨ s = 7 ∨ s = 8 ∨ s = 9 ∨ s = 10 ∨ s = 11 ∨ s = 12 ∨ s = 13 ∨ s = 14) (w : World) : Calls Tryd.prog 59 #[.int .i64 2, .int .i64 s] w fun e' w' => e' = .returned (.agg (cellV (partT 2 s))) ∧ Kp w w' := by
  have HW := Lib.hid (fun w => twaits_2 s (by omega) w)
  have HT := Lib.hid (fun s w => tgoes_any s w)
  have HG := Lib.hid (fun s w => tresends_any s w)
  have K1 := Lib.hid (kp_alloc w (.cells #[.int .i64 0, .int .i64 0, .int .i64 0] 70))
  have HZ := Lib.hid (MapKept.heap_alloc w (.cells #[.int .i64 0, .int .i64 0, .int .i64 0] 70)).1
  obtain ⟨z0, z1, z2⟩ := cells3 HZ.out
  have fz := froz3 HZ.out
  have hq := arr2_eql Tryd.underlying113 2 s
  have hg := arr_guard 113 (by kernel_rfl)
  have HK := Lib.hid hs
  clear hs
  go_enter Tryd.func59, Tryd.ntmps59
  go_wp2_with (first | (go_at_call 77; (with_reducible refine (HT.out _ _).mono ?_); rintro e' w2 ⟨rfl, hk⟩; have K2 := Lib.hid (Kp.trans K1.out hk); have R2 := Lib.hid (kp_row hk HZ.out); obtain ⟨y0, y1, y2⟩ := cells3 R2.out; have fy := froz3 R2.out; clear hk) | (go_at_call 78; (with_reducible refine (HG.out _ _).mono ?_); rintro e' w2 ⟨rfl, hk⟩; have K2 := Lib.hid (Kp.trans K1.out hk); have R2 := Lib.hid (kp_row hk HZ.out); obtain ⟨y0, y1, y2⟩ := cells3 R2.out; have fy := froz3 R2.out; clear hk) | (go_at_call 71; (with_reducible refine (HW.out _).mono ?_); rintro e' w' ⟨rfl, rfl⟩))
  all_goals clear hq hg HT HG HW
  all_goals first
    | (refine bodyPost_ret (results_cell_row (p := 4) rfl _ _ w.heap.size 70 _ (0, 0) _ rfl (set3 _ _ _ R2.out) Tryd.underlying70 rfl (by kernel_rfl)) rfl ?_; refine ⟨?_, set3_kp K2.out (Nat.le_refl _) _ _ _⟩; clear R2 K2)
    | (refine bodyPost_ret (results_cell_row (p := 4) rfl _ _ w.heap.size 70 _ (0, 0) _ rfl (MapKept.heap_alloc w (.cells #[.int .i64 2, .int .i64 0, .int .i64 0] 70)).1 Tryd.underlying70 rfl (by kernel_rfl)) rfl ?_; refine ⟨?_, kp_alloc _ _⟩)
    | (refine bodyPost_ret (results_cell_row (p := 4) rfl _ _ w.heap.size 70 _ (0, 0) _ rfl (MapKept.heap_alloc w (.cells #[.int .i64 4, .int .i64 0, .int .i64 0] 70)).1 Tryd.underlying70 rfl (by kernel_rfl)) rfl ?_; refine ⟨?_, kp_alloc _ _⟩)
  all_goals first
    | (rename_i h; obtain rfl := eq_of_beq h; first | rfl | exact absurd HK.out (by decide) | kernel_rfl)
    | (have hs := HK.out; clear HK; rcases hs with rfl | rfl | rfl | rfl | rfl | rfl | rfl | rfl | rfl | rfl | rfl | rfl | rfl <;> first | rfl | (exfalso; contradiction))
set_option maxRecDepth 100000 in
set_option maxHeartbeats 16000000 in
theorem tpart_9 (s : Int) (hs : s = 1 ∨ s = 2 ∨ s = 4 ∨ s = 5 ∨ s = 6 ∨ s = 7 ∨ s = 8 ∨ s = 9 ∨ s = 10 ∨ s = 11 ∨ s = 12 ∨ s = 13 ∨ s = 14) (w : World) : Calls Tryd.prog 59 #[.int .i64 9, .int .i64 s] w fun e' w' => e' = .returned (.agg (cellV (partT 9 s))) ∧ Kp w w' := by
  have HW := Lib.hid (fun w => twaits_2 s (by omega) w)
  have HT := Lib.hid (fun s w => tgoes_any s w)
  have HG := Lib.hid (fun s w => tresends_any s w)
  have K1 := Lib.hid (kp_alloc w (.cells #[.int .i64 0, .int .i64 0, .int .i64 0] 70))
  have HZ := Lib.hid (MapKept.heap_alloc w (.cells #[.int .i64 0, .int .i64 0, .int .i64 0] 70)).1
  obtain ⟨z0, z1, z2⟩ := cells3 HZ.out
  have fz := froz3 HZ.out
  have hq := arr2_eql Tryd.underlying113 9 s
  have hg := arr_guard 113 (by kernel_rfl)
  have HK := Lib.hid hs
  clear hs
  go_enter Tryd.func59, Tryd.ntmps59
  go_wp2_with (first | (go_at_call 77; (with_reducible refine (HT.out _ _).mono ?_); rintro e' w2 ⟨rfl, hk⟩; have K2 := Lib.hid (Kp.trans K1.out hk); have R2 := Lib.hid (kp_row hk HZ.out); obtain ⟨y0, y1, y2⟩ := cells3 R2.out; have fy := froz3 R2.out; clear hk) | (go_at_call 78; (with_reducible refine (HG.out _ _).mono ?_); rintro e' w2 ⟨rfl, hk⟩; have K2 := Lib.hid (Kp.trans K1.out hk); have R2 := Lib.hid (kp_row hk HZ.out); obtain ⟨y0, y1, y2⟩ := cells3 R2.out; have fy := froz3 R2.out; clear hk) | (go_at_call 71; (with_reducible refine (HW.out _).mono ?_); rintro e' w' ⟨rfl, rfl⟩))
  all_goals clear hq hg HT HG HW
  all_goals first
    | (refine bodyPost_ret (results_cell_row (p := 4) rfl _ _ w.heap.size 70 _ (0, 0) _ rfl (set3 _ _ _ R2.out) Tryd.underlying70 rfl (by kernel_rfl)) rfl ?_; refine ⟨?_, set3_kp K2.out (Nat.le_refl _) _ _ _⟩; clear R2 K2)
    | (refine bodyPost_ret (results_cell_row (p := 4) rfl _ _ w.heap.size 70 _ (0, 0) _ rfl (MapKept.heap_alloc w (.cells #[.int .i64 2, .int .i64 0, .int .i64 0] 70)).1 Tryd.underlying70 rfl (by kernel_rfl)) rfl ?_; refine ⟨?_, kp_alloc _ _⟩)
    | (refine bodyPost_ret (results_cell_row (p := 4) rfl _ _ w.heap.size 70 _ (0, 0) _ rfl (MapKept.heap_alloc w (.cells #[.int .i64 4, .int .i64 0, .int .i64 0] 70)).1 Tryd.underlying70 rfl (by kernel_rfl)) rfl ?_; refine ⟨?_, kp_alloc _ _⟩)
  all_goals first
    | (rename_i h; obtain rfl := eq_of_beq h; first | rfl | exact absurd HK.out (by decide) | kernel_rfl)
    | (have hs := HK.out; clear HK; rcases hs with rfl | rfl | rfl | rfl | rfl | rfl | rfl | rfl | rfl | rfl | rfl | rfl | rfl <;> first | rfl | (exfalso; contradiction))
set_option maxRecDepth 100000 in
set_option maxHeartbeats 16000000 in
theorem tpart_10 (s : Int) (hs : s = 1 ∨ s = 2 ∨ s = 4 ∨ s = 5 ∨ s = 6 ∨ s = 7 ∨ s = 8 ∨ s = 9 ∨ s = 10 ∨ s = 11 ∨ s = 12 ∨ s = 13 ∨ s = 14) (w : World) : Calls Tryd.prog 59 #[.int .i64 10, .int .i64 s] w fun e' w' => e' = .returned (.agg (cellV (partT 10 s))) ∧ Kp w w' := by
  have HW := Lib.hid (fun w => twaits_2 s (by omega) w)
  have HT := Lib.hid (fun s w => tgoes_any s w)
  have HG := Lib.hid (fun s w => tresends_any s w)
  have K1 := Lib.hid (kp_alloc w (.cells #[.int .i64 0, .int .i64 0, .int .i64 0] 70))
  have HZ := Lib.hid (MapKept.heap_alloc w (.cells #[.int .i64 0, .int .i64 0, .int .i64 0] 70)).1
  obtain ⟨z0, z1, z2⟩ := cells3 HZ.out
  have fz := froz3 HZ.out
  have hq := arr2_eql Tryd.underlying113 10 s
  have hg := arr_guard 113 (by kernel_rfl)
  have HK := Lib.hid hs
  clear hs
  go_enter Tryd.func59, Tryd.ntmps59
  go_wp2_with (first | (go_at_call 77; (with_reducible refine (HT.out _ _).mono ?_); rintro e' w2 ⟨rfl, hk⟩; have K2 := Lib.hid (Kp.trans K1.out hk); have R2 := Lib.hid (kp_row hk HZ.out); obtain ⟨y0, y1, y2⟩ := cells3 R2.out; have fy := froz3 R2.out; clear hk) | (go_at_call 78; (with_reducible refine (HG.out _ _).mono ?_); rintro e' w2 ⟨rfl, hk⟩; have K2 := Lib.hid (Kp.trans K1.out hk); have R2 := Lib.hid (kp_row hk HZ.out); obtain ⟨y0, y1, y2⟩ := cells3 R2.out; have fy := froz3 R2.out; clear hk) | (go_at_call 71; (with_reducible refine (HW.out _).mono ?_); rintro e' w' ⟨rfl, rfl⟩))
  all_goals clear hq hg HT HG HW
  all_goals first
    | (refine bodyPost_ret (results_cell_row (p := 4) rfl _ _ w.heap.size 70 _ (0, 0) _ rfl (set3 _ _ _ R2.out) Tryd.underlying70 rfl (by kernel_rfl)) rfl ?_; refine ⟨?_, set3_kp K2.out (Nat.le_refl _) _ _ _⟩; clear R2 K2)
    | (refine bodyPost_ret (results_cell_row (p := 4) rfl _ _ w.heap.size 70 _ (0, 0) _ rfl (MapKept.heap_alloc w (.cells #[.int .i64 2, .int .i64 0, .int .i64 0] 70)).1 Tryd.underlying70 rfl (by kernel_rfl)) rfl ?_; refine ⟨?_, kp_alloc _ _⟩)
    | (refine bodyPost_ret (results_cell_row (p := 4) rfl _ _ w.heap.size 70 _ (0, 0) _ rfl (MapKept.heap_alloc w (.cells #[.int .i64 4, .int .i64 0, .int .i64 0] 70)).1 Tryd.underlying70 rfl (by kernel_rfl)) rfl ?_; refine ⟨?_, kp_alloc _ _⟩)
  all_goals first
    | (rename_i h; obtain rfl := eq_of_beq h; first | rfl | exact absurd HK.out (by decide) | kernel_rfl)
    | (have hs := HK.out; clear HK; rcases hs with rfl | rfl | rfl | rfl | rfl | rfl | rfl | rfl | rfl | rfl | rfl | rfl | rfl <;> first | rfl | (exfalso; contradiction))
end Go.Proofs.YtghjnhdepeiloaaDoor
