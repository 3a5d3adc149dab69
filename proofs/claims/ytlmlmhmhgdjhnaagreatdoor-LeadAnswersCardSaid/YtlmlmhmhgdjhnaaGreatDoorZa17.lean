/- Parts of this proof (own work). -/
import Derived.Test.YtlmlmhmhgdjhnaaGreatDoorZa16
set_option maxRecDepth 100000
set_option maxHeartbeats 40000000
namespace Go.Proofs.YtlmlmhmhgdjhnaaGreatDoor
open Go.RowKit Go.ChangeShapes Go.WideShapes
theorem tcoord_5 (p s : Int) (hs : s = 1 ∨ s = 2 ∨ s = 3 ∨ s = 4 ∨ s = 5 ∨ s = 6 ∨ s = 7 ∨ s = 8 ∨ s = 9 ∨ s = 10 ∨ s = 11 ∨ s = 12 ∨ s = 13 ∨ s = 14) (w : World) : Calls Tryz.prog 196 #[.int .i64 p, .int .i64 5, .int .i64 s] w fun e' w' => e' = .returned (.agg (cellV (coordT p 5 s))) ∧ Kp w w' := by
 have HW := hD (fun w => twaits_1 s hs w); have HT := hD (fun s w => tgoes_any s w); have HG := hD (fun s w => tresends_any s w); have K1 := hD (kA w (.cells #[(0:Int), (0:Int), (0:Int)] 238)); have HZ := hD (mH w (.cells #[(0:Int), (0:Int), (0:Int)] 238)); obtain ⟨z0, z1, z2⟩ := cells3 HZ.out; have fz := froz3 HZ.out; have hq := a2X Tryz.underlying245 5 s; have hg := aX 245 (by kernel_rfl); have HK := hD hs; clear hs; go_enter Tryz.func196, Tryz.ntmps196; go_wp2_with (first | (go_at_call 210; (with_reducible refine (HT.out _ _).mono ?_); rintro e' w2 ⟨rfl, hk⟩; have K2 := hD (kT K1.out hk); have R2 := hD (rZ hk HZ.out); obtain ⟨y0, y1, y2⟩ := cells3 R2.out; have fy := froz3 R2.out; clear hk) | (go_at_call 211; (with_reducible refine (HG.out _ _).mono ?_); rintro e' w2 ⟨rfl, hk⟩; have K2 := hD (kT K1.out hk); have R2 := hD (rZ hk HZ.out); obtain ⟨y0, y1, y2⟩ := cells3 R2.out; have fy := froz3 R2.out; clear hk) | (go_at_call 140; (with_reducible refine (HW.out _).mono ?_); rintro e' w' ⟨rfl, rfl⟩))
 all_goals clear hq hg HT HG HW
 all_goals first
  | (refine bodyPost_ret (results_cell_row (p := 6) rfl _ _ w.heap.size 238 _ (0, 0) _ rfl (set3 _ _ _ R2.out) Tryz.underlying238 rfl (by kernel_rfl)) rfl ?_; refine ⟨?_, set3_kp K2.out (Nat.le_refl _) _ _ _⟩; clear R2 K2)
  | (refine bodyPost_ret (results_cell_row (p := 6) rfl _ _ w.heap.size 238 _ (0, 0) _ rfl (mH w (.cells #[(2:Int), (0:Int), (0:Int)] 238)) Tryz.underlying238 rfl (by kernel_rfl)) rfl ?_; refine ⟨?_, kA _ _⟩)
  | (refine bodyPost_ret (results_cell_row (p := 6) rfl _ _ w.heap.size 238 _ (0, 0) _ rfl (mH w (.cells #[(4:Int), (0:Int), (0:Int)] 238)) Tryz.underlying238 rfl (by kernel_rfl)) rfl ?_; refine ⟨?_, kA _ _⟩)
 all_goals first
  | (rename_i h; obtain rfl := eq_of_beq h; first | rfl | exact absurd HK.out (by decide) | kernel_rfl)
  | (have hs := HK.out; clear HK; rcases hs with rfl | rfl | rfl | rfl | rfl | rfl | rfl | rfl | rfl | rfl | rfl | rfl | rfl | rfl <;> first | rfl | (exfalso; contradiction))
theorem tcoord_6 (p s : Int) (hs : s = 1 ∨ s = 2 ∨ s = 3 ∨ s = 4 ∨ s = 5 ∨ s = 6 ∨ s = 7 ∨ s = 8 ∨ s = 9 ∨ s = 10 ∨ s = 11 ∨ s = 12 ∨ s = 13 ∨ s = 14) (w : World) : Calls Tryz.prog 196 #[.int .i64 p, .int .i64 6, .int .i64 s] w fun e' w' => e' = .returned (.agg (cellV (coordT p 6 s))) ∧ Kp w w' := by
 have HW := hD (fun w => twaits_1 s hs w); have HT := hD (fun s w => tgoes_any s w); have HG := hD (fun s w => tresends_any s w); have K1 := hD (kA w (.cells #[(0:Int), (0:Int), (0:Int)] 238)); have HZ := hD (mH w (.cells #[(0:Int), (0:Int), (0:Int)] 238)); obtain ⟨z0, z1, z2⟩ := cells3 HZ.out; have fz := froz3 HZ.out; have hq := a2X Tryz.underlying245 6 s; have hg := aX 245 (by kernel_rfl); have HK := hD hs; clear hs; go_enter Tryz.func196, Tryz.ntmps196; go_wp2_with (first | (go_at_call 210; (with_reducible refine (HT.out _ _).mono ?_); rintro e' w2 ⟨rfl, hk⟩; have K2 := hD (kT K1.out hk); have R2 := hD (rZ hk HZ.out); obtain ⟨y0, y1, y2⟩ := cells3 R2.out; have fy := froz3 R2.out; clear hk) | (go_at_call 211; (with_reducible refine (HG.out _ _).mono ?_); rintro e' w2 ⟨rfl, hk⟩; have K2 := hD (kT K1.out hk); have R2 := hD (rZ hk HZ.out); obtain ⟨y0, y1, y2⟩ := cells3 R2.out; have fy := froz3 R2.out; clear hk) | (go_at_call 140; (with_reducible refine (HW.out _).mono ?_); rintro e' w' ⟨rfl, rfl⟩))
 all_goals clear hq hg HT HG HW
 all_goals first
  | (refine bodyPost_ret (results_cell_row (p := 6) rfl _ _ w.heap.size 238 _ (0, 0) _ rfl (set3 _ _ _ R2.out) Tryz.underlying238 rfl (by kernel_rfl)) rfl ?_; refine ⟨?_, set3_kp K2.out (Nat.le_refl _) _ _ _⟩; clear R2 K2)
  | (refine bodyPost_ret (results_cell_row (p := 6) rfl _ _ w.heap.size 238 _ (0, 0) _ rfl (mH w (.cells #[(2:Int), (0:Int), (0:Int)] 238)) Tryz.underlying238 rfl (by kernel_rfl)) rfl ?_; refine ⟨?_, kA _ _⟩)
  | (refine bodyPost_ret (results_cell_row (p := 6) rfl _ _ w.heap.size 238 _ (0, 0) _ rfl (mH w (.cells #[(4:Int), (0:Int), (0:Int)] 238)) Tryz.underlying238 rfl (by kernel_rfl)) rfl ?_; refine ⟨?_, kA _ _⟩)
 all_goals first
  | (rename_i h; obtain rfl := eq_of_beq h; first | rfl | exact absurd HK.out (by decide) | kernel_rfl)
  | (have hs := HK.out; clear HK; rcases hs with rfl | rfl | rfl | rfl | rfl | rfl | rfl | rfl | rfl | rfl | rfl | rfl | rfl | rfl <;> first | rfl | (exfalso; contradiction))
theorem tcoord_7 (p s : Int) (hs : s = 1 ∨ s = 2 ∨ s = 3 ∨ s = 4 ∨ s = 5 ∨ s = 6 ∨ s = 7 ∨ s = 8 ∨ s = 9 ∨ s = 10 ∨ s = 11 ∨ s = 12 ∨ s = 13 ∨ s = 14) (w : World) : Calls Tryz.prog 196 #[.int .i64 p, .int .i64 7, .int .i64 s] w fun e' w' => e' = .returned (.agg (cellV (coordT p 7 s))) ∧ Kp w w' := by
 have HW := hD (fun w => twaits_1 s hs w); have HT := hD (fun s w => tgoes_any s w); have HG := hD (fun s w => tresends_any s w); have K1 := hD (kA w (.cells #[(0:Int), (0:Int), (0:Int)] 238)); have HZ := hD (mH w (.cells #[(0:Int), (0:Int), (0:Int)] 238)); obtain ⟨z0, z1, z2⟩ := cells3 HZ.out; have fz := froz3 HZ.out; have hq := a2X Tryz.underlying245 7 s; have hg := aX 245 (by kernel_rfl); have HK := hD hs; clear hs; go_enter Tryz.func196, Tryz.ntmps196; go_wp2_with (first | (go_at_call 210; (with_reducible refine (HT.out _ _).mono ?_); rintro e' w2 ⟨rfl, hk⟩; have K2 := hD (kT K1.out hk); have R2 := hD (rZ hk HZ.out); obtain ⟨y0, y1, y2⟩ := cells3 R2.out; have fy := froz3 R2.out; clear hk) | (go_at_call 211; (with_reducible refine (HG.out _ _).mono ?_); rintro e' w2 ⟨rfl, hk⟩; have K2 := hD (kT K1.out hk); have R2 := hD (rZ hk HZ.out); obtain ⟨y0, y1, y2⟩ := cells3 R2.out; have fy := froz3 R2.out; clear hk) | (go_at_call 140; (with_reducible refine (HW.out _).mono ?_); rintro e' w' ⟨rfl, rfl⟩))
 all_goals clear hq hg HT HG HW
 all_goals first
  | (refine bodyPost_ret (results_cell_row (p := 6) rfl _ _ w.heap.size 238 _ (0, 0) _ rfl (set3 _ _ _ R2.out) Tryz.underlying238 rfl (by kernel_rfl)) rfl ?_; refine ⟨?_, set3_kp K2.out (Nat.le_refl _) _ _ _⟩; clear R2 K2)
  | (refine bodyPost_ret (results_cell_row (p := 6) rfl _ _ w.heap.size 238 _ (0, 0) _ rfl (mH w (.cells #[(2:Int), (0:Int), (0:Int)] 238)) Tryz.underlying238 rfl (by kernel_rfl)) rfl ?_; refine ⟨?_, kA _ _⟩)
  | (refine bodyPost_ret (results_cell_row (p := 6) rfl _ _ w.heap.size 238 _ (0, 0) _ rfl (mH w (.cells #[(4:Int), (0:Int), (0:Int)] 238)) Tryz.underlying238 rfl (by kernel_rfl)) rfl ?_; refine ⟨?_, kA _ _⟩)
 all_goals first
  | (rename_i h; obtain rfl := eq_of_beq h; first | rfl | exact absurd HK.out (by decide) | kernel_rfl)
  | (have hs := HK.out; clear HK; rcases hs with rfl | rfl | rfl | rfl | rfl | rfl | rfl | rfl | rfl | rfl | rfl | rfl | rfl | rfl <;> first | rfl | (exfalso; contradiction))
theorem tcoord_8 (p s : Int) (hs : s = 1 ∨ s = 2 ∨ s = 3 ∨ s = 4 ∨ s = 5 ∨ s = 6 ∨ s = 7 ∨ s = 8 ∨ s = 9 ∨ s = 10 ∨ s = 11 ∨ s = 12 ∨ s = 13 ∨ s = 14) (w : World) : Calls Tryz.prog 196 #[.int .i64 p, .int .i64 8, .int .i64 s] w fun e' w' => e' = .returned (.agg (cellV (coordT p 8 s))) ∧ Kp w w' := by
 have HW := hD (fun w => twaits_1 s hs w); have HT := hD (fun s w => tgoes_any s w); have HG := hD (fun s w => tresends_any s w); have K1 := hD (kA w (.cells #[(0:Int), (0:Int), (0:Int)] 238)); have HZ := hD (mH w (.cells #[(0:Int), (0:Int), (0:Int)] 238)); obtain ⟨z0, z1, z2⟩ := cells3 HZ.out; have fz := froz3 HZ.out; have hq := a2X Tryz.underlying245 8 s; have hg := aX 245 (by kernel_rfl); have HK := hD hs; clear hs; go_enter Tryz.func196, Tryz.ntmps196; go_wp2_with (first | (go_at_call 210; (with_reducible refine (HT.out _ _).mono ?_); rintro e' w2 ⟨rfl, hk⟩; have K2 := hD (kT K1.out hk); have R2 := hD (rZ hk HZ.out); obtain ⟨y0, y1, y2⟩ := cells3 R2.out; have fy := froz3 R2.out; clear hk) | (go_at_call 211; (with_reducible refine (HG.out _ _).mono ?_); rintro e' w2 ⟨rfl, hk⟩; have K2 := hD (kT K1.out hk); have R2 := hD (rZ hk HZ.out); obtain ⟨y0, y1, y2⟩ := cells3 R2.out; have fy := froz3 R2.out; clear hk) | (go_at_call 140; (with_reducible refine (HW.out _).mono ?_); rintro e' w' ⟨rfl, rfl⟩))
 all_goals clear hq hg HT HG HW
 all_goals first
  | (refine bodyPost_ret (results_cell_row (p := 6) rfl _ _ w.heap.size 238 _ (0, 0) _ rfl (set3 _ _ _ R2.out) Tryz.underlying238 rfl (by kernel_rfl)) rfl ?_; refine ⟨?_, set3_kp K2.out (Nat.le_refl _) _ _ _⟩; clear R2 K2)
  | (refine bodyPost_ret (results_cell_row (p := 6) rfl _ _ w.heap.size 238 _ (0, 0) _ rfl (mH w (.cells #[(2:Int), (0:Int), (0:Int)] 238)) Tryz.underlying238 rfl (by kernel_rfl)) rfl ?_; refine ⟨?_, kA _ _⟩)
  | (refine bodyPost_ret (results_cell_row (p := 6) rfl _ _ w.heap.size 238 _ (0, 0) _ rfl (mH w (.cells #[(4:Int), (0:Int), (0:Int)] 238)) Tryz.underlying238 rfl (by kernel_rfl)) rfl ?_; refine ⟨?_, kA _ _⟩)
 all_goals first
  | (rename_i h; obtain rfl := eq_of_beq h; first | rfl | exact absurd HK.out (by decide) | kernel_rfl)
  | (have hs := HK.out; clear HK; rcases hs with rfl | rfl | rfl | rfl | rfl | rfl | rfl | rfl | rfl | rfl | rfl | rfl | rfl | rfl <;> first | rfl | (exfalso; contradiction))
theorem tpart_2 (s : Int) (hs : s = 1 ∨ s = 2 ∨ s = 4 ∨ s = 5 ∨ s = 6 ∨ s = 7 ∨ s = 8 ∨ s = 9 ∨ s = 10 ∨ s = 11 ∨ s = 12 ∨ s = 13 ∨ s = 14) (w : World) : Calls Tryz.prog 197 #[.int .i64 2, .int .i64 s] w fun e' w' => e' = .returned (.agg (cellV (prtT 2 s))) ∧ Kp w w' := by
 have HW := hD (fun w => twaits_2 s (by omega) w); have HT := hD (fun s w => tgoes_any s w); have HG := hD (fun s w => tresends_any s w); have K1 := hD (kA w (.cells #[(0:Int), (0:Int), (0:Int)] 238)); have HZ := hD (mH w (.cells #[(0:Int), (0:Int), (0:Int)] 238)); obtain ⟨z0, z1, z2⟩ := cells3 HZ.out; have fz := froz3 HZ.out; have hq := a2X Tryz.underlying245 2 s; have hg := aX 245 (by kernel_rfl); have HK := hD hs; clear hs; go_enter Tryz.func197, Tryz.ntmps197; go_wp2_with (first | (go_at_call 210; (with_reducible refine (HT.out _ _).mono ?_); rintro e' w2 ⟨rfl, hk⟩; have K2 := hD (kT K1.out hk); have R2 := hD (rZ hk HZ.out); obtain ⟨y0, y1, y2⟩ := cells3 R2.out; have fy := froz3 R2.out; clear hk) | (go_at_call 211; (with_reducible refine (HG.out _ _).mono ?_); rintro e' w2 ⟨rfl, hk⟩; have K2 := hD (kT K1.out hk); have R2 := hD (rZ hk HZ.out); obtain ⟨y0, y1, y2⟩ := cells3 R2.out; have fy := froz3 R2.out; clear hk) | (go_at_call 140; (with_reducible refine (HW.out _).mono ?_); rintro e' w' ⟨rfl, rfl⟩))
 all_goals clear hq hg HT HG HW
 all_goals first
  | (refine bodyPost_ret (results_cell_row (p := 4) rfl _ _ w.heap.size 238 _ (0, 0) _ rfl (set3 _ _ _ R2.out) Tryz.underlying238 rfl (by kernel_rfl)) rfl ?_; refine ⟨?_, set3_kp K2.out (Nat.le_refl _) _ _ _⟩; clear R2 K2)
  | (refine bodyPost_ret (results_cell_row (p := 4) rfl _ _ w.heap.size 238 _ (0, 0) _ rfl (mH w (.cells #[(2:Int), (0:Int), (0:Int)] 238)) Tryz.underlying238 rfl (by kernel_rfl)) rfl ?_; refine ⟨?_, kA _ _⟩)
  | (refine bodyPost_ret (results_cell_row (p := 4) rfl _ _ w.heap.size 238 _ (0, 0) _ rfl (mH w (.cells #[(4:Int), (0:Int), (0:Int)] 238)) Tryz.underlying238 rfl (by kernel_rfl)) rfl ?_; refine ⟨?_, kA _ _⟩)
 all_goals first
  | (rename_i h; obtain rfl := eq_of_beq h; first | rfl | exact absurd HK.out (by decide) | kernel_rfl)
  | (have hs := HK.out; clear HK; rcases hs with rfl | rfl | rfl | rfl | rfl | rfl | rfl | rfl | rfl | rfl | rfl | rfl | rfl <;> first | rfl | (exfalso; contradiction))
theorem tpart_9 (s : Int) (hs : s = 1 ∨ s = 2 ∨ s = 4 ∨ s = 5 ∨ s = 6 ∨ s = 7 ∨ s = 8 ∨ s = 9 ∨ s = 10 ∨ s = 11 ∨ s = 12 ∨ s = 13 ∨ s = 14) (w : World) : Calls Tryz.prog 197 #[.int .i64 9, .int .i64 s] w fun e' w' => e' = .returned (.agg (cellV (prtT 9 s))) ∧ Kp w w' := by
 have HW := hD (fun w => twaits_2 s (by omega) w); have HT := hD (fun s w => tgoes_any s w); have HG := hD (fun s w => tresends_any s w); have K1 := hD (kA w (.cells #[(0:Int), (0:Int), (0:Int)] 238)); have HZ := hD (mH w (.cells #[(0:Int), (0:Int), (0:Int)] 238)); obtain ⟨z0, z1, z2⟩ := cells3 HZ.out; have fz := froz3 HZ.out; have hq := a2X Tryz.underlying245 9 s; have hg := aX 245 (by kernel_rfl); have HK := hD hs; clear hs; go_enter Tryz.func197, Tryz.ntmps197; go_wp2_with (first | (go_at_call 210; (with_reducible refine (HT.out _ _).mono ?_); rintro e' w2 ⟨rfl, hk⟩; have K2 := hD (kT K1.out hk); have R2 := hD (rZ hk HZ.out); obtain ⟨y0, y1, y2⟩ := cells3 R2.out; have fy := froz3 R2.out; clear hk) | (go_at_call 211; (with_reducible refine (HG.out _ _).mono ?_); rintro e' w2 ⟨rfl, hk⟩; have K2 := hD (kT K1.out hk); have R2 := hD (rZ hk HZ.out); obtain ⟨y0, y1, y2⟩ := cells3 R2.out; have fy := froz3 R2.out; clear hk) | (go_at_call 140; (with_reducible refine (HW.out _).mono ?_); rintro e' w' ⟨rfl, rfl⟩))
 all_goals clear hq hg HT HG HW
 all_goals first
  | (refine bodyPost_ret (results_cell_row (p := 4) rfl _ _ w.heap.size 238 _ (0, 0) _ rfl (set3 _ _ _ R2.out) Tryz.underlying238 rfl (by kernel_rfl)) rfl ?_; refine ⟨?_, set3_kp K2.out (Nat.le_refl _) _ _ _⟩; clear R2 K2)
  | (refine bodyPost_ret (results_cell_row (p := 4) rfl _ _ w.heap.size 238 _ (0, 0) _ rfl (mH w (.cells #[(2:Int), (0:Int), (0:Int)] 238)) Tryz.underlying238 rfl (by kernel_rfl)) rfl ?_; refine ⟨?_, kA _ _⟩)
  | (refine bodyPost_ret (results_cell_row (p := 4) rfl _ _ w.heap.size 238 _ (0, 0) _ rfl (mH w (.cells #[(4:Int), (0:Int), (0:Int)] 238)) Tryz.underlying238 rfl (by kernel_rfl)) rfl ?_; refine ⟨?_, kA _ _⟩)
 all_goals first
  | (rename_i h; obtain rfl := eq_of_beq h; first | rfl | exact absurd HK.out (by decide) | kernel_rfl)
  | (have hs := HK.out; clear HK; rcases hs with rfl | rfl | rfl | rfl | rfl | rfl | rfl | rfl | rfl | rfl | rfl | rfl | rfl <;> first | rfl | (exfalso; contradiction))
theorem tpart_10 (s : Int) (hs : s = 1 ∨ s = 2 ∨ s = 4 ∨ s = 5 ∨ s = 6 ∨ s = 7 ∨ s = 8 ∨ s = 9 ∨ s = 10 ∨ s = 11 ∨ s = 12 ∨ s = 13 ∨ s = 14) (w : World) : Calls Tryz.prog 197 #[.int .i64 10, .int .i64 s] w fun e' w' => e' = .returned (.agg (cellV (prtT 10 s))) ∧ Kp w w' := by
 have HW := hD (fun w => twaits_2 s (by omega) w); have HT := hD (fun s w => tgoes_any s w); have HG := hD (fun s w => tresends_any s w); have K1 := hD (kA w (.cells #[(0:Int), (0:Int), (0:Int)] 238)); have HZ := hD (mH w (.cells #[(0:Int), (0:Int), (0:Int)] 238)); obtain ⟨z0, z1, z2⟩ := cells3 HZ.out; have fz := froz3 HZ.out; have hq := a2X Tryz.underlying245 10 s; have hg := aX 245 (by kernel_rfl); have HK := hD hs; clear hs; go_enter Tryz.func197, Tryz.ntmps197; go_wp2_with (first | (go_at_call 210; (with_reducible refine (HT.out _ _).mono ?_); rintro e' w2 ⟨rfl, hk⟩; have K2 := hD (kT K1.out hk); have R2 := hD (rZ hk HZ.out); obtain ⟨y0, y1, y2⟩ := cells3 R2.out; have fy := froz3 R2.out; clear hk) | (go_at_call 211; (with_reducible refine (HG.out _ _).mono ?_); rintro e' w2 ⟨rfl, hk⟩; have K2 := hD (kT K1.out hk); have R2 := hD (rZ hk HZ.out); obtain ⟨y0, y1, y2⟩ := cells3 R2.out; have fy := froz3 R2.out; clear hk) | (go_at_call 140; (with_reducible refine (HW.out _).mono ?_); rintro e' w' ⟨rfl, rfl⟩))
 all_goals clear hq hg HT HG HW
 all_goals first
  | (refine bodyPost_ret (results_cell_row (p := 4) rfl _ _ w.heap.size 238 _ (0, 0) _ rfl (set3 _ _ _ R2.out) Tryz.underlying238 rfl (by kernel_rfl)) rfl ?_; refine ⟨?_, set3_kp K2.out (Nat.le_refl _) _ _ _⟩; clear R2 K2)
  | (refine bodyPost_ret (results_cell_row (p := 4) rfl _ _ w.heap.size 238 _ (0, 0) _ rfl (mH w (.cells #[(2:Int), (0:Int), (0:Int)] 238)) Tryz.underlying238 rfl (by kernel_rfl)) rfl ?_; refine ⟨?_, kA _ _⟩)
  | (refine bodyPost_ret (results_cell_row (p := 4) rfl _ _ w.heap.size 238 _ (0, 0) _ rfl (mH w (.cells #[(4:Int), (0:Int), (0:Int)] 238)) Tryz.underlying238 rfl (by kernel_rfl)) rfl ?_; refine ⟨?_, kA _ _⟩)
 all_goals first
  | (rename_i h; obtain rfl := eq_of_beq h; first | rfl | exact absurd HK.out (by decide) | kernel_rfl)
  | (have hs := HK.out; clear HK; rcases hs with rfl | rfl | rfl | rfl | rfl | rfl | rfl | rfl | rfl | rfl | rfl | rfl | rfl <;> first | rfl | (exfalso; contradiction))
theorem tpart_11 (s : Int) (hs : s = 1 ∨ s = 2 ∨ s = 4 ∨ s = 5 ∨ s = 6 ∨ s = 7 ∨ s = 8 ∨ s = 9 ∨ s = 10 ∨ s = 11 ∨ s = 12 ∨ s = 13 ∨ s = 14) (w : World) : Calls Tryz.prog 197 #[.int .i64 11, .int .i64 s] w fun e' w' => e' = .returned (.agg (cellV (prtT 11 s))) ∧ Kp w w' := by
 have HW := hD (fun w => twaits_2 s (by omega) w); have HT := hD (fun s w => tgoes_any s w); have HG := hD (fun s w => tresends_any s w); have K1 := hD (kA w (.cells #[(0:Int), (0:Int), (0:Int)] 238)); have HZ := hD (mH w (.cells #[(0:Int), (0:Int), (0:Int)] 238)); obtain ⟨z0, z1, z2⟩ := cells3 HZ.out; have fz := froz3 HZ.out; have hq := a2X Tryz.underlying245 11 s; have hg := aX 245 (by kernel_rfl); have HK := hD hs; clear hs; go_enter Tryz.func197, Tryz.ntmps197; go_wp2_with (first | (go_at_call 210; (with_reducible refine (HT.out _ _).mono ?_); rintro e' w2 ⟨rfl, hk⟩; have K2 := hD (kT K1.out hk); have R2 := hD (rZ hk HZ.out); obtain ⟨y0, y1, y2⟩ := cells3 R2.out; have fy := froz3 R2.out; clear hk) | (go_at_call 211; (with_reducible refine (HG.out _ _).mono ?_); rintro e' w2 ⟨rfl, hk⟩; have K2 := hD (kT K1.out hk); have R2 := hD (rZ hk HZ.out); obtain ⟨y0, y1, y2⟩ := cells3 R2.out; have fy := froz3 R2.out; clear hk) | (go_at_call 140; (with_reducible refine (HW.out _).mono ?_); rintro e' w' ⟨rfl, rfl⟩))
 all_goals clear hq hg HT HG HW
 all_goals first
  | (refine bodyPost_ret (results_cell_row (p := 4) rfl _ _ w.heap.size 238 _ (0, 0) _ rfl (set3 _ _ _ R2.out) Tryz.underlying238 rfl (by kernel_rfl)) rfl ?_; refine ⟨?_, set3_kp K2.out (Nat.le_refl _) _ _ _⟩; clear R2 K2)
  | (refine bodyPost_ret (results_cell_row (p := 4) rfl _ _ w.heap.size 238 _ (0, 0) _ rfl (mH w (.cells #[(2:Int), (0:Int), (0:Int)] 238)) Tryz.underlying238 rfl (by kernel_rfl)) rfl ?_; refine ⟨?_, kA _ _⟩)
  | (refine bodyPost_ret (results_cell_row (p := 4) rfl _ _ w.heap.size 238 _ (0, 0) _ rfl (mH w (.cells #[(4:Int), (0:Int), (0:Int)] 238)) Tryz.underlying238 rfl (by kernel_rfl)) rfl ?_; refine ⟨?_, kA _ _⟩)
 all_goals first
  | (rename_i h; obtain rfl := eq_of_beq h; first | rfl | exact absurd HK.out (by decide) | kernel_rfl)
  | (have hs := HK.out; clear HK; rcases hs with rfl | rfl | rfl | rfl | rfl | rfl | rfl | rfl | rfl | rfl | rfl | rfl | rfl <;> first | rfl | (exfalso; contradiction))
theorem tpart_12 (s : Int) (hs : s = 1 ∨ s = 2 ∨ s = 4 ∨ s = 5 ∨ s = 6 ∨ s = 7 ∨ s = 8 ∨ s = 9 ∨ s = 10 ∨ s = 11 ∨ s = 12 ∨ s = 13 ∨ s = 14) (w : World) : Calls Tryz.prog 197 #[.int .i64 12, .int .i64 s] w fun e' w' => e' = .returned (.agg (cellV (prtT 12 s))) ∧ Kp w w' := by
 have HW := hD (fun w => twaits_2 s (by omega) w); have HT := hD (fun s w => tgoes_any s w); have HG := hD (fun s w => tresends_any s w); have K1 := hD (kA w (.cells #[(0:Int), (0:Int), (0:Int)] 238)); have HZ := hD (mH w (.cells #[(0:Int), (0:Int), (0:Int)] 238)); obtain ⟨z0, z1, z2⟩ := cells3 HZ.out; have fz := froz3 HZ.out; have hq := a2X Tryz.underlying245 12 s; have hg := aX 245 (by kernel_rfl); have HK := hD hs; clear hs; go_enter Tryz.func197, Tryz.ntmps197; go_wp2_with (first | (go_at_call 210; (with_reducible refine (HT.out _ _).mono ?_); rintro e' w2 ⟨rfl, hk⟩; have K2 := hD (kT K1.out hk); have R2 := hD (rZ hk HZ.out); obtain ⟨y0, y1, y2⟩ := cells3 R2.out; have fy := froz3 R2.out; clear hk) | (go_at_call 211; (with_reducible refine (HG.out _ _).mono ?_); rintro e' w2 ⟨rfl, hk⟩; have K2 := hD (kT K1.out hk); have R2 := hD (rZ hk HZ.out); obtain ⟨y0, y1, y2⟩ := cells3 R2.out; have fy := froz3 R2.out; clear hk) | (go_at_call 140; (with_reducible refine (HW.out _).mono ?_); rintro e' w' ⟨rfl, rfl⟩))
 all_goals clear hq hg HT HG HW
 all_goals first
  | (refine bodyPost_ret (results_cell_row (p := 4) rfl _ _ w.heap.size 238 _ (0, 0) _ rfl (set3 _ _ _ R2.out) Tryz.underlying238 rfl (by kernel_rfl)) rfl ?_; refine ⟨?_, set3_kp K2.out (Nat.le_refl _) _ _ _⟩; clear R2 K2)
  | (refine bodyPost_ret (results_cell_row (p := 4) rfl _ _ w.heap.size 238 _ (0, 0) _ rfl (mH w (.cells #[(2:Int), (0:Int), (0:Int)] 238)) Tryz.underlying238 rfl (by kernel_rfl)) rfl ?_; refine ⟨?_, kA _ _⟩)
  | (refine bodyPost_ret (results_cell_row (p := 4) rfl _ _ w.heap.size 238 _ (0, 0) _ rfl (mH w (.cells #[(4:Int), (0:Int), (0:Int)] 238)) Tryz.underlying238 rfl (by kernel_rfl)) rfl ?_; refine ⟨?_, kA _ _⟩)
 all_goals first
  | (rename_i h; obtain rfl := eq_of_beq h; first | rfl | exact absurd HK.out (by decide) | kernel_rfl)
  | (have hs := HK.out; clear HK; rcases hs with rfl | rfl | rfl | rfl | rfl | rfl | rfl | rfl | rfl | rfl | rfl | rfl | rfl <;> first | rfl | (exfalso; contradiction))
theorem tpart_13 (s : Int) (hs : s = 1 ∨ s = 2 ∨ s = 4 ∨ s = 5 ∨ s = 6 ∨ s = 7 ∨ s = 8 ∨ s = 9 ∨ s = 10 ∨ s = 11 ∨ s = 12 ∨ s = 13 ∨ s = 14) (w : World) : Calls Tryz.prog 197 #[.int .i64 13, .int .i64 s] w fun e' w' => e' = .returned (.agg (cellV (prtT 13 s))) ∧ Kp w w' := by
 have HW := hD (fun w => twaits_2 s (by omega) w); have HT := hD (fun s w => tgoes_any s w); have HG := hD (fun s w => tresends_any s w); have K1 := hD (kA w (.cells #[(0:Int), (0:Int), (0:Int)] 238)); have HZ := hD (mH w (.cells #[(0:Int), (0:Int), (0:Int)] 238)); obtain ⟨z0, z1, z2⟩ := cells3 HZ.out; have fz := froz3 HZ.out; have hq := a2X Tryz.underlying245 13 s; have hg := aX 245 (by kernel_rfl); have HK := hD hs; clear hs; go_enter Tryz.func197, Tryz.ntmps197; go_wp2_with (first | (go_at_call 210; (with_reducible refine (HT.out _ _).mono ?_); rintro e' w2 ⟨rfl, hk⟩; have K2 := hD (kT K1.out hk); have R2 := hD (rZ hk HZ.out); obtain ⟨y0, y1, y2⟩ := cells3 R2.out; have fy := froz3 R2.out; clear hk) | (go_at_call 211; (with_reducible refine (HG.out _ _).mono ?_); rintro e' w2 ⟨rfl, hk⟩; have K2 := hD (kT K1.out hk); have R2 := hD (rZ hk HZ.out); obtain ⟨y0, y1, y2⟩ := cells3 R2.out; have fy := froz3 R2.out; clear hk) | (go_at_call 140; (with_reducible refine (HW.out _).mono ?_); rintro e' w' ⟨rfl, rfl⟩))
 all_goals clear hq hg HT HG HW
 all_goals first
  | (refine bodyPost_ret (results_cell_row (p := 4) rfl _ _ w.heap.size 238 _ (0, 0) _ rfl (set3 _ _ _ R2.out) Tryz.underlying238 rfl (by kernel_rfl)) rfl ?_; refine ⟨?_, set3_kp K2.out (Nat.le_refl _) _ _ _⟩; clear R2 K2)
  | (refine bodyPost_ret (results_cell_row (p := 4) rfl _ _ w.heap.size 238 _ (0, 0) _ rfl (mH w (.cells #[(2:Int), (0:Int), (0:Int)] 238)) Tryz.underlying238 rfl (by kernel_rfl)) rfl ?_; refine ⟨?_, kA _ _⟩)
  | (refine bodyPost_ret (results_cell_row (p := 4) rfl _ _ w.heap.size 238 _ (0, 0) _ rfl (mH w (.cells #[(4:Int), (0:Int), (0:Int)] 238)) Tryz.underlying238 rfl (by kernel_rfl)) rfl ?_; refine ⟨?_, kA _ _⟩)
 all_goals first
  | (rename_i h; obtain rfl := eq_of_beq h; first | rfl | exact absurd HK.out (by decide) | kernel_rfl)
  | (have hs := HK.out; clear HK; rcases hs with rfl | rfl | rfl | rfl | rfl | rfl | rfl | rfl | rfl | rfl | rfl | rfl | rfl <;> first | rfl | (exfalso; contradiction))
theorem tpart_14 (s : Int) (hs : s = 1 ∨ s = 2 ∨ s = 4 ∨ s = 5 ∨ s = 6 ∨ s = 7 ∨ s = 8 ∨ s = 9 ∨ s = 10 ∨ s = 11 ∨ s = 12 ∨ s = 13 ∨ s = 14) (w : World) : Calls Tryz.prog 197 #[.int .i64 14, .int .i64 s] w fun e' w' => e' = .returned (.agg (cellV (prtT 14 s))) ∧ Kp w w' := by
 have HW := hD (fun w => twaits_2 s (by omega) w); have HT := hD (fun s w => tgoes_any s w); have HG := hD (fun s w => tresends_any s w); have K1 := hD (kA w (.cells #[(0:Int), (0:Int), (0:Int)] 238)); have HZ := hD (mH w (.cells #[(0:Int), (0:Int), (0:Int)] 238)); obtain ⟨z0, z1, z2⟩ := cells3 HZ.out; have fz := froz3 HZ.out; have hq := a2X Tryz.underlying245 14 s; have hg := aX 245 (by kernel_rfl); have HK := hD hs; clear hs; go_enter Tryz.func197, Tryz.ntmps197; go_wp2_with (first | (go_at_call 210; (with_reducible refine (HT.out _ _).mono ?_); rintro e' w2 ⟨rfl, hk⟩; have K2 := hD (kT K1.out hk); have R2 := hD (rZ hk HZ.out); obtain ⟨y0, y1, y2⟩ := cells3 R2.out; have fy := froz3 R2.out; clear hk) | (go_at_call 211; (with_reducible refine (HG.out _ _).mono ?_); rintro e' w2 ⟨rfl, hk⟩; have K2 := hD (kT K1.out hk); have R2 := hD (rZ hk HZ.out); obtain ⟨y0, y1, y2⟩ := cells3 R2.out; have fy := froz3 R2.out; clear hk) | (go_at_call 140; (with_reducible refine (HW.out _).mono ?_); rintro e' w' ⟨rfl, rfl⟩))
 all_goals clear hq hg HT HG HW
 all_goals first
  | (refine bodyPost_ret (results_cell_row (p := 4) rfl _ _ w.heap.size 238 _ (0, 0) _ rfl (set3 _ _ _ R2.out) Tryz.underlying238 rfl (by kernel_rfl)) rfl ?_; refine ⟨?_, set3_kp K2.out (Nat.le_refl _) _ _ _⟩; clear R2 K2)
  | (refine bodyPost_ret (results_cell_row (p := 4) rfl _ _ w.heap.size 238 _ (0, 0) _ rfl (mH w (.cells #[(2:Int), (0:Int), (0:Int)] 238)) Tryz.underlying238 rfl (by kernel_rfl)) rfl ?_; refine ⟨?_, kA _ _⟩)
  | (refine bodyPost_ret (results_cell_row (p := 4) rfl _ _ w.heap.size 238 _ (0, 0) _ rfl (mH w (.cells #[(4:Int), (0:Int), (0:Int)] 238)) Tryz.underlying238 rfl (by kernel_rfl)) rfl ?_; refine ⟨?_, kA _ _⟩)
 all_goals first
  | (rename_i h; obtain rfl := eq_of_beq h; first | rfl | exact absurd HK.out (by decide) | kernel_rfl)
  | (have hs := HK.out; clear HK; rcases hs with rfl | rfl | rfl | rfl | rfl | rfl | rfl | rfl | rfl | rfl | rfl | rfl | rfl <;> first | rfl | (exfalso; contradiction))
theorem tdone_1 (p s : Int) (hs : s = 1 ∨ s = 2 ∨ s = 3 ∨ s = 4 ∨ s = 5 ∨ s = 6 ∨ s = 7 ∨ s = 8 ∨ s = 9 ∨ s = 10 ∨ s = 11 ∨ s = 12 ∨ s = 13 ∨ s = 14) (w : World) : Calls Tryz.prog 163 #[.int .i64 p, .int .i64 1, .int .i64 s] w fun e' w' => e' = .returned (.int .i64 (goesT p 1 s)) ∧ w = w' := by
 have hq := a2X Tryz.underlying245 1 s; have hg := aX 245 (by kernel_rfl); have HK := hD hs; clear hs; go_enter Tryz.func163, Tryz.ntmps163; go_wp2
 all_goals clear hq hg
 all_goals (go_ret; refine ⟨?_, rfl⟩)
 all_goals first
  | (rename_i h; obtain rfl := eq_of_beq h; first | rfl | exact absurd HK.out (by decide) | kernel_rfl)
  | (have hs := HK.out; clear HK; rcases hs with rfl | rfl | rfl | rfl | rfl | rfl | rfl | rfl | rfl | rfl | rfl | rfl | rfl | rfl <;> first | rfl | (exfalso; contradiction))
theorem tdone_2 (p s : Int) (hs : s = 1 ∨ s = 2 ∨ s = 3 ∨ s = 4 ∨ s = 5 ∨ s = 6 ∨ s = 7 ∨ s = 8 ∨ s = 9 ∨ s = 10 ∨ s = 11 ∨ s = 12 ∨ s = 13 ∨ s = 14) (w : World) : Calls Tryz.prog 163 #[.int .i64 p, .int .i64 2, .int .i64 s] w fun e' w' => e' = .returned (.int .i64 (goesT p 2 s)) ∧ w = w' := by
 have hq := a2X Tryz.underlying245 2 s; have hg := aX 245 (by kernel_rfl); have HK := hD hs; clear hs; go_enter Tryz.func163, Tryz.ntmps163; go_wp2
 all_goals clear hq hg
 all_goals (go_ret; refine ⟨?_, rfl⟩)
 all_goals first
  | (rename_i h; obtain rfl := eq_of_beq h; first | rfl | exact absurd HK.out (by decide) | kernel_rfl)
  | (have hs := HK.out; clear HK; rcases hs with rfl | rfl | rfl | rfl | rfl | rfl | rfl | rfl | rfl | rfl | rfl | rfl | rfl | rfl <;> first | rfl | (exfalso; contradiction))
theorem tdone_3_1 (s : Int) (hs : s = 1 ∨ s = 2 ∨ s = 3 ∨ s = 5 ∨ s = 6 ∨ s = 7 ∨ s = 8 ∨ s = 9 ∨ s = 10 ∨ s = 11 ∨ s = 12 ∨ s = 13 ∨ s = 14) (w : World) : Calls Tryz.prog 163 #[.int .i64 1, .int .i64 3, .int .i64 s] w fun e' w' => e' = .returned (.int .i64 (goesT 1 3 s)) ∧ w = w' := by
 have hq := a2X Tryz.underlying245 3 s; have hg := aX 245 (by kernel_rfl); have HK := hD hs; clear hs; go_enter Tryz.func163, Tryz.ntmps163; go_wp2
 all_goals clear hq hg
 all_goals (go_ret; refine ⟨?_, rfl⟩)
 all_goals first
  | (rename_i h; obtain rfl := eq_of_beq h; first | rfl | exact absurd HK.out (by decide) | kernel_rfl)
  | (have hs := HK.out; clear HK; rcases hs with rfl | rfl | rfl | rfl | rfl | rfl | rfl | rfl | rfl | rfl | rfl | rfl | rfl <;> first | rfl | (exfalso; contradiction))
theorem tdone_3_2 (s : Int) (hs : s = 1 ∨ s = 2 ∨ s = 3 ∨ s = 4 ∨ s = 5 ∨ s = 6 ∨ s = 7 ∨ s = 8 ∨ s = 9 ∨ s = 10 ∨ s = 11 ∨ s = 12 ∨ s = 13 ∨ s = 14) (w : World) : Calls Tryz.prog 163 #[.int .i64 2, .int .i64 3, .int .i64 s] w fun e' w' => e' = .returned (.int .i64 (goesT 2 3 s)) ∧ w = w' := by
 have hq := a2X Tryz.underlying245 3 s; have hg := aX 245 (by kernel_rfl); have HK := hD hs; clear hs; go_enter Tryz.func163, Tryz.ntmps163; go_wp2
 all_goals clear hq hg
 all_goals (go_ret; refine ⟨?_, rfl⟩)
 all_goals first
  | (rename_i h; obtain rfl := eq_of_beq h; first | rfl | exact absurd HK.out (by decide) | kernel_rfl)
  | (have hs := HK.out; clear HK; rcases hs with rfl | rfl | rfl | rfl | rfl | rfl | rfl | rfl | rfl | rfl | rfl | rfl | rfl | rfl <;> first | rfl | (exfalso; contradiction))
theorem tdone_4 (p s : Int) (hs : s = 1 ∨ s = 2 ∨ s = 3 ∨ s = 4 ∨ s = 5 ∨ s = 6 ∨ s = 7 ∨ s = 8 ∨ s = 9 ∨ s = 10 ∨ s = 11 ∨ s = 12 ∨ s = 13 ∨ s = 14) (w : World) : Calls Tryz.prog 163 #[.int .i64 p, .int .i64 4, .int .i64 s] w fun e' w' => e' = .returned (.int .i64 (goesT p 4 s)) ∧ w = w' := by
 have hq := a2X Tryz.underlying245 4 s; have hg := aX 245 (by kernel_rfl); have HK := hD hs; clear hs; go_enter Tryz.func163, Tryz.ntmps163; go_wp2
 all_goals clear hq hg
 all_goals (go_ret; refine ⟨?_, rfl⟩)
 all_goals first
  | (rename_i h; obtain rfl := eq_of_beq h; first | rfl | exact absurd HK.out (by decide) | kernel_rfl)
  | (have hs := HK.out; clear HK; rcases hs with rfl | rfl | rfl | rfl | rfl | rfl | rfl | rfl | rfl | rfl | rfl | rfl | rfl | rfl <;> first | rfl | (exfalso; contradiction))
theorem tdone_5 (p s : Int) (hs : s = 1 ∨ s = 2 ∨ s = 3 ∨ s = 4 ∨ s = 5 ∨ s = 6 ∨ s = 7 ∨ s = 8 ∨ s = 9 ∨ s = 10 ∨ s = 11 ∨ s = 12 ∨ s = 13 ∨ s = 14) (w : World) : Calls Tryz.prog 163 #[.int .i64 p, .int .i64 5, .int .i64 s] w fun e' w' => e' = .returned (.int .i64 (goesT p 5 s)) ∧ w = w' := by
 have hq := a2X Tryz.underlying245 5 s; have hg := aX 245 (by kernel_rfl); have HK := hD hs; clear hs; go_enter Tryz.func163, Tryz.ntmps163; go_wp2
 all_goals clear hq hg
 all_goals (go_ret; refine ⟨?_, rfl⟩)
 all_goals first
  | (rename_i h; obtain rfl := eq_of_beq h; first | rfl | exact absurd HK.out (by decide) | kernel_rfl)
  | (have hs := HK.out; clear HK; rcases hs with rfl | rfl | rfl | rfl | rfl | rfl | rfl | rfl | rfl | rfl | rfl | rfl | rfl | rfl <;> first | rfl | (exfalso; contradiction))
theorem tdone_6 (p s : Int) (hs : s = 1 ∨ s = 2 ∨ s = 3 ∨ s = 4 ∨ s = 5 ∨ s = 6 ∨ s = 7 ∨ s = 8 ∨ s = 9 ∨ s = 10 ∨ s = 11 ∨ s = 12 ∨ s = 13 ∨ s = 14) (w : World) : Calls Tryz.prog 163 #[.int .i64 p, .int .i64 6, .int .i64 s] w fun e' w' => e' = .returned (.int .i64 (goesT p 6 s)) ∧ w = w' := by
 have hq := a2X Tryz.underlying245 6 s; have hg := aX 245 (by kernel_rfl); have HK := hD hs; clear hs; go_enter Tryz.func163, Tryz.ntmps163; go_wp2
 all_goals clear hq hg
 all_goals (go_ret; refine ⟨?_, rfl⟩)
 all_goals first
  | (rename_i h; obtain rfl := eq_of_beq h; first | rfl | exact absurd HK.out (by decide) | kernel_rfl)
  | (have hs := HK.out; clear HK; rcases hs with rfl | rfl | rfl | rfl | rfl | rfl | rfl | rfl | rfl | rfl | rfl | rfl | rfl | rfl <;> first | rfl | (exfalso; contradiction))
theorem tdone_7 (p s : Int) (hs : s = 1 ∨ s = 2 ∨ s = 3 ∨ s = 4 ∨ s = 5 ∨ s = 6 ∨ s = 7 ∨ s = 8 ∨ s = 9 ∨ s = 10 ∨ s = 11 ∨ s = 12 ∨ s = 13 ∨ s = 14) (w : World) : Calls Tryz.prog 163 #[.int .i64 p, .int .i64 7, .int .i64 s] w fun e' w' => e' = .returned (.int .i64 (goesT p 7 s)) ∧ w = w' := by
 have hq := a2X Tryz.underlying245 7 s; have hg := aX 245 (by kernel_rfl); have HK := hD hs; clear hs; go_enter Tryz.func163, Tryz.ntmps163; go_wp2
 all_goals clear hq hg
 all_goals (go_ret; refine ⟨?_, rfl⟩)
 all_goals first
  | (rename_i h; obtain rfl := eq_of_beq h; first | rfl | exact absurd HK.out (by decide) | kernel_rfl)
  | (have hs := HK.out; clear HK; rcases hs with rfl | rfl | rfl | rfl | rfl | rfl | rfl | rfl | rfl | rfl | rfl | rfl | rfl | rfl <;> first | rfl | (exfalso; contradiction))
theorem tdone_8 (p s : Int) (hs : s = 1 ∨ s = 2 ∨ s = 3 ∨ s = 4 ∨ s = 5 ∨ s = 6 ∨ s = 7 ∨ s = 8 ∨ s = 9 ∨ s = 10 ∨ s = 11 ∨ s = 12 ∨ s = 13 ∨ s = 14) (w : World) : Calls Tryz.prog 163 #[.int .i64 p, .int .i64 8, .int .i64 s] w fun e' w' => e' = .returned (.int .i64 (goesT p 8 s)) ∧ w = w' := by
 have hq := a2X Tryz.underlying245 8 s; have hg := aX 245 (by kernel_rfl); have HK := hD hs; clear hs; go_enter Tryz.func163, Tryz.ntmps163; go_wp2
 all_goals clear hq hg
 all_goals (go_ret; refine ⟨?_, rfl⟩)
 all_goals first
  | (rename_i h; obtain rfl := eq_of_beq h; first | rfl | exact absurd HK.out (by decide) | kernel_rfl)
  | (have hs := HK.out; clear HK; rcases hs with rfl | rfl | rfl | rfl | rfl | rfl | rfl | rfl | rfl | rfl | rfl | rfl | rfl | rfl <;> first | rfl | (exfalso; contradiction))
theorem tdone_9 (p s : Int) (hs : s = 1 ∨ s = 2 ∨ s = 3 ∨ s = 4 ∨ s = 5 ∨ s = 6 ∨ s = 7 ∨ s = 8 ∨ s = 9 ∨ s = 10 ∨ s = 11 ∨ s = 12 ∨ s = 13 ∨ s = 14) (w : World) : Calls Tryz.prog 163 #[.int .i64 p, .int .i64 9, .int .i64 s] w fun e' w' => e' = .returned (.int .i64 (goesT p 9 s)) ∧ w = w' := by
 have hq := a2X Tryz.underlying245 9 s; have hg := aX 245 (by kernel_rfl); have HK := hD hs; clear hs; go_enter Tryz.func163, Tryz.ntmps163; go_wp2
 all_goals clear hq hg
 all_goals (go_ret; refine ⟨?_, rfl⟩)
 all_goals first
  | (rename_i h; obtain rfl := eq_of_beq h; first | rfl | exact absurd HK.out (by decide) | kernel_rfl)
  | (have hs := HK.out; clear HK; rcases hs with rfl | rfl | rfl | rfl | rfl | rfl | rfl | rfl | rfl | rfl | rfl | rfl | rfl | rfl <;> first | rfl | (exfalso; contradiction))
theorem tdone_10 (p s : Int) (hs : s = 1 ∨ s = 2 ∨ s = 3 ∨ s = 4 ∨ s = 5 ∨ s = 6 ∨ s = 7 ∨ s = 8 ∨ s = 9 ∨ s = 10 ∨ s = 11 ∨ s = 12 ∨ s = 13 ∨ s = 14) (w : World) : Calls Tryz.prog 163 #[.int .i64 p, .int .i64 10, .int .i64 s] w fun e' w' => e' = .returned (.int .i64 (goesT p 10 s)) ∧ w = w' := by
 have hq := a2X Tryz.underlying245 10 s; have hg := aX 245 (by kernel_rfl); have HK := hD hs; clear hs; go_enter Tryz.func163, Tryz.ntmps163; go_wp2
 all_goals clear hq hg
 all_goals (go_ret; refine ⟨?_, rfl⟩)
 all_goals first
  | (rename_i h; obtain rfl := eq_of_beq h; first | rfl | exact absurd HK.out (by decide) | kernel_rfl)
  | (have hs := HK.out; clear HK; rcases hs with rfl | rfl | rfl | rfl | rfl | rfl | rfl | rfl | rfl | rfl | rfl | rfl | rfl | rfl <;> first | rfl | (exfalso; contradiction))
theorem tdone_11 (p s : Int) (hs : s = 1 ∨ s = 2 ∨ s = 3 ∨ s = 4 ∨ s = 5 ∨ s = 6 ∨ s = 7 ∨ s = 8 ∨ s = 9 ∨ s = 10 ∨ s = 11 ∨ s = 12 ∨ s = 13 ∨ s = 14) (w : World) : Calls Tryz.prog 163 #[.int .i64 p, .int .i64 11, .int .i64 s] w fun e' w' => e' = .returned (.int .i64 (goesT p 11 s)) ∧ w = w' := by
 have hq := a2X Tryz.underlying245 11 s; have hg := aX 245 (by kernel_rfl); have HK := hD hs; clear hs; go_enter Tryz.func163, Tryz.ntmps163; go_wp2
 all_goals clear hq hg
 all_goals (go_ret; refine ⟨?_, rfl⟩)
 all_goals first
  | (rename_i h; obtain rfl := eq_of_beq h; first | rfl | exact absurd HK.out (by decide) | kernel_rfl)
  | (have hs := HK.out; clear HK; rcases hs with rfl | rfl | rfl | rfl | rfl | rfl | rfl | rfl | rfl | rfl | rfl | rfl | rfl | rfl <;> first | rfl | (exfalso; contradiction))
theorem tdone_12 (p s : Int) (hs : s = 1 ∨ s = 2 ∨ s = 3 ∨ s = 4 ∨ s = 5 ∨ s = 6 ∨ s = 7 ∨ s = 8 ∨ s = 9 ∨ s = 10 ∨ s = 11 ∨ s = 12 ∨ s = 13 ∨ s = 14) (w : World) : Calls Tryz.prog 163 #[.int .i64 p, .int .i64 12, .int .i64 s] w fun e' w' => e' = .returned (.int .i64 (goesT p 12 s)) ∧ w = w' := by
 have hq := a2X Tryz.underlying245 12 s; have hg := aX 245 (by kernel_rfl); have HK := hD hs; clear hs; go_enter Tryz.func163, Tryz.ntmps163; go_wp2
 all_goals clear hq hg
 all_goals (go_ret; refine ⟨?_, rfl⟩)
 all_goals first
  | (rename_i h; obtain rfl := eq_of_beq h; first | rfl | exact absurd HK.out (by decide) | kernel_rfl)
  | (have hs := HK.out; clear HK; rcases hs with rfl | rfl | rfl | rfl | rfl | rfl | rfl | rfl | rfl | rfl | rfl | rfl | rfl | rfl <;> first | rfl | (exfalso; contradiction))
theorem tdone_13 (p s : Int) (hs : s = 1 ∨ s = 2 ∨ s = 3 ∨ s = 4 ∨ s = 5 ∨ s = 6 ∨ s = 7 ∨ s = 8 ∨ s = 9 ∨ s = 10 ∨ s = 11 ∨ s = 12 ∨ s = 13 ∨ s = 14) (w : World) : Calls Tryz.prog 163 #[.int .i64 p, .int .i64 13, .int .i64 s] w fun e' w' => e' = .returned (.int .i64 (goesT p 13 s)) ∧ w = w' := by
 have hq := a2X Tryz.underlying245 13 s; have hg := aX 245 (by kernel_rfl); have HK := hD hs; clear hs; go_enter Tryz.func163, Tryz.ntmps163; go_wp2
 all_goals clear hq hg
 all_goals (go_ret; refine ⟨?_, rfl⟩)
 all_goals first
  | (rename_i h; obtain rfl := eq_of_beq h; first | rfl | exact absurd HK.out (by decide) | kernel_rfl)
  | (have hs := HK.out; clear HK; rcases hs with rfl | rfl | rfl | rfl | rfl | rfl | rfl | rfl | rfl | rfl | rfl | rfl | rfl | rfl <;> first | rfl | (exfalso; contradiction))
theorem tdone_14 (p s : Int) (hs : s = 1 ∨ s = 2 ∨ s = 3 ∨ s = 4 ∨ s = 5 ∨ s = 6 ∨ s = 7 ∨ s = 8 ∨ s = 9 ∨ s = 10 ∨ s = 11 ∨ s = 12 ∨ s = 13 ∨ s = 14) (w : World) : Calls Tryz.prog 163 #[.int .i64 p, .int .i64 14, .int .i64 s] w fun e' w' => e' = .returned (.int .i64 (goesT p 14 s)) ∧ w = w' := by
 have hq := a2X Tryz.underlying245 14 s; have hg := aX 245 (by kernel_rfl); have HK := hD hs; clear hs; go_enter Tryz.func163, Tryz.ntmps163; go_wp2
 all_goals clear hq hg
 all_goals (go_ret; refine ⟨?_, rfl⟩)
 all_goals first
  | (rename_i h; obtain rfl := eq_of_beq h; first | rfl | exact absurd HK.out (by decide) | kernel_rfl)
  | (have hs := HK.out; clear HK; rcases hs with rfl | rfl | rfl | rfl | rfl | rfl | rfl | rfl | rfl | rfl | rfl | rfl | rfl | rfl <;> first | rfl | (exfalso; contradiction))
end Go.Proofs.YtlmlmhmhgdjhnaaGreatDoor
