/-
  PACKAGE tables (own work): done.
-/
import Derived.Test.YtghjnhdepeiloaaDoorTbA
namespace Go.Proofs.YtghjnhdepeiloaaDoor
open Go.RowKit Go.ChangeShapes Go.WideShapes

set_option maxRecDepth 100000 in
set_option maxHeartbeats 16000000 in
theorem tdone_1 (p s : Int) (hs : s = 1 ∨ s = 2 ∨ s = 3 ∨ s = 4 ∨ s = 5 ∨ s = 6 ∨ s = 7 ∨ s = 8 ∨ s = 9 ∨ s = 10 ∨ s = 11 ∨ s = 12 ∨ s = 13 ∨ s = 14) (w : World) : Calls Tryd.prog 65 #[.int .i64 p, .int .i64 1, .int .i64 s] w fun e' w' => e' = .returned (.int .i64 (goesT p 1 s)) ∧ w = w' := by
  have hq := arr2_eql Tryd.underlying113 1 s
  have hg := arr_guard 113 (by kernel_rfl)
  have HK := Lib.hid hs
  clear hs
  go_enter Tryd.func65, Tryd.ntmps65
  go_wp2
  all_goals clear hq hg
  all_goals (go_ret; refine ⟨?_, rfl⟩)
  all_goals first
    | (rename_i h; obtain rfl := eq_of_beq h; first | rfl | exact absurd HK.out (by decide) | kernel_rfl)
    | (have hs := HK.out; clear HK; rcases hs with rfl | rfl | rfl | rfl | rfl | rfl | rfl | rfl | rfl | rfl | rfl | rfl | rfl | rfl <;> first | rfl | (exfalso; contradiction))
set_option maxRecDepth 100000 in
set_option maxHeartbeats 16000000 in
theorem tdone_2 (p s : Int) (hs : s = 1 ∨ s = 2 ∨ s = 3 ∨ s = 4 ∨ s = 5 ∨ s = 6 ∨ s = 7 ∨ s = 8 ∨ s = 9 ∨ s = 10 ∨ s = 11 ∨ s = 12 ∨ s = 13 ∨ s = 14) (w : World) : Calls Tryd.prog 65 #[.int .i64 p, .int .i64 2, .int .i64 s] w fun e' w' => e' = .returned (.int .i64 (goesT p 2 s)) ∧ w = w' := by
  have hq := arr2_eql Tryd.underlying113 2 s
  have hg := arr_guard 113 (by kernel_rfl)
  have HK := Lib.hid hs
  clear hs
  go_enter Tryd.func65, Tryd.ntmps65
  go_wp2
  all_goals clear hq hg
  all_goals (go_ret; refine ⟨?_, rfl⟩)
  all_goals first
    | (rename_i h; obtain rfl := eq_of_beq h; first | rfl | exact absurd HK.out (by decide) | kernel_rfl)
    | (have hs := HK.out; clear HK; rcases hs with rfl | rfl | rfl | rfl | rfl | rfl | rfl | rfl | rfl | rfl | rfl | rfl | rfl | rfl <;> first | rfl | (exfalso; contradiction))
set_option maxRecDepth 100000 in
set_option maxHeartbeats 16000000 in
theorem tdone_3_1 (s : Int) (hs : s = 1 ∨ s = 2 ∨ s = 3 ∨ s = 5 ∨ s = 6 ∨ s = 7 ∨ s = 8 ∨ s = 9 ∨ s = 10 ∨ s = 11 ∨ s = 12 ∨ s = 13 ∨ s = 14) (w : World) : Calls Tryd.prog 65 #[.int .i64 1, .int .i64 3, .int .i64 s] w fun e' w' => e' = .returned (.int .i64 (goesT 1 3 s)) ∧ w = w' := by
  have hq := arr2_eql Tryd.underlying113 3 s
  have hg := arr_guard 113 (by kernel_rfl)
  have HK := Lib.hid hs
  clear hs
  go_enter Tryd.func65, Tryd.ntmps65
  go_wp2
  all_goals clear hq hg
  all_goals (go_ret; refine ⟨?_, rfl⟩)
  all_goals first
    | (rename_i h; obtain rfl := eq_of_beq h; first | rfl | exact absurd HK.out (by decide) | kernel_rfl)
    | (have hs := HK.out; clear HK; rcases hs with rfl | rfl | rfl | rfl | rfl | rfl | rfl | rfl | rfl | rfl | rfl | rfl | rfl <;> first | rfl | (exfalso; contradiction))
set_option maxRecDepth 100000 in
set_option maxHeartbeats 16000000 in
theorem tdone_3_2 (s : Int) (hs : s = 1 ∨ s = 2 ∨ s = 3 ∨ s = 4 ∨ s = 5 ∨ s = 6 ∨ s = 7 ∨ s = 8 ∨ s = 9 ∨ s = 10 ∨ s = 11 ∨ s = 12 ∨ s = 13 ∨ s = 14) (w : World) : Calls Tryd.prog 65 #[.int .i64 2, .int .i64 3, .int .i64 s] w fun e' w' => e' = .returned (.int .i64 (goesT 2 3 s)) ∧ w = w' := by
  have hq := arr2_eql Tryd.underlying113 3 s
  have hg := arr_guard 113 (by kernel_rfl)
  have HK := Lib.hid hs
  clear hs
  go_enter Tryd.func65, Tryd.ntmps65
  go_wp2
  all_goals clear hq hg
  all_goals (go_ret; refine ⟨?_, rfl⟩)
  all_goals first
    | (rename_i h; obtain rfl := eq_of_beq h; first | rfl | exact absurd HK.out (by decide) | kernel_rfl)
    | (have hs := HK.out; clear HK; rcases hs with rfl | rfl | rfl | rfl | rfl | rfl | rfl | rfl | rfl | rfl | rfl | rfl | rfl | rfl <;> first | rfl | (exfalso; contradiction))
set_option maxRecDepth 100000 in
set_option maxHeartbeats 16000000 in
theorem tdone_4 (p s : Int) (hs : s = 1 ∨ s = 2 ∨ s = 3 ∨ s = 4 ∨ s = 5 ∨ s = 6 ∨ s = 7 ∨ s = 8 ∨ s = 9 ∨ s = 10 ∨ s = 11 ∨ s = 12 ∨ s = 13 ∨ s = 14) (w : World) : Calls Tryd.prog 65 #[.int .i64 p, .int .i64 4, .int .i64 s] w fun e' w' => e' = .returned (.int .i64 (goesT p 4 s)) ∧ w = w' := by
  have hq := arr2_eql Tryd.underlying113 4 s
  have hg := arr_guard 113 (by kernel_rfl)
  have HK := Lib.hid hs
  clear hs
  go_enter Tryd.func65, Tryd.ntmps65
  go_wp2
  all_goals clear hq hg
  all_goals (go_ret; refine ⟨?_, rfl⟩)
  all_goals first
    | (rename_i h; obtain rfl := eq_of_beq h; first | rfl | exact absurd HK.out (by decide) | kernel_rfl)
    | (have hs := HK.out; clear HK; rcases hs with rfl | rfl | rfl | rfl | rfl | rfl | rfl | rfl | rfl | rfl | rfl | rfl | rfl | rfl <;> first | rfl | (exfalso; contradiction))
set_option maxRecDepth 100000 in
set_option maxHeartbeats 16000000 in
theorem tdone_5 (p s : Int) (hs : s = 1 ∨ s = 2 ∨ s = 3 ∨ s = 4 ∨ s = 5 ∨ s = 6 ∨ s = 7 ∨ s = 8 ∨ s = 9 ∨ s = 10 ∨ s = 11 ∨ s = 12 ∨ s = 13 ∨ s = 14) (w : World) : Calls Tryd.prog 65 #[.int .i64 p, .int .i64 5, .int .i64 s] w fun e' w' => e' = .returned (.int .i64 (goesT p 5 s)) ∧ w = w' := by
  have hq := arr2_eql Tryd.underlying113 5 s
  have hg := arr_guard 113 (by kernel_rfl)
  have HK := Lib.hid hs
  clear hs
  go_enter Tryd.func65, Tryd.ntmps65
  go_wp2
  all_goals clear hq hg
  all_goals (go_ret; refine ⟨?_, rfl⟩)
  all_goals first
    | (rename_i h; obtain rfl := eq_of_beq h; first | rfl | exact absurd HK.out (by decide) | kernel_rfl)
    | (have hs := HK.out; clear HK; rcases hs with rfl | rfl | rfl | rfl | rfl | rfl | rfl | rfl | rfl | rfl | rfl | rfl | rfl | rfl <;> first | rfl | (exfalso; contradiction))
set_option maxRecDepth 100000 in
set_option maxHeartbeats 16000000 in
theorem tdone_6 (p s : Int) (hs : s = 1 ∨ s = 2 ∨ s = 3 ∨ s = 4 ∨ s = 5 ∨ s = 6 ∨ s = 7 ∨ s = 8 ∨ s = 9 ∨ s = 10 ∨ s = 11 ∨ s = 12 ∨ s = 13 ∨ s = 14) (w : World) : Calls Tryd.prog 65 #[.int .i64 p, .int .i64 6, .int .i64 s] w fun e' w' => e' = .returned (.int .i64 (goesT p 6 s)) ∧ w = w' := by
  have hq := arr2_eql Tryd.underlying113 6 s
  have hg := arr_guard 113 (by kernel_rfl)
  have HK := Lib.hid hs
  clear hs
  go_enter Tryd.func65, Tryd.ntmps65
  go_wp2
  all_goals clear hq hg
  all_goals (go_ret; refine ⟨?_, rfl⟩)
  all_goals first
    | (rename_i h; obtain rfl := eq_of_beq h; first | rfl | exact absurd HK.out (by decide) | kernel_rfl)
    | (have hs := HK.out; clear HK; rcases hs with rfl | rfl | rfl | rfl | rfl | rfl | rfl | rfl | rfl | rfl | rfl | rfl | rfl | rfl <;> first | rfl | (exfalso; contradiction))
set_option maxRecDepth 100000 in
set_option maxHeartbeats 16000000 in
theorem tdone_7 (p s : Int) (hs : s = 1 ∨ s = 2 ∨ s = 3 ∨ s = 4 ∨ s = 5 ∨ s = 6 ∨ s = 7 ∨ s = 8 ∨ s = 9 ∨ s = 10 ∨ s = 11 ∨ s = 12 ∨ s = 13 ∨ s = 14) (w : World) : Calls Tryd.prog 65 #[.int .i64 p, .int .i64 7, .int .i64 s] w fun e' w' => e' = .returned (.int .i64 (goesT p 7 s)) ∧ w = w' := by
  have hq := arr2_eql Tryd.underlying113 7 s
  have hg := arr_guard 113 (by kernel_rfl)
  have HK := Lib.hid hs
  clear hs
  go_enter Tryd.func65, Tryd.ntmps65
  go_wp2
  all_goals clear hq hg
  all_goals (go_ret; refine ⟨?_, rfl⟩)
  all_goals first
    | (rename_i h; obtain rfl := eq_of_beq h; first | rfl | exact absurd HK.out (by decide) | kernel_rfl)
    | (have hs := HK.out; clear HK; rcases hs with rfl | rfl | rfl | rfl | rfl | rfl | rfl | rfl | rfl | rfl | rfl | rfl | rfl | rfl <;> first | rfl | (exfalso; contradiction))
set_option maxRecDepth 100000 in
set_option maxHeartbeats 16000000 in
theorem tdone_8 (p s : Int) (hs : s = 1 ∨ s = 2 ∨ s = 3 ∨ s = 4 ∨ s = 5 ∨ s = 6 ∨ s = 7 ∨ s = 8 ∨ s = 9 ∨ s = 10 ∨ s = 11 ∨ s = 12 ∨ s = 13 ∨ s = 14) (w : World) : Calls Tryd.prog 65 #[.int .i64 p, .int .i64 8, .int .i64 s] w fun e' w' => e' = .returned (.int .i64 (goesT p 8 s)) ∧ w = w' := by
  have hq := arr2_eql Tryd.underlying113 8 s
  have hg := arr_guard 113 (by kernel_rfl)
  have HK := Lib.hid hs
  clear hs
  go_enter Tryd.func65, Tryd.ntmps65
  go_wp2
  all_goals clear hq hg
  all_goals (go_ret; refine ⟨?_, rfl⟩)
  all_goals first
    | (rename_i h; obtain rfl := eq_of_beq h; first | rfl | exact absurd HK.out (by decide) | kernel_rfl)
    | (have hs := HK.out; clear HK; rcases hs with rfl | rfl | rfl | rfl | rfl | rfl | rfl | rfl | rfl | rfl | rfl | rfl | rfl | rfl <;> first | rfl | (exfalso; contradiction))
set_option maxRecDepth 100000 in
set_option maxHeartbeats 16000000 in
theorem tdone_9 (p s : Int) (hs : s = 1 ∨ s = 2 ∨ s = 3 ∨ s = 4 ∨ s = 5 ∨ s = 6 ∨ s = 7 ∨ s = 8 ∨ s = 9 ∨ s = 10 ∨ s = 11 ∨ s = 12 ∨ s = 13 ∨ s = 14) (w : World) : Calls Tryd.prog 65 #[.int .i64 p, .int .i64 9, .int .i64 s] w fun e' w' => e' = .returned (.int .i64 (goesT p 9 s)) ∧ w = w' := by
  have hq := arr2_eql Tryd.underlying113 9 s
  have hg := arr_guard 113 (by kernel_rfl)
  have HK := Lib.hid hs
  clear hs
  go_enter Tryd.func65, Tryd.ntmps65
  go_wp2
  all_goals clear hq hg
  all_goals (go_ret; refine ⟨?_, rfl⟩)
  all_goals first
    | (rename_i h; obtain rfl := eq_of_beq h; first | rfl | exact absurd HK.out (by decide) | kernel_rfl)
    | (have hs := HK.out; clear HK; rcases hs with rfl | rfl | rfl | rfl | rfl | rfl | rfl | rfl | rfl | rfl | rfl | rfl | rfl | rfl <;> first | rfl | (exfalso; contradiction))
set_option maxRecDepth 100000 in
set_option maxHeartbeats 16000000 in
theorem tdone_10 (p s : Int) (hs : s = 1 ∨ s = 2 ∨ s = 3 ∨ s = 4 ∨ s = 5 ∨ s = 6 ∨ s = 7 ∨ s = 8 ∨ s = 9 ∨ s = 10 ∨ s = 11 ∨ s = 12 ∨ s = 13 ∨ s = 14) (w : World) : Calls Tryd.prog 65 #[.int .i64 p, .int .i64 10, .int .i64 s] w fun e' w' => e' = .returned (.int .i64 (goesT p 10 s)) ∧ w = w' := by
  have hq := arr2_eql Tryd.underlying113 10 s
  have hg := arr_guard 113 (by kernel_rfl)
  have HK := Lib.hid hs
  clear hs
  go_enter Tryd.func65, Tryd.ntmps65
  go_wp2
  all_goals clear hq hg
  all_goals (go_ret; refine ⟨?_, rfl⟩)
  all_goals first
    | (rename_i h; obtain rfl := eq_of_beq h; first | rfl | exact absurd HK.out (by decide) | kernel_rfl)
    | (have hs := HK.out; clear HK; rcases hs with rfl | rfl | rfl | rfl | rfl | rfl | rfl | rfl | rfl | rfl | rfl | rfl | rfl | rfl <;> first | rfl | (exfalso; contradiction))
set_option maxRecDepth 100000 in
set_option maxHeartbeats 16000000 in
theorem tdone_11 (p s : Int) (hs : s = 1 ∨ s = 2 ∨ s = 3 ∨ s = 4 ∨ s = 5 ∨ s = 6 ∨ s = 7 ∨ s = 8 ∨ s = 9 ∨ s = 10 ∨ s = 11 ∨ s = 12 ∨ s = 13 ∨ s = 14) (w : World) : Calls Tryd.prog 65 #[.int .i64 p, .int .i64 11, .int .i64 s] w fun e' w' => e' = .returned (.int .i64 (goesT p 11 s)) ∧ w = w' := by
  have hq := arr2_eql Tryd.underlying113 11 s
  have hg := arr_guard 113 (by kernel_rfl)
  have HK := Lib.hid hs
  clear hs
  go_enter Tryd.func65, Tryd.ntmps65
  go_wp2
  all_goals clear hq hg
  all_goals (go_ret; refine ⟨?_, rfl⟩)
  all_goals first
    | (rename_i h; obtain rfl := eq_of_beq h; first | rfl | exact absurd HK.out (by decide) | kernel_rfl)
    | (have hs := HK.out; clear HK; rcases hs with rfl | rfl | rfl | rfl | rfl | rfl | rfl | rfl | rfl | rfl | rfl | rfl | rfl | rfl <;> first | rfl | (exfalso; contradiction))
set_option maxRecDepth 100000 in
set_option maxHeartbeats 16000000 in
theorem tdone_12 (p s : Int) (hs : s = 1 ∨ s = 2 ∨ s = 3 ∨ s = 4 ∨ s = 5 ∨ s = 6 ∨ s = 7 ∨ s = 8 ∨ s = 9 ∨ s = 10 ∨ s = 11 ∨ s = 12 ∨ s = 13 ∨ s = 14) (w : World) : Calls Tryd.prog 65 #[.int .i64 p, .int .i64 12, .int .i64 s] w fun e' w' => e' = .returned (.int .i64 (goesT p 12 s)) ∧ w = w' := by
  have hq := arr2_eql Tryd.underlying113 12 s
  have hg := arr_guard 113 (by kernel_rfl)
  have HK := Lib.hid hs
  clear hs
  go_enter Tryd.func65, Tryd.ntmps65
  go_wp2
  all_goals clear hq hg
  all_goals (go_ret; refine ⟨?_, rfl⟩)
  all_goals first
    | (rename_i h; obtain rfl := eq_of_beq h; first | rfl | exact absurd HK.out (by decide) | kernel_rfl)
    | (have hs := HK.out; clear HK; rcases hs with rfl | rfl | rfl | rfl | rfl | rfl | rfl | rfl | rfl | rfl | rfl | rfl | rfl | rfl <;> first | rfl | (exfalso; contradiction))
set_option maxRecDepth 100000 in
set_option maxHeartbeats 16000000 in
theorem tdone_13 (p s : Int) (hs : s = 1 ∨ s = 2 ∨ s = 3 ∨ s = 4 ∨ s = 5 ∨ s = 6 ∨ s = 7 ∨ s = 8 ∨ s = 9 ∨ s = 10 ∨ s = 11 ∨ s = 12 ∨ s = 13 ∨ s = 14) (w : World) : Calls Tryd.prog 65 #[.int .i64 p, .int .i64 13, .int .i64 s] w fun e' w' => e' = .returned (.int .i64 (goesT p 13 s)) ∧ w = w' := by
  have hq := arr2_eql Tryd.underlying113 13 s
  have hg := arr_guard 113 (by kernel_rfl)
  have HK := Lib.hid hs
  clear hs
  go_enter Tryd.func65, Tryd.ntmps65
  go_wp2
  all_goals clear hq hg
  all_goals (go_ret; refine ⟨?_, rfl⟩)
  all_goals first
    | (rename_i h; obtain rfl := eq_of_beq h; first | rfl | exact absurd HK.out (by decide) | kernel_rfl)
    | (have hs := HK.out; clear HK; rcases hs with rfl | rfl | rfl | rfl | rfl | rfl | rfl | rfl | rfl | rfl | rfl | rfl | rfl | rfl <;> first | rfl | (exfalso; contradiction))
set_option maxRecDepth 100000 in
set_option maxHeartbeats 16000000 in
theorem tdone_14 (p s : Int) (hs : s = 1 ∨ s = 2 ∨ s = 3 ∨ s = 4 ∨ s = 5 ∨ s = 6 ∨ s = 7 ∨ s = 8 ∨ s = 9 ∨ s = 10 ∨ s = 11 ∨ s = 12 ∨ s = 13 ∨ s = 14) (w : World) : Calls Tryd.prog 65 #[.int .i64 p, .int .i64 14, .int .i64 s] w fun e' w' => e' = .returned (.int .i64 (goesT p 14 s)) ∧ w = w' := by
  have hq := arr2_eql Tryd.underlying113 14 s
  have hg := arr_guard 113 (by kernel_rfl)
  have HK := Lib.hid hs
  clear hs
  go_enter Tryd.func65, Tryd.ntmps65
  go_wp2
  all_goals clear hq hg
  all_goals (go_ret; refine ⟨?_, rfl⟩)
  all_goals first
    | (rename_i h; obtain rfl := eq_of_beq h; first | rfl | exact absurd HK.out (by decide) | kernel_rfl)
    | (have hs := HK.out; clear HK; rcases hs with rfl | rfl | rfl | rfl | rfl | rfl | rfl | rfl | rfl | rfl | rfl | rfl | rfl | rfl <;> first | rfl | (exfalso; contradiction))
end Go.Proofs.YtghjnhdepeiloaaDoor
