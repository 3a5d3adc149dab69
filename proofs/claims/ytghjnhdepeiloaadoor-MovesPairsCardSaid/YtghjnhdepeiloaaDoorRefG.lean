/-
  THE TABLES AS THE DOCUMENT HAS THEM, CELL BY CELL (own work): liaisonref10's goes.
-/
import Derived.Test.YtghjnhdepeiloaaDoorRefT
namespace Go.Proofs.YtghjnhdepeiloaaDoor
open Go.RowKit Go.ChangeShapes Go.WideShapes

set_option maxRecDepth 100000 in
theorem refGoes_1 (p e s : Int) (hs : s = 1 ∨ s = 2 ∨ s = 3 ∨ s = 4 ∨ s = 5 ∨ s = 6 ∨ s = 7 ∨ s = 8 ∨ s = 9 ∨ s = 10 ∨ s = 11 ∨ s = 12 ∨ s = 13 ∨ s = 14) (w : World) : Calls Tryd.prog 68 #[.int .i64 p, .int .i64 e, .int .i64 1, .int .i64 s] w fun e' w' => e' = .returned (.int .i64 (goesT p 1 s)) ∧ w = w' := by
  have HF := Lib.hid (fun s w => refFailing_any s w)
  rcases hs with rfl | rfl | rfl | rfl | rfl | rfl | rfl | rfl | rfl | rfl | rfl | rfl | rfl | rfl <;> (go_enter Tryd.func68, Tryd.ntmps68; go_wp2_with (go_at_call 81; (with_reducible refine (HF.out _ _).mono ?_); rintro e' w' ⟨rfl, rfl⟩); go_ret; exact ⟨rfl, rfl⟩)
set_option maxRecDepth 100000 in
theorem refGoes_2 (p e s : Int) (hs : s = 1 ∨ s = 2 ∨ s = 3 ∨ s = 4 ∨ s = 5 ∨ s = 6 ∨ s = 7 ∨ s = 8 ∨ s = 9 ∨ s = 10 ∨ s = 11 ∨ s = 12 ∨ s = 13 ∨ s = 14) (w : World) : Calls Tryd.prog 68 #[.int .i64 p, .int .i64 e, .int .i64 2, .int .i64 s] w fun e' w' => e' = .returned (.int .i64 (goesT p 2 s)) ∧ w = w' := by
  have HF := Lib.hid (fun s w => refFailing_any s w)
  rcases hs with rfl | rfl | rfl | rfl | rfl | rfl | rfl | rfl | rfl | rfl | rfl | rfl | rfl | rfl <;> (go_enter Tryd.func68, Tryd.ntmps68; go_wp2_with (go_at_call 81; (with_reducible refine (HF.out _ _).mono ?_); rintro e' w' ⟨rfl, rfl⟩); go_ret; exact ⟨rfl, rfl⟩)
set_option maxRecDepth 100000 in
theorem refGoes_3 (p e s : Int) (hp : p = 1 ∨ p = 2) (hs : s = 1 ∨ s = 2 ∨ s = 3 ∨ s = 4 ∨ s = 5 ∨ s = 6 ∨ s = 7 ∨ s = 8 ∨ s = 9 ∨ s = 10 ∨ s = 11 ∨ s = 12 ∨ s = 13 ∨ s = 14) (w : World) : Calls Tryd.prog 68 #[.int .i64 p, .int .i64 e, .int .i64 3, .int .i64 s] w fun e' w' => e' = .returned (.int .i64 (goesT p 3 s)) ∧ w = w' := by
  have HF := Lib.hid (fun s w => refFailing_any s w)
  rcases hp with rfl | rfl <;> rcases hs with rfl | rfl | rfl | rfl | rfl | rfl | rfl | rfl | rfl | rfl | rfl | rfl | rfl | rfl <;> (go_enter Tryd.func68, Tryd.ntmps68; go_wp2_with (go_at_call 81; (with_reducible refine (HF.out _ _).mono ?_); rintro e' w' ⟨rfl, rfl⟩); go_ret; exact ⟨rfl, rfl⟩)
set_option maxRecDepth 100000 in
theorem refGoes_4 (p e s : Int) (hs : s = 1 ∨ s = 2 ∨ s = 3 ∨ s = 4 ∨ s = 5 ∨ s = 6 ∨ s = 7 ∨ s = 8 ∨ s = 9 ∨ s = 10 ∨ s = 11 ∨ s = 12 ∨ s = 13 ∨ s = 14) (w : World) : Calls Tryd.prog 68 #[.int .i64 p, .int .i64 e, .int .i64 4, .int .i64 s] w fun e' w' => e' = .returned (.int .i64 (goesT p 4 s)) ∧ w = w' := by
  have HF := Lib.hid (fun s w => refFailing_any s w)
  rcases hs with rfl | rfl | rfl | rfl | rfl | rfl | rfl | rfl | rfl | rfl | rfl | rfl | rfl | rfl <;> (go_enter Tryd.func68, Tryd.ntmps68; go_wp2_with (go_at_call 81; (with_reducible refine (HF.out _ _).mono ?_); rintro e' w' ⟨rfl, rfl⟩); go_ret; exact ⟨rfl, rfl⟩)
set_option maxRecDepth 100000 in
theorem refGoes_5 (p e s : Int) (hs : s = 1 ∨ s = 2 ∨ s = 3 ∨ s = 4 ∨ s = 5 ∨ s = 6 ∨ s = 7 ∨ s = 8 ∨ s = 9 ∨ s = 10 ∨ s = 11 ∨ s = 12 ∨ s = 13 ∨ s = 14) (w : World) : Calls Tryd.prog 68 #[.int .i64 p, .int .i64 e, .int .i64 5, .int .i64 s] w fun e' w' => e' = .returned (.int .i64 (goesT p 5 s)) ∧ w = w' := by
  have HF := Lib.hid (fun s w => refFailing_any s w)
  rcases hs with rfl | rfl | rfl | rfl | rfl | rfl | rfl | rfl | rfl | rfl | rfl | rfl | rfl | rfl <;> (go_enter Tryd.func68, Tryd.ntmps68; go_wp2_with (go_at_call 81; (with_reducible refine (HF.out _ _).mono ?_); rintro e' w' ⟨rfl, rfl⟩); go_ret; exact ⟨rfl, rfl⟩)
set_option maxRecDepth 100000 in
theorem refGoes_6 (p e s : Int) (hs : s = 1 ∨ s = 2 ∨ s = 3 ∨ s = 4 ∨ s = 5 ∨ s = 6 ∨ s = 7 ∨ s = 8 ∨ s = 9 ∨ s = 10 ∨ s = 11 ∨ s = 12 ∨ s = 13 ∨ s = 14) (w : World) : Calls Tryd.prog 68 #[.int .i64 p, .int .i64 e, .int .i64 6, .int .i64 s] w fun e' w' => e' = .returned (.int .i64 (goesT p 6 s)) ∧ w = w' := by
  have HF := Lib.hid (fun s w => refFailing_any s w)
  rcases hs with rfl | rfl | rfl | rfl | rfl | rfl | rfl | rfl | rfl | rfl | rfl | rfl | rfl | rfl <;> (go_enter Tryd.func68, Tryd.ntmps68; go_wp2_with (go_at_call 81; (with_reducible refine (HF.out _ _).mono ?_); rintro e' w' ⟨rfl, rfl⟩); go_ret; exact ⟨rfl, rfl⟩)
set_option maxRecDepth 100000 in
theorem refGoes_7 (p e s : Int) (hs : s = 1 ∨ s = 2 ∨ s = 3 ∨ s = 4 ∨ s = 5 ∨ s = 6 ∨ s = 7 ∨ s = 8 ∨ s = 9 ∨ s = 10 ∨ s = 11 ∨ s = 12 ∨ s = 13 ∨ s = 14) (w : World) : Calls Tryd.prog 68 #[.int .i64 p, .int .i64 e, .int .i64 7, .int .i64 s] w fun e' w' => e' = .returned (.int .i64 (goesT p 7 s)) ∧ w = w' := by
  have HF := Lib.hid (fun s w => refFailing_any s w)
  rcases hs with rfl | rfl | rfl | rfl | rfl | rfl | rfl | rfl | rfl | rfl | rfl | rfl | rfl | rfl <;> (go_enter Tryd.func68, Tryd.ntmps68; go_wp2_with (go_at_call 81; (with_reducible refine (HF.out _ _).mono ?_); rintro e' w' ⟨rfl, rfl⟩); go_ret; exact ⟨rfl, rfl⟩)
set_option maxRecDepth 100000 in
theorem refGoes_8 (p e s : Int) (hs : s = 1 ∨ s = 2 ∨ s = 3 ∨ s = 4 ∨ s = 5 ∨ s = 6 ∨ s = 7 ∨ s = 8 ∨ s = 9 ∨ s = 10 ∨ s = 11 ∨ s = 12 ∨ s = 13 ∨ s = 14) (w : World) : Calls Tryd.prog 68 #[.int .i64 p, .int .i64 e, .int .i64 8, .int .i64 s] w fun e' w' => e' = .returned (.int .i64 (goesT p 8 s)) ∧ w = w' := by
  have HF := Lib.hid (fun s w => refFailing_any s w)
  rcases hs with rfl | rfl | rfl | rfl | rfl | rfl | rfl | rfl | rfl | rfl | rfl | rfl | rfl | rfl <;> (go_enter Tryd.func68, Tryd.ntmps68; go_wp2_with (go_at_call 81; (with_reducible refine (HF.out _ _).mono ?_); rintro e' w' ⟨rfl, rfl⟩); go_ret; exact ⟨rfl, rfl⟩)
set_option maxRecDepth 100000 in
theorem refGoes_9 (p e s : Int) (hs : s = 1 ∨ s = 2 ∨ s = 3 ∨ s = 4 ∨ s = 5 ∨ s = 6 ∨ s = 7 ∨ s = 8 ∨ s = 9 ∨ s = 10 ∨ s = 11 ∨ s = 12 ∨ s = 13 ∨ s = 14) (w : World) : Calls Tryd.prog 68 #[.int .i64 p, .int .i64 e, .int .i64 9, .int .i64 s] w fun e' w' => e' = .returned (.int .i64 (goesT p 9 s)) ∧ w = w' := by
  have HF := Lib.hid (fun s w => refFailing_any s w)
  rcases hs with rfl | rfl | rfl | rfl | rfl | rfl | rfl | rfl | rfl | rfl | rfl | rfl | rfl | rfl <;> (go_enter Tryd.func68, Tryd.ntmps68; go_wp2_with (go_at_call 81; (with_reducible refine (HF.out _ _).mono ?_); rintro e' w' ⟨rfl, rfl⟩); go_ret; exact ⟨rfl, rfl⟩)
set_option maxRecDepth 100000 in
theorem refGoes_10 (p e s : Int) (hs : s = 1 ∨ s = 2 ∨ s = 3 ∨ s = 4 ∨ s = 5 ∨ s = 6 ∨ s = 7 ∨ s = 8 ∨ s = 9 ∨ s = 10 ∨ s = 11 ∨ s = 12 ∨ s = 13 ∨ s = 14) (w : World) : Calls Tryd.prog 68 #[.int .i64 p, .int .i64 e, .int .i64 10, .int .i64 s] w fun e' w' => e' = .returned (.int .i64 (goesT p 10 s)) ∧ w = w' := by
  have HF := Lib.hid (fun s w => refFailing_any s w)
  rcases hs with rfl | rfl | rfl | rfl | rfl | rfl | rfl | rfl | rfl | rfl | rfl | rfl | rfl | rfl <;> (go_enter Tryd.func68, Tryd.ntmps68; go_wp2_with (go_at_call 81; (with_reducible refine (HF.out _ _).mono ?_); rintro e' w' ⟨rfl, rfl⟩); go_ret; exact ⟨rfl, rfl⟩)
set_option maxRecDepth 100000 in
theorem refGoes_11 (p e s : Int) (hs : s = 1 ∨ s = 2 ∨ s = 3 ∨ s = 4 ∨ s = 5 ∨ s = 6 ∨ s = 7 ∨ s = 8 ∨ s = 9 ∨ s = 10 ∨ s = 11 ∨ s = 12 ∨ s = 13 ∨ s = 14) (w : World) : Calls Tryd.prog 68 #[.int .i64 p, .int .i64 e, .int .i64 11, .int .i64 s] w fun e' w' => e' = .returned (.int .i64 (goesT p 11 s)) ∧ w = w' := by
  have HF := Lib.hid (fun s w => refFailing_any s w)
  rcases hs with rfl | rfl | rfl | rfl | rfl | rfl | rfl | rfl | rfl | rfl | rfl | rfl | rfl | rfl <;> (go_enter Tryd.func68, Tryd.ntmps68; go_wp2_with (go_at_call 81; (with_reducible refine (HF.out _ _).mono ?_); rintro e' w' ⟨rfl, rfl⟩); go_ret; exact ⟨rfl, rfl⟩)
set_option maxRecDepth 100000 in
theorem refGoes_12 (p e s : Int) (hs : s = 1 ∨ s = 2 ∨ s = 3 ∨ s = 4 ∨ s = 5 ∨ s = 6 ∨ s = 7 ∨ s = 8 ∨ s = 9 ∨ s = 10 ∨ s = 11 ∨ s = 12 ∨ s = 13 ∨ s = 14) (w : World) : Calls Tryd.prog 68 #[.int .i64 p, .int .i64 e, .int .i64 12, .int .i64 s] w fun e' w' => e' = .returned (.int .i64 (goesT p 12 s)) ∧ w = w' := by
  have HF := Lib.hid (fun s w => refFailing_any s w)
  rcases hs with rfl | rfl | rfl | rfl | rfl | rfl | rfl | rfl | rfl | rfl | rfl | rfl | rfl | rfl <;> (go_enter Tryd.func68, Tryd.ntmps68; go_wp2_with (go_at_call 81; (with_reducible refine (HF.out _ _).mono ?_); rintro e' w' ⟨rfl, rfl⟩); go_ret; exact ⟨rfl, rfl⟩)
set_option maxRecDepth 100000 in
theorem refGoes_13 (p e s : Int) (hs : s = 1 ∨ s = 2 ∨ s = 3 ∨ s = 4 ∨ s = 5 ∨ s = 6 ∨ s = 7 ∨ s = 8 ∨ s = 9 ∨ s = 10 ∨ s = 11 ∨ s = 12 ∨ s = 13 ∨ s = 14) (w : World) : Calls Tryd.prog 68 #[.int .i64 p, .int .i64 e, .int .i64 13, .int .i64 s] w fun e' w' => e' = .returned (.int .i64 (goesT p 13 s)) ∧ w = w' := by
  have HF := Lib.hid (fun s w => refFailing_any s w)
  rcases hs with rfl | rfl | rfl | rfl | rfl | rfl | rfl | rfl | rfl | rfl | rfl | rfl | rfl | rfl <;> (go_enter Tryd.func68, Tryd.ntmps68; go_wp2_with (go_at_call 81; (with_reducible refine (HF.out _ _).mono ?_); rintro e' w' ⟨rfl, rfl⟩); go_ret; exact ⟨rfl, rfl⟩)
set_option maxRecDepth 100000 in
theorem refGoes_14 (p e s : Int) (hs : s = 1 ∨ s = 2 ∨ s = 3 ∨ s = 4 ∨ s = 5 ∨ s = 6 ∨ s = 7 ∨ s = 8 ∨ s = 9 ∨ s = 10 ∨ s = 11 ∨ s = 12 ∨ s = 13 ∨ s = 14) (w : World) : Calls Tryd.prog 68 #[.int .i64 p, .int .i64 e, .int .i64 14, .int .i64 s] w fun e' w' => e' = .returned (.int .i64 (goesT p 14 s)) ∧ w = w' := by
  have HF := Lib.hid (fun s w => refFailing_any s w)
  rcases hs with rfl | rfl | rfl | rfl | rfl | rfl | rfl | rfl | rfl | rfl | rfl | rfl | rfl | rfl <;> (go_enter Tryd.func68, Tryd.ntmps68; go_wp2_with (go_at_call 81; (with_reducible refine (HF.out _ _).mono ?_); rintro e' w' ⟨rfl, rfl⟩); go_ret; exact ⟨rfl, rfl⟩)
end Go.Proofs.YtghjnhdepeiloaaDoor
