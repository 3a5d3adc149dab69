/-
  PACKAGE tables (own work): Look, Step, Waits: where they answer an error.
-/
import Derived.Test.YtghjnhdepeiloaaDoorTbE
import Derived.Test.YtghjnhdepeiloaaDoorErrI
namespace Go.Proofs.YtghjnhdepeiloaaDoor
open Go.RowKit Go.ChangeShapes Go.WideShapes

set_option maxRecDepth 100000 in
theorem look_known (ads : List Addr) (p e k s : Int) (h : rightT p e = false) (w : World) (ce : w.cell? ⟨13, 0, none⟩ = some (errI ads 14)) : Calls Tryd.prog 32 #[.int .i64 p, .int .i64 e, .int .i64 k, .int .i64 s] w fun e' w' => e' = .returned (.tuple #[.agg (cellV (0, 0, 0)), errI ads 14]) ∧ Kp w w' := by
  have HK := Lib.hid (fun w => h ▸ known_any p e w)
  obtain ⟨q, hq⟩ : ∃ x, errI ads 14 = x := ⟨_, rfl⟩
  rw [hq] at ce ⊢
  have K1 := Lib.hid (kp_alloc w (.cells #[.int .i64 0, .int .i64 0, .int .i64 0] 70))
  have HZ := Lib.hid (MapKept.heap_alloc w (.cells #[.int .i64 0, .int .i64 0, .int .i64 0] 70)).1
  obtain ⟨z0, z1, z2⟩ := cells3 HZ.out
  have fz := froz3 HZ.out
  have cq := kp_cell K1.out ce
  clear hq ce h
  go_enter Tryd.func32, Tryd.ntmps32
  go_wp2_with (go_at_call 55; (with_reducible refine (HK.out _).mono ?_); rintro e' w' ⟨rfl, rfl⟩)
  go_region
  go_wp2
  refine bodyPost_ret (results_row_tmpT (p := 8) (u := 9) rfl _ _ w.heap.size 70 _ (0, 0) _ rfl HZ.out Tryd.underlying70 rfl (by kernel_rfl)) rfl ?_
  exact ⟨rfl, kp_drewU K1.out⟩
set_option maxRecDepth 100000 in
theorem look_takes (ads : List Addr) (p e k s : Int) (h : rightT p e = true) (h2 : takesT p e k = false) (w : World) (ce : w.cell? ⟨0, 0, none⟩ = some (errI ads 4)) : Calls Tryd.prog 32 #[.int .i64 p, .int .i64 e, .int .i64 k, .int .i64 s] w fun e' w' => e' = .returned (.tuple #[.agg (cellV (0, 0, 0)), errI ads 4]) ∧ Kp w w' := by
  have HK := Lib.hid (fun w => h ▸ known_any p e w)
  have HT := Lib.hid (fun w => h2 ▸ takes_any p e k w)
  obtain ⟨q, hq⟩ : ∃ x, errI ads 4 = x := ⟨_, rfl⟩
  rw [hq] at ce ⊢
  have K1 := Lib.hid (kp_alloc w (.cells #[.int .i64 0, .int .i64 0, .int .i64 0] 70))
  have HZ := Lib.hid (MapKept.heap_alloc w (.cells #[.int .i64 0, .int .i64 0, .int .i64 0] 70)).1
  obtain ⟨z0, z1, z2⟩ := cells3 HZ.out
  have fz := froz3 HZ.out
  have cq := kp_cell K1.out ce
  clear hq ce h h2
  go_enter Tryd.func32, Tryd.ntmps32
  go_wp2_with (first | (go_at_call 55; (with_reducible refine (HK.out _).mono ?_); rintro e' w' ⟨rfl, rfl⟩) | (go_at_call 56; (with_reducible refine (HT.out _).mono ?_); rintro e' w' ⟨rfl, rfl⟩))
  go_region
  go_wp2
  refine bodyPost_ret (results_row_tmpT (p := 8) (u := 9) rfl _ _ w.heap.size 70 _ (0, 0) _ rfl HZ.out Tryd.underlying70 rfl (by kernel_rfl)) rfl ?_
  exact ⟨rfl, kp_drewU K1.out⟩
set_option maxRecDepth 100000 in
theorem look_has (ads : List Addr) (p e k s : Int) (h : rightT p e = true) (h2 : takesT p e k = true) (h3 : hasT p e s = false) (w : World) (ce : w.cell? ⟨1, 0, none⟩ = some (errI ads 1)) : Calls Tryd.prog 32 #[.int .i64 p, .int .i64 e, .int .i64 k, .int .i64 s] w fun e' w' => e' = .returned (.tuple #[.agg (cellV (0, 0, 0)), errI ads 1]) ∧ Kp w w' := by
  have HK := Lib.hid (fun w => h ▸ known_any p e w)
  have HT := Lib.hid (fun w => h2 ▸ takes_any p e k w)
  have HH := Lib.hid (fun w => h3 ▸ has_any p e s w)
  obtain ⟨q, hq⟩ : ∃ x, errI ads 1 = x := ⟨_, rfl⟩
  rw [hq] at ce ⊢
  have K1 := Lib.hid (kp_alloc w (.cells #[.int .i64 0, .int .i64 0, .int .i64 0] 70))
  have HZ := Lib.hid (MapKept.heap_alloc w (.cells #[.int .i64 0, .int .i64 0, .int .i64 0] 70)).1
  obtain ⟨z0, z1, z2⟩ := cells3 HZ.out
  have fz := froz3 HZ.out
  have cq := kp_cell K1.out ce
  clear hq ce h h2 h3
  go_enter Tryd.func32, Tryd.ntmps32
  go_wp2_with (first | (go_at_call 55; (with_reducible refine (HK.out _).mono ?_); rintro e' w' ⟨rfl, rfl⟩) | (go_at_call 56; (with_reducible refine (HT.out _).mono ?_); rintro e' w' ⟨rfl, rfl⟩) | (go_at_call 57; (with_reducible refine (HH.out _).mono ?_); rintro e' w' ⟨rfl, rfl⟩))
  go_region
  go_wp2
  refine bodyPost_ret (results_row_tmpT (p := 8) (u := 9) rfl _ _ w.heap.size 70 _ (0, 0) _ rfl HZ.out Tryd.underlying70 rfl (by kernel_rfl)) rfl ?_
  exact ⟨rfl, kp_drewU K1.out⟩
set_option maxRecDepth 100000 in
theorem step_known (ads : List Addr) (p e k s : Int) (h : rightT p e = false) (w : World) (ce : w.cell? ⟨13, 0, none⟩ = some (errI ads 14)) : Calls Tryd.prog 36 #[.int .i64 p, .int .i64 e, .int .i64 k, .int .i64 s] w fun e' w' => e' = .returned (.tuple #[.int .i64 0, errI ads 14]) ∧ Kp w w' := by
  have HK := Lib.hid (fun w => h ▸ known_any p e w)
  obtain ⟨q, hq⟩ : ∃ x, errI ads 14 = x := ⟨_, rfl⟩
  rw [hq] at ce ⊢
  clear hq h
  go_enter Tryd.func36, Tryd.ntmps36
  go_wp2_with (go_at_call 55; (with_reducible refine (HK.out _).mono ?_); rintro e' w' ⟨rfl, rfl⟩)
  go_quiet (fail)
  go_wp2
  go_ret2
  exact ⟨rfl, kp_drewT (Kp.refl _) _⟩
set_option maxRecDepth 100000 in
theorem step_sends (ads : List Addr) (p e k s : Int) (h : rightT p e = true) (h2 : sendsT p e k = false) (w : World) (ce : w.cell? ⟨0, 0, none⟩ = some (errI ads 4)) : Calls Tryd.prog 36 #[.int .i64 p, .int .i64 e, .int .i64 k, .int .i64 s] w fun e' w' => e' = .returned (.tuple #[.int .i64 0, errI ads 4]) ∧ Kp w w' := by
  have HK := Lib.hid (fun w => h ▸ known_any p e w)
  have HT := Lib.hid (fun w => h2 ▸ sends_any p e k (rightT_rng h).2 w)
  obtain ⟨q, hq⟩ : ∃ x, errI ads 4 = x := ⟨_, rfl⟩
  rw [hq] at ce ⊢
  clear hq h h2
  go_enter Tryd.func36, Tryd.ntmps36
  go_wp2_with (first | (go_at_call 55; (with_reducible refine (HK.out _).mono ?_); rintro e' w' ⟨rfl, rfl⟩) | (go_at_call 64; (with_reducible refine (HT.out _).mono ?_); rintro e' w' ⟨rfl, rfl⟩))
  go_quiet (fail)
  go_wp2
  go_ret2
  exact ⟨rfl, kp_drewT (Kp.refl _) _⟩
set_option maxRecDepth 100000 in
theorem step_has (ads : List Addr) (p e k s : Int) (h : rightT p e = true) (h2 : sendsT p e k = true) (h3 : hasT p e s = false) (w : World) (ce : w.cell? ⟨1, 0, none⟩ = some (errI ads 1)) : Calls Tryd.prog 36 #[.int .i64 p, .int .i64 e, .int .i64 k, .int .i64 s] w fun e' w' => e' = .returned (.tuple #[.int .i64 0, errI ads 1]) ∧ Kp w w' := by
  have HK := Lib.hid (fun w => h ▸ known_any p e w)
  have HT := Lib.hid (fun w => h2 ▸ sends_any p e k (rightT_rng h).2 w)
  have HH := Lib.hid (fun w => h3 ▸ has_any p e s w)
  obtain ⟨q, hq⟩ : ∃ x, errI ads 1 = x := ⟨_, rfl⟩
  rw [hq] at ce ⊢
  clear hq h h2 h3
  go_enter Tryd.func36, Tryd.ntmps36
  go_wp2_with (first | (go_at_call 55; (with_reducible refine (HK.out _).mono ?_); rintro e' w' ⟨rfl, rfl⟩) | (go_at_call 64; (with_reducible refine (HT.out _).mono ?_); rintro e' w' ⟨rfl, rfl⟩) | (go_at_call 57; (with_reducible refine (HH.out _).mono ?_); rintro e' w' ⟨rfl, rfl⟩))
  go_quiet (fail)
  go_wp2
  go_ret2
  exact ⟨rfl, kp_drewT (Kp.refl _) _⟩
set_option maxRecDepth 100000 in
theorem wt_known (ads : List Addr) (p e s : Int) (h : rightT p e = false) (w : World) (ce : w.cell? ⟨13, 0, none⟩ = some (errI ads 14)) : Calls Tryd.prog 40 #[.int .i64 p, .int .i64 e, .int .i64 s] w fun e' w' => e' = .returned (.tuple #[.int .i64 0, errI ads 14]) ∧ Kp w w' := by
  have HK := Lib.hid (fun w => h ▸ known_any p e w)
  obtain ⟨q, hq⟩ : ∃ x, errI ads 14 = x := ⟨_, rfl⟩
  rw [hq] at ce ⊢
  clear hq h
  go_enter Tryd.func40, Tryd.ntmps40
  go_wp2_with (go_at_call 55; (with_reducible refine (HK.out _).mono ?_); rintro e' w' ⟨rfl, rfl⟩)
  go_quiet (fail)
  go_wp2
  go_ret2
  exact ⟨rfl, kp_drewT (Kp.refl _) _⟩
set_option maxRecDepth 100000 in
theorem wt_has (ads : List Addr) (p e s : Int) (h : rightT p e = true) (h3 : hasT p e s = false) (w : World) (ce : w.cell? ⟨1, 0, none⟩ = some (errI ads 1)) : Calls Tryd.prog 40 #[.int .i64 p, .int .i64 e, .int .i64 s] w fun e' w' => e' = .returned (.tuple #[.int .i64 0, errI ads 1]) ∧ Kp w w' := by
  have HK := Lib.hid (fun w => h ▸ known_any p e w)
  have HH := Lib.hid (fun w => h3 ▸ has_any p e s w)
  obtain ⟨q, hq⟩ : ∃ x, errI ads 1 = x := ⟨_, rfl⟩
  rw [hq] at ce ⊢
  clear hq h h3
  go_enter Tryd.func40, Tryd.ntmps40
  go_wp2_with (first | (go_at_call 55; (with_reducible refine (HK.out _).mono ?_); rintro e' w' ⟨rfl, rfl⟩) | (go_at_call 57; (with_reducible refine (HH.out _).mono ?_); rintro e' w' ⟨rfl, rfl⟩))
  go_quiet (fail)
  go_wp2
  go_ret2
  exact ⟨rfl, kp_drewT (Kp.refl _) _⟩
end Go.Proofs.YtghjnhdepeiloaaDoor
