/- Parts of this proof (own work). -/
import Derived.Test.YtncoofnhifcnhaaGreatDoorZb21
set_option maxRecDepth 100000
set_option maxHeartbeats 40000000
namespace Go.Proofs.YtncoofnhifcnhaaGreatDoor
open Go.RowKit Go.ChangeShapes Go.WideShapes
theorem refActF_any (nn si : Int) (w : World) :
  Calls Tryz.prog 100 #[.agg #[nn, si]] w fun e w' => e = .returned (.bool (rightA nn si)) ∧ Kp w w' := by
 go_enter Tryz.func100, Tryz.ntmps100; go_wp2
 all_goals (go_ret; refine ⟨?_, kA _ _⟩; simp [rightA, *] <;> (intros; omega))
theorem rstate_1 (t h : Int) (ht : t = 14) (hh : h = 1) (w : World) : Calls Tryz.prog 117 #[.int .i64 t, .int .i64 h] w fun e w' => e = .returned (.bool true) ∧ w = w' := by
 subst ht hh; go_enter Tryz.func117, Tryz.ntmps117; go_wp2; go_ret; exact ⟨by first | rfl | simp [*], rfl⟩
theorem rstate_2 (t h : Int) (ht : t = 14) (hh : h ≠ 1) (h4 : 4 ≤ h) (w : World) : Calls Tryz.prog 117 #[.int .i64 t, .int .i64 h] w fun e w' => e = .returned (.bool (decide (h ≤ 8))) ∧ w = w' := by
 subst ht; have g1 : (h == 1) = false := by simpa using hh
 have g2 : decide (4 ≤ h) = true := dT h4; clear hh h4; go_enter Tryz.func117, Tryz.ntmps117; go_wp2; go_ret; exact ⟨by first | rfl | simp [*], rfl⟩
theorem rstate_3 (t h : Int) (ht : t = 14) (hh : h ≠ 1) (h4 : ¬ 4 ≤ h) (w : World) : Calls Tryz.prog 117 #[.int .i64 t, .int .i64 h] w fun e w' => e = .returned (.bool false) ∧ w = w' := by
 subst ht; have g1 : (h == 1) = false := by simpa using hh
 have g2 : decide (4 ≤ h) = false := dF h4; clear hh h4; go_enter Tryz.func117, Tryz.ntmps117; go_wp2; go_ret; exact ⟨by first | rfl | simp [*], rfl⟩
theorem rstate_4 (t h : Int) (ht : t ≠ 14) (h1 : ¬ 1 ≤ t) (w : World) : Calls Tryz.prog 117 #[.int .i64 t, .int .i64 h] w fun e w' => e = .returned (.bool false) ∧ w = w' := by
 have g1 : (t == 14) = false := by simpa using ht
 have g2 : decide (1 ≤ t) = false := dF h1; clear ht h1; go_enter Tryz.func117, Tryz.ntmps117; go_wp2; go_ret; exact ⟨by first | rfl | simp [*], rfl⟩
theorem rstate_5 (t h : Int) (ht : t ≠ 14) (h1 : 1 ≤ t) (h13 : ¬ t ≤ 13) (w : World) : Calls Tryz.prog 117 #[.int .i64 t, .int .i64 h] w fun e w' => e = .returned (.bool false) ∧ w = w' := by
 have g1 : (t == 14) = false := by simpa using ht
 have g2 : decide (1 ≤ t) = true := dT h1; have g3 : decide (t ≤ 13) = false := dF h13; clear ht h1 h13; go_enter Tryz.func117, Tryz.ntmps117; go_wp2; go_ret; exact ⟨by first | rfl | simp [*], rfl⟩
theorem rstate_6 (t h : Int) (ht : t ≠ 14) (h1 : 1 ≤ t) (h13 : t ≤ 13) (w : World) : Calls Tryz.prog 117 #[.int .i64 t, .int .i64 h] w fun e w' => e = .returned (.bool (h == 0)) ∧ w = w' := by
 have g1 : (t == 14) = false := by simpa using ht
 have g2 : decide (1 ≤ t) = true := dT h1; have g3 : decide (t ≤ 13) = true := dT h13; clear ht h1 h13; go_enter Tryz.func117, Tryz.ntmps117; go_wp2; go_ret; exact ⟨by first | rfl | simp [*], rfl⟩
theorem refState_any (t h : Int) (w : World) : Calls Tryz.prog 117 #[.int .i64 t, .int .i64 h] w fun e w' => e = .returned (.bool (seatX t h)) ∧ w = w' := by
 unfold seatX
 by_cases ht : t = 14
 ·rw [if_pos ht]
  by_cases h1 : h = 1
  ·rw [dT (.inl h1)]; exact rstate_1 t h ht h1 w
  by_cases h4 : 4 ≤ h
  ·rw [show decide (h = 1 ∨ 4 ≤ h ∧ h ≤ 8) = decide (h ≤ 8) by simp [h1, h4]]; exact rstate_2 t h ht h1 h4 w
  ·rw [dF (by omega)]; exact rstate_3 t h ht h1 h4 w
 ·rw [if_neg ht]
  by_cases h1 : 1 ≤ t
  ·by_cases h13 : t ≤ 13
   ·rw [show decide (1 ≤ t ∧ t ≤ 13 ∧ h = 0) = (h == 0) by rw [Bool.eq_iff_iff]; simp [h1, h13]]; exact rstate_6 t h ht h1 h13 w
   ·rw [dF (by omega)]; exact rstate_5 t h ht h1 h13 w
  ·rw [dF (by omega)]; exact rstate_4 t h ht h1 w
theorem refNumbers_any (f : FX) (w : World) : Calls Tryz.prog 82 #[.agg f.cells] w fun e w' => ∃ g, e = .returned (.slice (some ⟨g, 0, none⟩) 13 13) ∧ w'.ownsRow w.heap.size 3 1 (.slice (some ⟨g, 0, none⟩) 13 13) 13 (f.nums.map (Value.int .i64)) ∧ Kp w w' := by
 obtain ⟨k, n, s, r, e, p, q, o, d, a, t, hh, c, x⟩ := f; dsimp only [FX.cells]; have HR := hD (mH w (.cells #[k, n, s, r, e, p, q, o, d, a, t, hh, c, x] 82)); obtain ⟨b0, b1, b2, b3, b4, b5, b6, b7, b8, b9, b10, b11, b12, b13⟩ := cZ HR.out; have K := hD (kT (kA w (.cells #[k, n, s, r, e, p, q, o, d, a, t, hh, c, x] 82)) (kA (w.alloc (.cells #[k, n, s, r, e, p, q, o, d, a, t, hh, c, x] 82)) (.cells #[k, n, s, r, e, p, q, o, d, a, t, hh, c] 3))); have h1 := World.ownsRow_lit (base := w.heap.size) (e := 3) (size := 1) (w.alloc (.cells #[k, n, s, r, e, p, q, o, d, a, t, hh, c, x] 82)) #[.int .i64 k, .int .i64 n, .int .i64 s, .int .i64 r, .int .i64 e, .int .i64 p, .int .i64 q, .int .i64 o, .int .i64 d, .int .i64 a, .int .i64 t, .int .i64 hh, .int .i64 c] 13 (by simp) (by decide) rfl; have H1 := hD h1; clear h1; go_enter Tryz.func82, Tryz.ntmps82; go_wp2; go_ret; exact ⟨_, rfl, by simpa [FX.nums] using H1.out, K.out⟩
end Go.Proofs.YtncoofnhifcnhaaGreatDoor
